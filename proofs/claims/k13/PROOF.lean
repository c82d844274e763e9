import PyProof.Rows.All
import Wide.All
import OpenK.AllK
import Wide.FinOn
import PyProof.ReprRoads
import PyProof.ReprLen
import HandS.ForMost
import HandS.Conv
import HandS.IsInst
import HandS.TupAny
import HandS.TupMul
import HandS.Wide
import HandS.Style
import HandS.Evl
import HandS.Strs
import HandS.Codes
import HandS.StrMore
import HandS.Replace
import PyProof.TupleOfStr
import HandS.NoneIn
import KE.GoesMore
import HandS.Walk
import HandS.Small
import HandS.Deep
import HandS.HeadHook3
import PyProof.ListStr
import PySem.Challenge.RW_sortedshelves_k13_smallest_machines
import PyProof.ListTruth
import HandS.ReSub
import PyProof.ListRange
import HandS.WordsDict
import HandS.Zip
import HandS.TupLen
set_option Elab.async false
set_option linter.all false
set_option maxRecDepth 100000
set_option maxHeartbeats 4000000
namespace Ver
open PySem PySem.Spec PyProof.Rows L2
set_option pp.maxSteps 200
set_option pp.deepTerms false

/-! ### data as it lies in the heap, apart from the addresses in B -/
mutual
inductive Dt (B : Addr → Prop) (K : PySem.W.Frag) (H : Hp) : V → PyData → Prop
  | non : Dt B K H .non .none
  | bl (b : Bool) : Dt B K H (.bl b) (.bool b)
  | int (i : Int) : Dt B K H (.int i) (.int i)
  | str (x : Str) : Dt B K H (.str x) (.str x)
  | lst {a : Addr} {xs : List V} {ds : List PyData} (nb : ¬ B a) (ne : a ≠ sysModules) (hs : Rd H a (.lst xs)) (ha : DtAll B K H xs ds) : Dt B K H (.ref a) (.list ds)
  | tup {a : Addr} {xs : List V} {ds : List PyData} (nb : ¬ B a) (hs : Rd H a (.tup xs)) (ha : DtAll B K H xs ds) : Dt B K H (.ref a) (.tuple ds)
  | emp {a : Addr} (nb : ¬ B a) (h : H a = some (.dK [])) : Dt B K H (.ref a) (.dict [])
inductive DtAll (B : Addr → Prop) (K : PySem.W.Frag) (H : Hp) : List V → List PyData → Prop
  | nil : DtAll B K H [] []
  | cons {v : V} {vs : List V} {d : PyData} {ds : List PyData} (hd : Dt B K H v d) (tl : DtAll B K H vs ds) : DtAll B K H (v :: vs) (d :: ds)
end

/-- all that is tracked outside of B stays -/
def Keep (B : Addr → Prop) (H H' : Hp) : Prop := ∀ b o, ¬ B b → H b = some o → H' b = some o
theorem Keep.rfl' {B : Addr → Prop} {H : Hp} : Keep B H H := fun _ _ _ e => e
theorem Keep.trans {B : Addr → Prop} {H H1 H2 : Hp} (x : Keep B H H1) (y : Keep B H1 H2) : Keep B H H2 := fun b o n e => y b o n (x b o n e)
theorem Keep.same {B : Addr → Prop} {H H' : Hp} (x : Same H H') : Keep B H H' := fun b o _ e => x b o e
theorem keep_new {B : Addr → Prop} {H : Hp} {p : Addr} {o : HO} (n : H p = none) : Keep B H (upd H p o) := fun b u _ e => by
  rw [upd_ne (ne_of_none e n)]
  exact e
theorem same_new {H : Hp} {p : Addr} {o : HO} (n : H p = none) : Same H (upd H p o) := fun b u e => by
  rw [upd_ne (ne_of_none e n)]
  exact e
theorem Keep.rd {B : Addr → Prop} {H H' : Hp} {a : Addr} {o : HO} (k : Keep B H H') (nb : ¬ B a) (h : Rd H a o) : Rd H' a o := by
  rcases h with h | ⟨u, h⟩
  · exact .inl (k _ _ nb h)
  · exact .inr ⟨u, k _ _ nb h⟩
theorem Keep.seqL {B : Addr → Prop} {K : PySem.W.Frag} {H H' : Hp} {a : Addr} {xs : List V} (k : Keep B H H') (nb : ¬ B a) (h : SqL K H a xs) : SqL K H' a xs := by
  rcases h with (h | ⟨o, h⟩) | h
  · exact .inl (.inl (k _ _ nb h))
  · exact .inl (.inr ⟨o, k _ _ nb h⟩)
  · exact .inr h
theorem Keep.seqT {B : Addr → Prop} {K : PySem.W.Frag} {H H' : Hp} {a : Addr} {xs : List V} (k : Keep B H H') (nb : ¬ B a) (h : SqT K H a xs) : SqT K H' a xs := by
  rcases h with (h | ⟨o, h⟩) | h
  · exact .inl (.inl (k _ _ nb h))
  · exact .inl (.inr ⟨o, k _ _ nb h⟩)
  · exact .inr h
mutual
theorem Dt.keep {B : Addr → Prop} {K : PySem.W.Frag} {H H' : Hp} (k : Keep B H H') : ∀ (d : PyData) (v : V), Dt B K H v d → Dt B K H' v d
  | .none, _, h => by cases h; exact .non
  | .bool _, _, h => by cases h; exact .bl _
  | .int _, _, h => by cases h; exact .int _
  | .str _, _, h => by cases h; exact .str _
  | .list ds, _, h => by
    cases h with
    | lst nb ne hs ha => exact .lst nb ne (k.rd nb hs) (DtAll.keep k ds _ ha)
  | .tuple ds, _, h => by
    cases h with
    | tup nb hs ha => exact .tup nb (k.rd nb hs) (DtAll.keep k ds _ ha)
  | .dict _, _, h => by
    cases h with
    | emp nb e => exact .emp nb (k _ _ nb e)
theorem DtAll.keep {B : Addr → Prop} {K : PySem.W.Frag} {H H' : Hp} (k : Keep B H H') : ∀ (ds : List PyData) (vs : List V), DtAll B K H vs ds → DtAll B K H' vs ds
  | [], _, h => by cases h; exact .nil
  | d :: ds, _, h => by
    cases h with
    | cons h1 h2 => exact .cons (Dt.keep k d _ h1) (DtAll.keep k ds _ h2)
end
theorem DtAll.len {B : Addr → Prop} {K : PySem.W.Frag} {H : Hp} : ∀ {vs : List V} {ds : List PyData}, DtAll B K H vs ds → vs.length = ds.length
  | _, _, .nil => rfl
  | _, _, .cons _ t => congrArg (· + 1) (DtAll.len t)
theorem DtAll.append {B : Addr → Prop} {K : PySem.W.Frag} {H : Hp} : ∀ {vs ws : List V} {ds es : List PyData}, DtAll B K H vs ds → DtAll B K H ws es → DtAll B K H (vs ++ ws) (ds ++ es)
  | _, _, _, _, .nil, q => q
  | _, _, _, _, .cons r t, q => .cons r (DtAll.append t q)
theorem DtAll.take {B : Addr → Prop} {K : PySem.W.Frag} {H : Hp} : ∀ {vs : List V} {ds : List PyData} (n : Nat), DtAll B K H vs ds → DtAll B K H (vs.take n) (ds.take n)
  | _, _, 0, _ => .nil
  | _, _, _ + 1, .nil => .nil
  | _, _, n + 1, .cons r t => .cons r (DtAll.take n t)
theorem DtAll.drop {B : Addr → Prop} {K : PySem.W.Frag} {H : Hp} : ∀ {vs : List V} {ds : List PyData} (n : Nat), DtAll B K H vs ds → DtAll B K H (vs.drop n) (ds.drop n)
  | _, _, 0, h => h
  | _, _, _ + 1, .nil => .nil
  | _, _, n + 1, .cons _ t => DtAll.drop n t
theorem DtAll.get {B : Addr → Prop} {K : PySem.W.Frag} {H : Hp} : ∀ {vs : List V} {ds : List PyData} {i : Nat} {d : PyData}, DtAll B K H vs ds → ds[i]? = some d → ∃ v, vs[i]? = some v ∧ Dt B K H v d
  | _, _, _, _, .nil, e => by simp at e
  | _, _, 0, _, .cons r _, e => by
    simp at e
    subst e
    exact ⟨_, rfl, r⟩
  | _, _, i + 1, _, .cons _ t, e => by
    obtain ⟨v, h1, h2⟩ := DtAll.get (i := i) t (by simpa using e)
    exact ⟨v, by simpa using h1, h2⟩
theorem DtAll.getV {B : Addr → Prop} {K : PySem.W.Frag} {H : Hp} : ∀ {vs : List V} {ds : List PyData} {i : Nat} {v : V}, DtAll B K H vs ds → vs[i]? = some v → ∃ d, ds[i]? = some d ∧ Dt B K H v d
  | _, _, _, _, .nil, e => by simp at e
  | _, _, 0, _, .cons r _, e => by
    simp at e
    subst e
    exact ⟨_, rfl, r⟩
  | _, _, i + 1, _, .cons _ t, e => by
    obtain ⟨v, h1, h2⟩ := DtAll.getV (i := i) t (by simpa using e)
    exact ⟨v, by simpa using h1, h2⟩
theorem DtAll.rev {B : Addr → Prop} {K : PySem.W.Frag} {H : Hp} : ∀ {vs : List V} {ds : List PyData}, DtAll B K H vs ds → DtAll B K H vs.reverse ds.reverse
  | _, _, .nil => .nil
  | _, _, .cons r t => by
    rw [List.reverse_cons, List.reverse_cons]
    exact (DtAll.rev t).append (.cons r .nil)
theorem DtAll.rep {B : Addr → Prop} {K : PySem.W.Frag} {H : Hp} {v : V} {d : PyData} (h : Dt B K H v d) : ∀ n : Nat, DtAll B K H (List.replicate n v) (List.replicate n d)
  | 0 => .nil
  | n + 1 => .cons h (DtAll.rep h n)

section
variable {X : Cx} {pins : List (Addr × Obj)} {σ : L2.St} {H : Hp} {s : Shared}
theorem no_entries {knd : KeyKind X.prog X.w Key} {es : List DictEntry} (h : PySem.Pairs knd es ([] : List (Key × Value))) : es = [] := by
  cases h
  rfl
mutual
theorem Dt.reads {B : Addr → Prop} (I : Inv X pins σ H s) : ∀ (d : PyData) (v : V) (u : Value), Dt B X.K H v d → RelV v u → ∃ as, Reads s.heap u d as ∧ sysModules ∉ as
  | .none, _, _, h, r => by
    cases h
    cases r
    exact ⟨[], .none, List.not_mem_nil⟩
  | .bool b, _, _, h, r => by
    cases h
    cases r
    exact ⟨[], .bool b, List.not_mem_nil⟩
  | .int i, _, _, h, r => by
    cases h
    obtain ⟨t, rfl⟩ := r
    exact ⟨[], .int i t, List.not_mem_nil⟩
  | .str x, _, _, h, r => by
    cases h
    obtain ⟨t, rfl⟩ := r
    exact ⟨[], .str x t, List.not_mem_nil⟩
  | .list ds, _, _, h, r => by
    cases h with
    | lst nb ne hs ha =>
      cases r
      obtain ⟨its, rv, ⟨ob, n, ho, hc, _, hd⟩, _⟩ := I.list (.inl hs)
      obtain ⟨as, hr, hn⟩ := DtAll.reads I ds _ its ha rv
      refine ⟨_, .list ho hc hd hr, fun z => ?_⟩
      rcases List.mem_cons.mp z with z | z
      · exact ne z.symm
      · exact hn z
  | .tuple ds, _, _, h, r => by
    cases h with
    | tup nb hs ha =>
      cases r
      obtain ⟨its, rv, ⟨ob, ho, hc, n, hd⟩, _⟩ := I.tuple (.inl hs)
      obtain ⟨as, hr, hn⟩ := DtAll.reads I ds _ its ha rv
      exact ⟨_, .tuple ho hc hd hr, hn⟩
  | .dict _, _, _, h, r => by
    cases h with
    | emp nb e =>
      cases r
      obtain ⟨_, hm, vs, rel, ob, es, ep, ho, hx, hd, _, hp, _⟩ := dk_of I.hok e
      cases rel
      have he := no_entries hp
      refine ⟨_, .dict (kvs := []) ho hx.1 hd (by rw [he]; exact .nil) (by rw [he]; exact .nil), fun z => ?_⟩
      rcases List.mem_cons.mp z with z | z
      · rw [← z] at hm
        simp at hm
      · simp at z
theorem DtAll.reads {B : Addr → Prop} (I : Inv X pins σ H s) : ∀ (ds : List PyData) (vs : List V) (us : List Value), DtAll B X.K H vs ds → Vals vs us → ∃ as, ReadsAll s.heap us ds as ∧ sysModules ∉ as
  | [], _, _, h, r => by
    cases h
    cases r
    exact ⟨[], .nil, List.not_mem_nil⟩
  | d :: ds, _, _, h, r => by
    cases h with
    | cons h1 h2 =>
      cases r with
      | cons r1 r2 =>
        obtain ⟨as, q1, n1⟩ := Dt.reads I d _ _ h1 r1
        obtain ⟨bs, q2, n2⟩ := DtAll.reads I ds _ _ h2 r2
        refine ⟨_, .cons q1 q2, fun z => ?_⟩
        rcases List.mem_append.mp z with z | z
        · exact n1 z
        · exact n2 z
end
end

/-! ### repr -/
section
variable {X : Cx}
def rRepr (K : PySem.W.Frag) : List V → Hp → VK → Prop := fun xs H Q => ∃ (x : V) (d : PyData) (B : Addr → Prop), xs = [x] ∧ Dt B K H x d ∧ d.showable = true ∧ d.depth ≤ 60 ∧ d.shown.length ≤ sizeLine ∧ Q (.str d.shown) H
theorem call_reprD (hG : X.A.guards = some []) (hu : X.A.units + 64 < cLine) : CallR X (.builtin "repr") (rRepr X.K) := by
  intro pins s σ H xs us Q I r h
  obtain ⟨x, d, B, rfl, hd, hs, hdp, hz, q⟩ := h
  obtain ⟨u, rfl, rx⟩ := vals1 r
  obtain ⟨as, rd, hn⟩ := Dt.reads I d x u hd rx
  cases hd with
  | non =>
    cases rx
    exact PySem.P.repr_of_none ⟨.str _, H, I.tok _, ⟨_, rfl⟩, q⟩
  | bl b =>
    cases rx
    exact PySem.P.repr_of_bool ⟨.str _, H, I.tok _, ⟨_, rfl⟩, q⟩
  | int i =>
    obtain ⟨t, rfl⟩ := rx
    exact PySem.P.repr_of_int (by simpa [PyData.showable] using hs) ⟨.str _, H, I.tok _, ⟨_, rfl⟩, q⟩
  | str y =>
    obtain ⟨t, rfl⟩ := rx
    exact PySem.P.repr_of_str ⟨.str _, H, I.tok _, ⟨_, rfl⟩, q⟩ (by simpa only [PyData.shown] using hz)
  | lst nb ne hs' ha =>
    cases rx
    exact repr_of_reads' rd hs (fun _ => hn) hG (by omega) (fun _ _ e => e) (fun h' u tk hk => ⟨.str _, H, I.kept hk, ⟨_, rfl⟩, q⟩) hz
  | tup nb hs' ha =>
    cases rx
    exact repr_of_reads' rd hs (fun _ => hn) hG (by omega) (fun _ _ e => e) (fun h' u tk hk => ⟨.str _, H, I.kept hk, ⟨_, rfl⟩, q⟩) hz
  | emp nb e =>
    cases rx
    exact repr_of_reads' rd hs (fun _ => hn) hG (by omega) (fun _ _ e => e) (fun h' u tk hk => ⟨.str _, H, I.kept hk, ⟨_, rfl⟩, q⟩) hz
end

/-! ### a def called where nothing is being shown (no repr under way) -/
section
variable {P : Program} {w : World} {K : PySem.W.Frag} {mg : Str → Option Value} {base : Heap}
def GRun (P : Program) (w : World) (K : PySem.W.Frag) (mg : Str → Option Value) (base : Heap) (k : Nat) (f : Addr) (fd : FuncData) (ps : List Str) (sp : Sp) : Prop :=
  ∀ (A : Around) (outer : List Env) (s : Shared) (H : Hp) (us : List Value) (vs : List V) (Q : VK),
    A.guards = some [] → Room k A → Env0 P w K mg base A outer s H → BindsTo s fd ⟨us, []⟩ (ps.zip us) → Vals vs us → vs.length = ps.length → sp vs H Q E0 →
    codeAny (model P w) A (.call (.ref f) ⟨us, []⟩) (CR CX0 outer P w H s Q E0) s
theorem grun {x qual : Str} {st : Stmt} {f : Addr} {fd : FuncData} {N ps : List Str} {k : Nat} {sp : Sp} (F : Fun K x qual st f fd) (S : FnScope N ps (defScope st))
    (body : ∀ (cdv : Value) (A : Around) (outer : List Env) (s : Shared) (H : Hp) (vs : List V) (Q : VK), A.guards = some [] → Room k (A.deeper (envOfC qual (defScope st) s.heap.objs.size f cdv)) → sp vs H Q E0 →
      ∃ t, PSs (cxOf CX0 P w K mg base N qual (defScope st) f cdv A outer s H E0).nox (defBody st) t ∧ t { nx := fun _ H' => Q .non H', rt := Q } (start N vs) H) :
    GRun P w K mg base (k + 1) f fd ps sp := by
  obtain ⟨oc, od, kV, doc, pm, an, cdv, ct, osl, rfl, lk, hcd⟩ := F.ex
  intro A outer s H us vs Q hG hr e0 hb r hl hsp
  have inK : K.In s.heap := e0.mod.kin.keeps (fun b o q => (e0.bs b o q).1)
  have noL : s.heap.NoLimit := e0.mod.nolimit.keeps (fun b o q => (e0.bs b o q).1)
  have kinds : ∀ y ∈ ps.zip us, (defScope st).names.lookup y.1 = some .local ∨ ((defScope st).names.lookup y.1 = some .cell ∧ ((cellsFrom (s.heap.objs.size + 1) (defScope st).names []).lookup y.1).isSome = true) := by
    intro y hy
    obtain ⟨n, v⟩ := y
    cases S.par n (List.of_mem_zip hy).1 with
    | inl q => exact Or.inl q
    | inr q => exact Or.inr ⟨q, PySem.W.cellsFrom_some _ _ _ (Or.inl q)⟩
  refine codeAny_call_function hr.depth (inK _ _ lk) rfl S.co S.gen rfl (PySem.W.codeRec_of inK hcd) (hb _ _ _ _ ?_)
  refine wpAny_newFunctionEnv_cells S.kind kinds (fun env he s1 x => ?_)
  cases he
  obtain ⟨t, ht, hq⟩ := body cdv A outer s H vs Q hG (hr.deeper _) hsp
  have J := inv_start (CX := CX0) (mg := mg) (E := E0) S hr.hd e0 hl r x
  refine ⟨noL.keeps x.toInCall.keep, codeAny_func (wpAny_mono (ht.nox.run [] s1 (start N vs) H _ J hq) ?_ (fun e s' z => z))⟩
  intro fl s' z
  cases fl with
  | next =>
    obtain ⟨_, H', J', q⟩ := z
    exact ⟨.non, H', J'.os, J'.bare, J'.base, J'.hok, rfl, q⟩
  | ret u =>
    obtain ⟨v, _, H', J', rv, q⟩ := z
    exact ⟨v, H', J'.os, J'.bare, J'.base, J'.hok, rv, q⟩
  | brk => exact (z.choose_spec.choose_spec.2).elim
  | cont => exact (z.choose_spec.choose_spec.2).elim

/-- called from outside with the object at a, the def at fa answers True and leaves what stood -/
abbrev TrueAt (P : Program) (w : World) (fa a : Addr) (t : Shared) : Prop :=
  codeAny (model P w) callerA (.call (.ref fa) ⟨[.ref a], []⟩)
    (fun r u => r = .ok (.ret (.bool true)) ∧
      OldK t.heap u.heap ∧ u.os = t.os ∧ AllBare u.gens) t
/-- nothing but one list of ints, known, is tracked -/
theorem gcall {k : Nat} {fa a : Addr} {fd : FuncData} {x : Str} {sp : Sp} {s₁ : Shared} {mb : Str → Option Value} {H : Hp}
    (inH : K.In s₁.heap) (atG : s₁.heap.Ns mainGlobals mg) (hb : s₁.heap.Ns builtinsNs mb) (bB : ∀ x : Str, x ≠ "__name__" → mb x = bootBuiltins x) (lim : s₁.heap.NoLimit) (hg : s₁.gens = #[])
    (hr : Room k callerA) (R : ∀ base : Heap, K.In base → base.Ns mainGlobals mg → GRun P w K mg base k fa fd [x] sp) (bind : ∀ (s : Shared) (u : Value), BindsTo s fd ⟨[u], []⟩ [(x, u)])
    (hok : HOk P w H s₁.heap) (only : ∀ b o, H b = some o → b = a ∧ (∃ ob xs, o = .frz ob (.lst xs) ∧ ∀ es ep, ob.data ≠ .dict es ep) ∧ K.lookup a = none)
    (hsp : sp [.ref a] H (fun v _ => v = .bl true) E0) :
    TrueAt P w fa a s₁ := by
  have plain : ∀ {b : Addr} {o : Obj} {es : Array DictEntry} {ep : Nat}, s₁.heap.get? b = some o → o.data = .dict es ep → H b = none := by
    intro b o es ep q d
    cases z : H b with
    | none => rfl
    | some u =>
      obtain ⟨_, ⟨ob, xs, rfl, nd⟩, _⟩ := only b u z
      obtain ⟨q2, _⟩ := hok b _ z
      rw [q] at q2
      cases q2
      exact absurd d (nd es ep)
  have nsB : ∀ {b : Addr} {m : Str → Option Value}, s₁.heap.Ns b m → (hidT s₁.heap H).Ns b m := by
    rintro b m ⟨o, es, ep, q, d, r⟩
    exact ⟨o, es, ep, hidT_get q (plain q d), d, r⟩
  have kB : K.In (hidT s₁.heap H) := by
    intro b o q
    refine hidT_get (inH b o q) ?_
    cases z : H b with
    | none => rfl
    | some u =>
      obtain ⟨e, _, n⟩ := only b u z
      rw [e, n] at q
      cases q
  have md : L2.Mod K mg (hidT s₁.heap H) := by
    obtain ⟨mc, l1, l2⟩ := lim
    exact ⟨kB, nsB atG, ⟨mb, nsB hb, bB⟩, ⟨mc, nsB l1, l2⟩⟩
  have env : Env0 P w K mg (hidT s₁.heap H) callerA [] s₁ H :=
    { frames := rfl, mod := md, bs := fun b o q => of_hidT q, bsz := Nat.le_of_eq (hidT_size _ _), funs := trivial, frf := fun b z => absurd z List.not_mem_nil, hok := hok, bare := .of_eq hg }
  have run := R _ kB (nsB atG) callerA [] s₁ H [.ref a] [.ref a] _ rfl hr env (bind s₁ (.ref a)) (.cons rfl .nil) rfl hsp
  refine codeAny_mono run (fun r s' z => ?_)
  match r, z with
  | .error _, z => exact z.elim
  | .ok .next, z => exact z.elim
  | .ok .brk, z => exact z.elim
  | .ok .cont, z => exact z.elim
  | .ok (.ret u), ⟨v, H', os, bare, un, hok', rv, q⟩ =>
    have q : v = .bl true := q
    cases q
    have rv : u = Value.bool true := rv
    cases rv
    refine ⟨rfl, .of_keep (fun b o e => ?_), os, bare⟩
    cases z : H b with
    | none => exact un.keep b o e z List.not_mem_nil List.not_mem_nil
    | some u =>
      obtain ⟨_, ⟨ob, xs, rfl, _⟩, _⟩ := only b u z
      have g1 := (hok b _ z).1
      have g2 := (hok' b _ (un.frzs b ob _ z)).1
      rw [e] at g1
      cases g1
      exact g2
/-- the law's call, the script tracked or written -/
theorem glaw {k : Nat} {fa a : Addr} {fd : FuncData} {x : Str} {sp : Sp} {s₁ : Shared} {mb : Str → Option Value} {vs : List Value} {ns : List Int}
    (inH : K.In s₁.heap) (atG : s₁.heap.Ns mainGlobals mg) (hb : s₁.heap.Ns builtinsNs mb) (bB : ∀ x : Str, x ≠ "__name__" → mb x = bootBuiltins x) (lim : s₁.heap.NoLimit) (hg : s₁.gens = #[])
    (ha : s₁.heap.get? a = some { cls := .type "list", data := .seq vs.toArray }) (hi : IntsAre vs ns) (hl : ns.length ≤ sizeLine)
    (hr : Room k callerA) (R : ∀ base : Heap, K.In base → base.Ns mainGlobals mg → GRun P w K mg base k fa fd [x] sp) (bind : ∀ (s : Shared) (u : Value), BindsTo s fd ⟨[u], []⟩ [(x, u)])
    (hsp : ∀ H : Hp, SqL K H a (ns.map V.int) → sp [.ref a] H (fun v _ => v = .bl true) E0) :
    TrueAt P w fa a s₁ := by
  have rv := vals_ints hi
  cases q : K.lookup a with
  | some o =>
    have e := (inH a o q).symm.trans ha
    cases e
    refine gcall (H := fun _ => none) inH atG hb bB lim hg hr R bind (fun b u z => by cases z) (fun b u z => by cases z) (hsp _ (.inr ⟨_, vs.toArray, _, q, rfl, rfl, rfl, ?_, by simpa using rv⟩))
    rw [List.size_toArray, hi.length]
    exact hl
  | none =>
    have tr : ∀ b u, upd (fun _ => none) a (.frz { cls := .type "list", data := .seq vs.toArray } (.lst (ns.map V.int))) b = some u → b = a ∧ u = .frz { cls := .type "list", data := .seq vs.toArray } (.lst (ns.map V.int)) := by
      intro b u z
      by_cases h : b = a
      · rw [h, upd_same] at z
        exact ⟨h, (Option.some.inj z).symm⟩
      · rw [upd_ne h] at z
        cases z
    refine gcall (H := upd (fun _ => none) a (.frz { cls := .type "list", data := .seq vs.toArray } (.lst (ns.map V.int)))) inH atG hb bB lim hg hr R bind (fun b u z => ?_) (fun b u z => ?_) (hsp _ (.inl (.inr ⟨_, upd_same⟩)))
    · obtain ⟨rfl, rfl⟩ := tr b u z
      exact ⟨ha, by rw [List.length_map]; exact hl, vs, _, rv, ha⟩
    · obtain ⟨rfl, rfl⟩ := tr b u z
      exact ⟨rfl, ⟨_, _, rfl, fun es ep d => by cases d⟩, q⟩
end
/-- the end of the row's proof -/
theorem gwalk {l : PySem.W.OpenLaw} {n k : Nat} {q : Program} {loose : List Str} {XP : (Str → Option Value) → Heap → Prop} {YP : World → Heap → Prop} {d : DefRec} {K : Params → PySem.W.Frag} {sp : World → Sp} {x : Str}
    (hn : l.most = some n) (hn2 : n ≤ sizeLine) (hdf : d.params.defaults = []) (hr : Room k callerA) (hY : ∀ (w : World) (h : Heap), YP w h → (K w.params).In h)
    (F : ∀ (w : World) (mg : Str → Option Value) (fa : Addr) (h : Heap), (K w.params).In h → h.Ns mainGlobals mg → mg d.name = some (.ref fa) →
      ∃ fd : FuncData, (∀ (s : Shared) (u : Value), BindsTo s fd ⟨[u], []⟩ [(x, u)]) ∧ ∀ base : Heap, (K w.params).In base → base.Ns mainGlobals mg → GRun l.prog w (K w.params) mg base k fa fd [x] (sp w))
    (hsp : ∀ (w : World) (H : Hp) (a : Addr) (ns : List Int), ns.length ≤ n → SqL (K w.params) H a (ns.map V.int) → sp w [.ref a] H (fun v _ => v = .bl true) E0) :
    PySem.W.WalkO q loose XP YP l.row.toRowW d [] (fun f vs => PySem.call f vs) := by
  refine Att.attach_call hn hdf (fun w s₀ s₁ mg mb fa o pm cd doc a vs ns G Y _ _ _ hmg hobj hints hlen hg => ?_)
  have inK := hY w _ Y
  obtain ⟨fd, bind, R⟩ := F w mg fa _ inK G.T.g hmg
  exact glaw inK G.T.g G.T.b G.T.builtins G.T.nolimit hg hobj hints (Nat.le_trans hlen hn2) hr R bind (fun H hS => hsp w H a ns hlen hS)
/-! ### the text by places -/
def top (i : Nat) : Stmt := PySem.Challenge.pw_sortedshelves_k13_smallest_machines.main.body.getD i (.Pass ⟨0, 0, 0, 0⟩)
abbrev sReached : Stmt := top 5
abbrev sSources : Stmt := top 6
abbrev sLeading : Stmt := top 7
abbrev sSmallG : Stmt := top 8
abbrev sSmallM : Stmt := top 9
abbrev sBlocks : Stmt := top 10
abbrev sRefine : Stmt := top 11
abbrev sMove : Stmt := top 12
abbrev sLook : Stmt := top 13
abbrev sNumbered : Stmt := top 14
abbrev sSmallest : Stmt := top 16
abbrev sDeck : Stmt := top 18
abbrev sDraw : Stmt := top 19
abbrev sOne : Stmt := top 20
abbrev sMach : Stmt := top 21
abbrev sMet : Stmt := top 22
abbrev sOpen : Stmt := top 23
abbrev sLeast : Stmt := top 24
abbrev sApart : Stmt := top 25
abbrev sDoubled : Stmt := top 26
abbrev sMore : Stmt := top 27
abbrev sMixed : Stmt := top 28
abbrev sLong : Stmt := top 29
abbrev sLongR : Stmt := top 30
abbrev sLaw : Stmt := top 31
theorem scDeck : FnScope ["_law_script", "_law_cell"] ["_law_script"] (defScope sDeck) := ⟨rfl, rfl, rfl, by decide +kernel, rfl, by decide +kernel, by decide +kernel⟩
theorem scDraw : FnScope ["_law_deck_here", "_law_many", "_law_cell", "_law_at", "_law_mixed_here"] ["_law_deck_here", "_law_many"] (defScope sDraw) := ⟨rfl, rfl, rfl, by decide +kernel, rfl, by decide +kernel, by decide +kernel⟩
theorem scOne : FnScope ["_law_deck_here", "_law_items"] ["_law_deck_here", "_law_items"] (defScope sOne) := ⟨rfl, rfl, rfl, by decide +kernel, rfl, by decide +kernel, by decide +kernel⟩
def DeckAt (a c : Addr) (cells : List Int) (n : Int) (H : Hp) : Prop :=
  a ≠ c ∧ H a = some (.lst [.ref c, .int n]) ∧ H c = some (.lst (cells.map V.int)) ∧ cells.length ≤ 63 ∧ (∀ z ∈ cells, 0 ≤ z)
theorem cut_ints (ns : List Int) (lo hi : Option Int) : ∃ ms : List Int, cutV (ns.map V.int) lo hi = ms.map V.int ∧ ms.length ≤ ns.length := by
  unfold cutV
  refine ⟨(ns.drop (HT.sIx (ns.map V.int).length 0 lo)).take (HT.sIx (ns.map V.int).length (ns.map V.int).length hi - HT.sIx (ns.map V.int).length 0 lo), by rw [List.map_take, List.map_drop], ?_⟩
  rw [List.length_take, List.length_drop]
  omega
theorem int_at {ns : List Int} {i : Nat} {x : V} (h : (ns.map V.int)[i]? = some x) : ∃ u, x = V.int u := by
  rw [List.getElem?_map] at h
  obtain ⟨u, _, e⟩ := Option.map_eq_some_iff.mp h
  exact ⟨u, e.symm⟩
section
variable {P : Program} {w : World} {K : PySem.W.Frag} {mg : Str → Option Value} {base : Heap}
def spDeck (K : PySem.W.Frag) : Sp := fun vs H Q _ => ∃ (l : Addr) (ns : List Int), vs = [.ref l] ∧ SqL K H l (ns.map V.int) ∧ ns.length ≤ 63 ∧
  ∀ (H' : Hp) (a c : Addr) (cells : List Int), Same H H' → H a = none → H c = none → DeckAt a c cells 0 H' → Q (.ref a) H'
theorem ok_deck {f : Addr} {fd : FuncData} (F : Fun K "_law_deck" "_law_deck" sDeck f fd) (mAbs : mg "abs" = none) : FnOk P w K mg base CX0 1 f fd ["_law_script"] (spDeck K) := by
  refine F.ok scDeck (fun vs H Q E h => ?_) (fun cdv A outer s H vs Q E hr h => ?_)
  · obtain ⟨l, ns, rfl, _⟩ := h
    rfl
  · obtain ⟨l, ns, rfl, hS, hlen, k⟩ := h
    refine ⟨_, pss_one (ps_ret (pe_lst (pa_cons (pe_lc (own := [("_law_cell", 1)]) (g := gName 1) (tt := tYes) rfl scDeck.nd (pi_list (pe_slice sl_list (pv 0) po_none (po_some pe_int))) (blkOk_by (N := ["_law_script", "_law_cell"]) (sc := defScope sDeck) (by decide +kernel)) (fun _ _ _ _ _ => pg_name (i := 1) scDeck.nd rfl (Or.inl rfl)) (fun _ _ _ _ _ => pts_nil)
      (fun _ _ _ _ _ => pe_callB call_abs (by rfl) mAbs (by decide +kernel) (pa_cons (pv 1) pa_nil))) (pa_cons pe_int pa_nil)))), ?_⟩
    refine ⟨_, rfl, 63, rfl, l, _, rfl, hS, fun p hp => ?_⟩
    obtain ⟨ms, e, hm⟩ := cut_ints ns none (some 63)
    rw [e]
    refine ⟨p, rfl, ⟨_, SqL.of upd_same⟩, fun D hD => ?_⟩
    have np : p ≠ D := ne_of_none upd_same hD
    have hD0 : H D = none := by
      rw [upd_ne np.symm] at hD
      exact hD
    refine lc_list (K := K) (a := p) (xs := ms.map V.int) (fun i H' => Same H H' ∧ H' p = some (.lst (ms.map V.int)) ∧ ∃ cs : List Int, H' D = some (.lst (cs.map V.int)) ∧ cs.length = i ∧ ∀ z ∈ cs, 0 ≤ z) ⟨?_, ?_, [], upd_same, rfl, fun z hz => absurd hz List.not_mem_nil⟩ (fun i H' _ q => SqL.of q.2.1) ?_ ?_
    · exact (same_new hp).trans (same_new hD)
    · rw [upd_ne np, upd_same]
    · rintro i x H' hx ⟨sm, hp', cs, hD', hl, hc⟩
      obtain ⟨u, rfl⟩ := int_at hx
      refine ⟨rfl, ?_⟩
      refine ⟨_, rfl, u, rfl, _, hD', ?_, fun b o z => ?_, ?_, cs ++ [if u < 0 then -u else u], ?_, ?_, ?_⟩
      · have hi := (List.getElem?_eq_some_iff.mp hx).1
        rw [List.length_map] at hi ⊢
        exact small1000 (by omega)
      · rw [upd_ne (ne_of_none z hD0)]
        exact sm _ _ z
      · rw [upd_ne np]
        exact hp'
      · rw [upd_same, List.map_append]
        rfl
      · rw [List.length_append, hl]
        rfl
      · intro z hz
        rcases List.mem_append.mp hz with hz | hz
        · exact hc z hz
        · rw [List.mem_singleton.mp hz]
          split <;> omega
    · rintro H' ⟨sm, hp', cs, hD', hl, hc⟩
      rw [List.length_map] at hl
      refine ⟨(by show 2 ≤ sizeLine; decide), fun a ha => ?_⟩
      have na : D ≠ a := ne_of_none hD' ha
      have ha0 : H a = none := sm.free ha
      refine k _ a D cs (sm.trans (same_new ha)) ha0 hD0 ⟨na.symm, upd_same, ?_, by omega, hc⟩
      rw [upd_ne na]
      exact hD'
end
/-- the deck's two lists -/
def Bd (a c : Addr) : Addr → Prop := fun b => b = a ∨ b = c
theorem bd_ne {a c b : Addr} {H : Hp} {o : HO} (e : H b = some o) (nl : ∀ xs, o ≠ .lst xs) {xs ys : List V} (ha : H a = some (.lst xs)) (hc : H c = some (.lst ys)) : ¬ Bd a c b := by
  rintro (h | h)
  · rw [h, ha] at e
    exact nl _ (Option.some.inj e).symm
  · rw [h, hc] at e
    exact nl _ (Option.some.inj e).symm
theorem bd_new {a c p : Addr} {H : Hp} {xs ys : List V} (n : H p = none) (ha : H a = some (.lst xs)) (hc : H c = some (.lst ys)) : ¬ Bd a c p := by
  rintro (h | h)
  · rw [h, ha] at n
    cases n
  · rw [h, hc] at n
    cases n
theorem keep_upd {a c x : Addr} {H : Hp} {o : HO} (h : Bd a c x) : Keep (Bd a c) H (upd H x o) := fun b u n e => by
  rw [upd_ne (fun z : b = x => n (z.symm ▸ h))]
  exact e
section
variable {P : Program} {w : World} {K : PySem.W.Frag} {mg : Str → Option Value} {base : Heap}
def spDraw : Sp := fun vs H Q _ => ∃ (a c : Addr) (cells : List Int) (n m : Int), vs = [.ref a, .int m] ∧ DeckAt a c cells n H ∧ 1 ≤ m ∧ m ≤ 1000000 ∧ 0 ≤ n ∧ n ≤ 1000000 ∧
  ∀ (H' : Hp) (cells' : List Int) (r : Int), 0 ≤ r → r < m → DeckAt a c cells' (n + 1) H' → Keep (Bd a c) H H' → Q (.int r) H'
theorem ok_draw {f : Addr} {fd : FuncData} (F : Fun K "_law_draw" "_law_draw" sDraw f fd) (mLen : mg "len" = none) (mInt : mg "int" = none) : FnOk P w K mg base CX0 1 f fd ["_law_deck_here", "_law_many"] spDraw := by
  refine F.ok scDraw (fun vs H Q E h => ?_) (fun cdv A outer s H vs Q E hr h => ?_)
  · obtain ⟨a, c, cells, n, m, rfl, _⟩ := h
    rfl
  · obtain ⟨a, c, cells, n, m, rfl, ⟨nac, ha, hc, hlen, hpos⟩, m1, m2, n1, n2, k⟩ := h
    refine ⟨_, pss_cons (ps_asg (pe_op op_add (pe_ix ix_list (pv 0) pe_int (fun _ _ => rfl)) pe_int) (pg_sub (pv 0) pe_int set_list))
      (pss_cons (ps_asg (pe_tup (pa_cons pe_int (pa_cons (pe_un un_neg pe_int) pa_nil))) (pg_tup rfl (pgs_cons (pg_name (i := 2) scDraw.nd rfl (.inl rfl)) (pgs_cons (pg_name (i := 3) scDraw.nd rfl (.inl rfl)) pgs_nil))))
      (Evl.pss_cut (ps_if (pt_cmpR op_gt (pe_callB call_len_seq (by rfl) mLen PySem.boot_len (pa_cons (pe_ix ix_list (pv 0) pe_int (fun _ _ => rfl)) pa_nil)) pe_int (nomark _))
        (pss_cons (ps_set (i := 3) scDraw.nd rfl (.inl rfl) (pe_op op_mod (pe_callTy call_int1 (by rfl) mInt (by decide +kernel) (pa_cons (pe_ix ix_list (pv 0) pe_int (fun _ _ => rfl)) pa_nil)) (pe_callB call_len_seq (by rfl) mLen PySem.boot_len (pa_cons (pe_ix ix_list (pv 0) pe_int (fun _ _ => rfl)) pa_nil))))
        (pss_one (ps_set (i := 2) scDraw.nd rfl (.inl rfl) (pe_ix ix_list (pe_ix ix_list (pv 0) pe_int (fun _ _ => rfl)) (pv 3) (fun _ _ => rfl)))))
        pss_nil)
      (pss_cons (ps_if (pt_cmpR op_ge (pv 2) (pe_op op_pow pe_int pe_int) (nomark _))
        (pss_cons (ps_asg (pe_op op_fdivW (pe_callTy call_int1 (by rfl) mInt (by decide +kernel) (pa_cons (pv 2) pa_nil)) (pv 1)) (pg_sub (pe_ix ix_list (pv 0) pe_int (fun _ _ => rfl)) (pv 3) set_list))
          (pss_one (ps_ret (pe_op op_mod (pe_callTy call_int1 (by rfl) mInt (by decide +kernel) (pa_cons (pv 2) pa_nil)) (pv 1)))))
        pss_nil)
      (pss_cons (ps_set (i := 4) scDraw.nd rfl (.inl rfl) (pe_op op_add (pe_op op_add (pe_op op_mod (pe_callTy call_int1 (by rfl) mInt (by decide +kernel) (pa_cons (pv 2) pa_nil)) pe_int) (pe_op op_mul pe_int (pe_ix ix_list (pv 0) pe_int (fun _ _ => rfl)))) pe_int))
      (pss_one (ps_ret (pe_op op_mod (pe_callTy call_int1 (by rfl) mInt (by decide +kernel) (pa_cons (pe_op op_mod (pe_callTy call_int1 (by rfl) mInt (by decide +kernel) (pa_cons (pe_op op_pow (pv 4) pe_int) pa_nil)) pe_int) pa_nil)) (pv 1)))))))), ?_⟩
    refine ⟨.ref a, rfl, a, _, 1, _, rfl, rfl, SqL.of ha, atI_nat (j := 1) rfl, n, 1, rfl, rfl, .ref a, rfl, a, _, 1, 1, rfl, rfl, ha, rfl, ?_⟩
    have hA1 : upd H a (.lst [.ref c, .int (n + 1)]) a = some (.lst [.ref c, .int (n + 1)]) := upd_same
    have hC1 : upd H a (.lst [.ref c, .int (n + 1)]) c = some (.lst (cells.map V.int)) := by
      rw [upd_ne nac.symm]
      exact hc
    have k1 : Keep (Bd a c) H (upd H a (.lst [.ref c, .int (n + 1)])) := keep_upd (.inl rfl)
    refine ⟨1, rfl, (by show 2 ≤ sizeLine; decide), fun T hT => ?_⟩
    have k2 := k1.trans (keep_new (B := Bd a c) (o := .tup [.int 0, .int (-1)]) hT)
    have hA2 : upd (upd H a (.lst [.ref c, .int (n + 1)])) T (.tup [.int 0, .int (-1)]) a = some (.lst [.ref c, .int (n + 1)]) := by
      rw [upd_ne (ne_of_none hA1 hT)]
      exact hA1
    have hC2 : upd (upd H a (.lst [.ref c, .int (n + 1)])) T (.tup [.int 0, .int (-1)]) c = some (.lst (cells.map V.int)) := by
      rw [upd_ne (ne_of_none hC1 hT)]
      exact hC1
    have hT2 : upd (upd H a (.lst [.ref c, .int (n + 1)])) T (.tup [.int 0, .int (-1)]) T = some (.tup [.int 0, .int (-1)]) := upd_same
    refine ⟨T, _, rfl, SqT.of hT2, rfl, .int 0, [.int (-1)], rfl, .int (-1), [], rfl, rfl, ?_⟩
    refine ⟨fun σ' H' => ∃ cell at_ : Int, σ' = [some (.ref a), some (.int m), some (.int cell), some (.int at_), none] ∧ Keep (Bd a c) H H' ∧ H' a = some (.lst [.ref c, .int (n + 1)]) ∧ H' c = some (.lst (cells.map V.int)) ∧ 0 ≤ cell ∧ (10 ^ 18 ≤ cell → ∃ j : Nat, j < cells.length ∧ at_ = (j : Int)), ?_, ?_⟩
    · refine ⟨.ref a, rfl, a, _, 0, .ref c, rfl, rfl, SqL.of hA2, atI_nat (j := 0) rfl, c, _, rfl, .inl (SqL.of hC2), _, _, rfl, rfl, _, rfl, ite2 (fun h0 => ?_) (fun h0 => ?_)⟩
      · have h0 := of_decide_eq_true h0
        rw [List.length_map] at h0
        obtain ⟨j, hj, ej⟩ : ∃ j : Nat, j < cells.length ∧ (n + 1) % ((cells.map V.int).length : Int) = (j : Int) := by
          rw [List.length_map]
          have x1 := Int.emod_nonneg (n + 1) (b := (cells.length : Int)) (by omega)
          have x2 := Int.emod_lt_of_pos (n + 1) (b := (cells.length : Int)) h0
          exact ⟨((n + 1) % (cells.length : Int)).toNat, by omega, by omega⟩
        have gj : (cells.map V.int)[j]? = some (.int cells[j]) := by
          rw [List.getElem?_map, List.getElem?_eq_getElem hj]
          rfl
        refine ⟨.ref a, rfl, a, _, 1, _, rfl, rfl, SqL.of hA2, atI_nat (j := 1) rfl, .inl ⟨n + 1, rfl, .ref a, rfl, a, _, 0, .ref c, rfl, rfl, SqL.of hA2, atI_nat (j := 0) rfl, c, _, rfl, .inl (SqL.of hC2), _, _, rfl, rfl, (by rw [List.length_map]; exact h0), ?_⟩⟩
        refine ⟨.ref a, rfl, a, _, 0, .ref c, rfl, rfl, SqL.of hA2, atI_nat (j := 0) rfl, .int j, by rw [← ej]; rfl, c, _, _, _, rfl, rfl, SqL.of hC2, atI_nat gj, ?_⟩
        exact ⟨cells[j], j, by rw [← ej]; rfl, k2, hA2, hC2, hpos _ (List.getElem_mem hj), fun _ => ⟨j, hj, rfl⟩⟩
      · exact ⟨0, -1, rfl, k2, hA2, hC2, Int.le_refl _, fun z => absurd z (by decide)⟩
    · rintro σ' H3 ⟨cell, at_, rfl, k3, hA3, hC3, hp, hj⟩
      refine ⟨_, rfl, 10, 18, rfl, rfl, ⟨by decide, by decide, by decide⟩, _, _, rfl, rfl, _, rfl, ite2 (fun h0 => ?_) (fun h0 => ?_)⟩
      · obtain ⟨j, hj2, ea⟩ := hj (of_decide_eq_true h0)
        subst ea
        refine ⟨_, rfl, .inl ⟨cell, rfl, _, rfl, _, _, rfl, rfl, wide_div (b := 20) (by omega) (by omega) (by decide) (by decide), .ref a, rfl, a, _, 0, .ref c, rfl, rfl, SqL.of hA3, atI_nat (j := 0) rfl, _, rfl, c, _, _, j, rfl, rfl, hC3, Evl.ixN_nat (by rw [List.length_map]; exact hj2), ?_⟩⟩
        refine ⟨_, rfl, .inl ⟨cell, rfl, _, rfl, _, _, rfl, rfl, (by omega), ?_⟩⟩
        refine k _ (cells.set j (cell / m)) _ (Int.emod_nonneg _ (by omega)) (Int.emod_lt_of_pos _ (by omega)) ⟨nac, ?_, ?_, ?_, ?_⟩ (k3.trans (keep_upd (.inr rfl)))
        · rw [upd_ne nac]
          exact hA3
        · rw [upd_same, List.map_set]
        · rw [List.length_set]
          exact hlen
        · intro z hz
          rcases List.mem_or_eq_of_mem_set hz with hz | hz
          · exact hpos z hz
          · rw [hz]
            exact Int.ediv_nonneg hp (by omega)
      · have b1 := Int.emod_nonneg cell (b := 2147483563) (by decide)
        have b2 := Int.emod_lt_of_pos cell (b := 2147483563) (by decide)
        refine ⟨_, rfl, .inl ⟨cell, rfl, _, _, rfl, rfl, (by show (0 : Int) < 2147483563; decide), .ref a, rfl, a, _, 1, _, rfl, rfl, SqL.of hA3, atI_nat (j := 1) rfl, 8117, n + 1, rfl, rfl, .inl ⟨by decide, by decide⟩, _, _, rfl, rfl, _, _, rfl, rfl, ?_⟩⟩
        refine ⟨_, rfl, cell % 2147483563 + 8117 * (n + 1) + 3, 5, rfl, rfl, ⟨by decide, by decide, by omega⟩, .inl ⟨_, rfl, _, _, rfl, rfl, (by show (0 : Int) < 2147483629; decide), .inl ⟨_, rfl, _, rfl, _, _, rfl, rfl, (by omega), ?_⟩⟩⟩
        exact k _ cells _ (Int.emod_nonneg _ (by omega)) (Int.emod_lt_of_pos _ (by omega)) ⟨nac, hA3, hC3, hlen, hpos⟩ k3
end
section
variable {P : Program} {w : World} {K : PySem.W.Frag} {mg : Str → Option Value} {base : Heap}
def spOne (K : PySem.W.Frag) : Sp := fun vs H Q _ => ∃ (a c l : Addr) (cells : List Int) (n : Int) (xs : List V), vs = [.ref a, .ref l] ∧ DeckAt a c cells n H ∧ 0 ≤ n ∧ n ≤ 1000000 ∧ SqL K H l xs ∧ ¬ Bd a c l ∧ xs ≠ [] ∧ xs.length ≤ 1000 ∧
  ∀ (H' : Hp) (cells' : List Int) (x : V), x ∈ xs → DeckAt a c cells' (n + 1) H' → Keep (Bd a c) H H' → Q x H'
theorem ok_one {f fD : Addr} {fd fdD : FuncData} (F : Fun K "_law_one" "_law_one" sOne f fd) (D : FnOk P w K mg base CX0 1 fD fdD ["_law_deck_here", "_law_many"] spDraw) (FD : Fun K "_law_draw" "_law_draw" sDraw fD fdD) (bD : Binds K fdD ["_law_deck_here", "_law_many"] [])
    (gD : mg "_law_draw" = some (.ref fD)) (mLen : mg "len" = none) : FnOk P w K mg base CX0 2 f fd ["_law_deck_here", "_law_items"] (spOne K) := by
  refine F.ok scOne (fun vs H Q E h => ?_) (fun cdv A outer s H vs Q E hr h => ?_)
  · obtain ⟨a, c, l, cells, n, xs, rfl, _⟩ := h
    rfl
  · obtain ⟨a, c, l, cells, n, xs, rfl, dk, n0, n1, hL, nb, hne, hlen, k⟩ := h
    refine ⟨_, pss_one (ps_ret (pe_ix ix_list (pv 1) (pe_call D hr (by rfl) gD FD.kp bD .nil pass0 (pa_cons (pv 0) (pa_cons (pe_callB call_len_seq (by rfl) mLen PySem.boot_len (pa_cons (pv 1) pa_nil)) pa_nil))) (fun _ _ => rfl))), ?_⟩
    have lp : 0 < xs.length := List.length_pos_iff.mpr hne
    refine ⟨_, rfl, _, rfl, _, rfl, l, xs, rfl, .inl hL, a, c, cells, n, _, rfl, dk, by omega, by omega, n0, n1, fun H' cells' r r0 r1 dk' kp => ?_⟩
    have hr2 : r.toNat < xs.length := by omega
    refine ⟨l, xs, r, xs[r.toNat], rfl, rfl, kp.seqL nb hL, ?_, k H' cells' _ (List.getElem_mem hr2) dk' kp⟩
    have e := atI_nat (List.getElem?_eq_getElem hr2)
    rw [show ((r.toNat : Nat) : Int) = r by omega] at e
    exact e
end
/-- the built-in names that nobody stores, and the program's constants -/
structure Mg (mg : Str → Option Value) : Prop where
  len : mg "len" = none
  int : mg "int" = none
  range : mg "range" = none
  tuple : mg "tuple" = none
  list : mg "list" = none
  all : mg "all" = none
  abs : mg "abs" = none
  bool : mg "bool" = none
  repr : mg "repr" = none
  any : mg "any" = none
  enum : mg "enumerate" = none
  max : mg "max" = none
  zip : mg "zip" = none
  dict : mg "dict" = none
  mrows : ∃ t, mg "MAX_ROWS" = some (.int 400 t)
def tyN : PyData → String
  | .none => "NoneType"
  | .bool _ => "bool"
  | .int _ => "int"
  | .str _ => "str"
  | .list _ => "list"
  | .tuple _ => "tuple"
  | .dict _ => "dict"
theorem tyD {B : Addr → Prop} {K : PySem.W.Frag} {H : Hp} {v : V} {d : PyData} (h : Dt B K H v d) : TyX K H v (.type (tyN d)) := by
  cases h with
  | non => exact .base .non
  | bl b => exact .base (.bl b)
  | int i => exact .base (.int i)
  | str x => exact .base (.str x)
  | lst nb ne hs ha =>
    rcases hs with hs | ⟨o, hs⟩
    · exact .base (.lst hs)
    · exact .base (.frz hs)
  | tup nb hs ha =>
    rcases hs with hs | ⟨o, hs⟩
    · exact .base (.tup hs)
    · exact .fTuple hs
  | emp nb e => exact .base (.dK e)
def isInt : PyData → Bool
  | .int _ => true
  | .bool _ => true
  | _ => false
def isBool : PyData → Bool
  | .bool _ => true
  | _ => false
def isTup : PyData → Bool
  | .tuple _ => true
  | _ => false
theorem kitI {K : PySem.W.Frag} (d : PyData) : PySem.W.kitOne K (.type (tyN d)) (.type "int") = some (isInt d) := by
  cases d with
  | none => exact kit_ty (show kitB "NoneType" "int" = some false by decide +kernel)
  | bool _ => exact kit_ty (show kitB "bool" "int" = some true by decide +kernel)
  | int _ => exact kit_ty (show kitB "int" "int" = some true by decide +kernel)
  | str _ => exact kit_ty (show kitB "str" "int" = some false by decide +kernel)
  | list _ => exact kit_ty (show kitB "list" "int" = some false by decide +kernel)
  | tuple _ => exact kit_ty (show kitB "tuple" "int" = some false by decide +kernel)
  | dict _ => exact kit_ty (show kitB "dict" "int" = some false by decide +kernel)
theorem kitB' {K : PySem.W.Frag} (d : PyData) : PySem.W.kitOne K (.type (tyN d)) (.type "bool") = some (isBool d) := by
  cases d with
  | none => exact kit_ty (show kitB "NoneType" "bool" = some false by decide +kernel)
  | bool _ => exact kit_ty (show kitB "bool" "bool" = some true by decide +kernel)
  | int _ => exact kit_ty (show kitB "int" "bool" = some false by decide +kernel)
  | str _ => exact kit_ty (show kitB "str" "bool" = some false by decide +kernel)
  | list _ => exact kit_ty (show kitB "list" "bool" = some false by decide +kernel)
  | tuple _ => exact kit_ty (show kitB "tuple" "bool" = some false by decide +kernel)
  | dict _ => exact kit_ty (show kitB "dict" "bool" = some false by decide +kernel)
theorem kitT {K : PySem.W.Frag} (d : PyData) : PySem.W.kitOne K (.type (tyN d)) (.type "tuple") = some (isTup d) := by
  cases d with
  | none => exact kit_ty (show kitB "NoneType" "tuple" = some false by decide +kernel)
  | bool _ => exact kit_ty (show kitB "bool" "tuple" = some false by decide +kernel)
  | int _ => exact kit_ty (show kitB "int" "tuple" = some false by decide +kernel)
  | str _ => exact kit_ty (show kitB "str" "tuple" = some false by decide +kernel)
  | list _ => exact kit_ty (show kitB "list" "tuple" = some false by decide +kernel)
  | tuple _ => exact kit_ty (show kitB "tuple" "tuple" = some true by decide +kernel)
  | dict _ => exact kit_ty (show kitB "dict" "tuple" = some false by decide +kernel)
/-- an integer, no bool, within the bounds -/
def numD (d : PyData) (lo hi : Int) : Bool := match d with
  | .int i => decide (lo ≤ i) && decide (i ≤ hi)
  | _ => false
def spNum (K : PySem.W.Frag) : Sp := fun vs H Q _ => ∃ (B : Addr → Prop) (x : V) (d : PyData) (lo hi : Int), vs = [x, .int lo, .int hi] ∧ Dt B K H x d ∧ Q (.bl (numD d lo hi)) H
def intD : PyData → Bool
  | .int _ => true
  | _ => false
def spInt (K : PySem.W.Frag) : Sp := fun vs H Q _ => ∃ (B : Addr → Prop) (x : V) (d : PyData), vs = [x] ∧ Dt B K H x d ∧ Q (.bl (intD d)) H
def itemOk (n : Int) (d : PyData) : Bool := match d with
  | .none => true
  | d => numD d 0 (n - 1)
def rowD (L n : Int) (d : PyData) : Bool := match d with
  | .tuple xs => decide ((xs.length : Int) = L) && xs.all (itemOk n)
  | _ => false
theorem Dt.len_le {B : Addr → Prop} {K : PySem.W.Frag} {H : Hp} {a : Addr} {ds : List PyData} (h : Dt B K H (.ref a) (.tuple ds)) : ∃ xs, SqT K H a xs ∧ DtAll B K H xs ds ∧ xs.length = ds.length := by
  cases h with
  | tup nb hs ha => exact ⟨_, .inl hs, ha, ha.len⟩
theorem Dt.tup_ref {B : Addr → Prop} {K : PySem.W.Frag} {H : Hp} {v : V} {ds : List PyData} (h : Dt B K H v (.tuple ds)) : ∃ a xs, v = .ref a ∧ ¬ B a ∧ SqT K H a xs ∧ DtAll B K H xs ds ∧ xs.length = ds.length := by
  cases h with
  | tup nb hs ha => exact ⟨_, _, rfl, nb, .inl hs, ha, ha.len⟩
theorem Dt.tup_rd {B : Addr → Prop} {K : PySem.W.Frag} {H : Hp} {v : V} {ds : List PyData} (h : Dt B K H v (.tuple ds)) : ∃ a xs, v = .ref a ∧ ¬ B a ∧ Rd H a (.tup xs) ∧ DtAll B K H xs ds ∧ xs.length = ds.length := by
  cases h with
  | tup nb hs ha => exact ⟨_, _, rfl, nb, hs, ha, ha.len⟩
mutual
theorem Dt.off {B : Addr → Prop} {K : PySem.W.Frag} {H : Hp} {q : Addr} (n : H q = none) : ∀ (d : PyData) (v : V), Dt B K H v d → Dt (fun b => B b ∨ b = q) K H v d
  | .none, _, h => by cases h; exact .non
  | .bool _, _, h => by cases h; exact .bl _
  | .int _, _, h => by cases h; exact .int _
  | .str _, _, h => by cases h; exact .str _
  | .list ds, _, h => by
    cases h with
    | lst nb ne hs ha =>
      refine .lst (fun z => ?_) ne hs (DtAll.off n ds _ ha)
      rcases z with z | z
      · exact nb z
      · rw [z] at hs
        rcases hs with e | ⟨o, e⟩ <;> (rw [n] at e; cases e)
  | .tuple ds, _, h => by
    cases h with
    | tup nb hs ha =>
      refine .tup (fun z => ?_) hs (DtAll.off n ds _ ha)
      rcases z with z | z
      · exact nb z
      · rw [z] at hs
        rcases hs with e | ⟨o, e⟩ <;> (rw [n] at e; cases e)
  | .dict _, _, h => by
    cases h with
    | emp nb e =>
      refine .emp (fun z => ?_) e
      rcases z with z | z
      · exact nb z
      · rw [z, n] at e
        cases e
theorem DtAll.off {B : Addr → Prop} {K : PySem.W.Frag} {H : Hp} {q : Addr} (n : H q = none) : ∀ (ds : List PyData) (vs : List V), DtAll B K H vs ds → DtAll (fun b => B b ∨ b = q) K H vs ds
  | [], _, h => by cases h; exact .nil
  | d :: ds, _, h => by
    cases h with
    | cons h1 h2 => exact .cons (Dt.off n d _ h1) (DtAll.off n ds _ h2)
end
theorem same_dt {B : Addr → Prop} {K : PySem.W.Frag} {H H' : Hp} {v : V} {d : PyData} (s : Same H H') (h : Dt B K H v d) : Dt B K H' v d := Dt.keep (Keep.same s) d v h
theorem same_seqT {K : PySem.W.Frag} {H H' : Hp} {a : Addr} {xs : List V} (s : Same H H') (h : SqT K H a xs) : SqT K H' a xs := Keep.seqT (B := fun _ => False) (Keep.same s) (fun z => z) h
theorem all_take {f : PyData → Bool} {ds : List PyData} : ((ds.map f).all id) = ds.all f := by
  rw [List.all_map]
  rfl
mutual
def nodes : PyData → Nat
  | .list xs => 1 + nodesAll xs
  | .tuple xs => 1 + nodesAll xs
  | .none => 1
  | .bool _ => 1
  | .int _ => 1
  | .str _ => 1
  | .dict _ => 1
def nodesAll : List PyData → Nat
  | [] => 0
  | x :: xs => nodes x + nodesAll xs
end
theorem nodes_pos : ∀ d : PyData, 1 ≤ nodes d
  | .list xs => by unfold nodes; omega
  | .tuple xs => by unfold nodes; omega
  | .none => by unfold nodes; omega
  | .bool _ => by unfold nodes; omega
  | .int _ => by unfold nodes; omega
  | .str _ => by unfold nodes; omega
  | .dict _ => by unfold nodes; omega
theorem nodes_tup (xs : List PyData) : nodes (.tuple xs) = 1 + nodesAll xs := by rw [nodes]
theorem nodes_lst (xs : List PyData) : nodes (.list xs) = 1 + nodesAll xs := by rw [nodes]
theorem nodesAll_cons (x : PyData) (xs : List PyData) : nodesAll (x :: xs) = nodes x + nodesAll xs := by rw [nodesAll]
theorem nodesAll_nil : nodesAll [] = 0 := by rw [nodesAll]
theorem len_nodes : ∀ xs : List PyData, xs.length ≤ nodesAll xs
  | [] => Nat.zero_le _
  | x :: xs => by
    have := len_nodes xs
    have := nodes_pos x
    rw [nodesAll_cons, List.length_cons]
    omega
theorem mem_nodes : ∀ {xs : List PyData} {x : PyData}, x ∈ xs → nodes x ≤ nodesAll xs
  | [], _, h => absurd h List.not_mem_nil
  | y :: ys, x, h => by
    rw [nodesAll_cons]
    rcases List.mem_cons.mp h with e | e
    · rw [e]
      omega
    · have := mem_nodes e
      omega
theorem nodesAll_append : ∀ xs ys : List PyData, nodesAll (xs ++ ys) = nodesAll xs + nodesAll ys
  | [], ys => by rw [List.nil_append, nodesAll_nil, Nat.zero_add]
  | x :: xs, ys => by rw [List.cons_append, nodesAll_cons, nodesAll_cons, nodesAll_append xs ys, Nat.add_assoc]
def BInv (f : PyData → Bool) (ds : List PyData) (H : Hp) (D : Addr) (i : Nat) (H' : Hp) : Prop := Same H H' ∧ H' D = some (.lst ((ds.take i).map fun d => V.bl (f d)))
theorem bturn {B : Addr → Prop} {K : PySem.W.Frag} {H H' : Hp} {D : Addr} {xs : List V} {ds : List PyData} {f : PyData → Bool} {i : Nat} {y : V} (ha : DtAll B K H xs ds) (hz : ds.length < sizeLine) (hD : H D = none) (hy : xs[i]? = some y) (p : BInv f ds H D i H') :
    ∃ d, d ∈ ds ∧ Dt B K H' y d ∧ ∀ H'', Same H' H'' → ∀ b, b = f d → ∃ acc, H'' D = some (.lst acc) ∧ acc.length < sizeLine ∧ BInv f ds H D (i + 1) (upd H'' D (.lst (acc ++ [V.bl b]))) := by
  obtain ⟨sm, hD'⟩ := p
  obtain ⟨d, hd1, hd2⟩ := ha.getV hy
  refine ⟨d, List.mem_of_getElem? hd1, same_dt sm hd2, fun H'' s2 b eb => ⟨_, s2 _ _ hD', ?_, fun p o z => ?_, ?_⟩⟩
  · rw [List.length_map, List.length_take]
    omega
  · rw [upd_ne (ne_of_none z hD)]
    exact s2 _ _ (sm _ _ z)
  · rw [upd_same, List.take_add_one, hd1, List.map_append, eb]
    rfl
theorem bend {K : PySem.W.Frag} {H H' : Hp} {D : Addr} {n : Nat} {ds : List PyData} {f : PyData → Bool} (e : n = ds.length) (p : BInv f ds H D n H') : Same H H' ∧ SqL K H' D ((ds.map f).map V.bl) := by
  obtain ⟨sm, hD'⟩ := p
  rw [e, List.take_length] at hD'
  refine ⟨sm, SqL.of ?_⟩
  rw [hD', List.map_map]
  rfl
def rLen (K : PySem.W.Frag) : List V → Hp → VK → Prop := fun xs H Q => ∃ p ys, xs = [.ref p] ∧ (SqL K H p ys ∨ SqT K H p ys) ∧ Q (.int ys.length) H
theorem three_of {ds : List PyData} (h : ds.length = 3) : ∃ l r e, ds = [l, r, e] := by
  match ds, h with
  | [l, r, e], _ => exact ⟨l, r, e, rfl⟩
theorem dt_three {B : Addr → Prop} {K : PySem.W.Frag} {H : Hp} {xs : List V} {l r e : PyData} (h : DtAll B K H xs [l, r, e]) : ∃ vl vr ve, xs = [vl, vr, ve] ∧ Dt B K H vl l ∧ Dt B K H vr r ∧ Dt B K H ve e := by
  cases h with
  | cons h1 h =>
    cases h with
    | cons h2 h =>
      cases h with
      | cons h3 h =>
        cases h
        exact ⟨_, _, _, rfl, h1, h2, h3⟩
/-! ### a list, a tuple beside an empty one -/
section
variable {X : Cx}
def rNilL (K : PySem.W.Frag) (g : Bool → Bool) : R2 := fun x y H Q => ∃ (l b : Addr) (xs : List V), x = .ref l ∧ y = .ref b ∧ SqL K H l xs ∧ SqL K H b [] ∧ Q (.bl (g (decide (xs = [])))) H
def rNilT (K : PySem.W.Frag) : R2 := fun x y H Q => ∃ (l b : Addr) (xs : List V), x = .ref l ∧ y = .ref b ∧ SqT K H l xs ∧ SqT K H b [] ∧ Q (.bl (decide (xs = []))) H
theorem op_eqNilL (hu : X.A.units < cLine) : OpR X (compareOp .Eq) (rNilL X.K id) := by
  intro pins s σ H x y v u Q I rx ry h
  obtain ⟨l, b, xs, rfl, rfl, hl, hb, q⟩ := h
  cases rx
  cases ry
  obtain ⟨its, rv, pl, _⟩ := I.list hl
  obtain ⟨its2, rv2, pl2, _⟩ := I.list hb
  cases rv2
  have hn := rv.length
  cases xs with
  | nil =>
    cases rv
    exact SeqAt.eq_listAt (e := fun _ => true) pl.isList pl2.isList rfl hu (fun j h1 _ => absurd h1 (Nat.not_lt_zero _)) ⟨.bl _, H, I, rfl, q⟩
  | cons z zs =>
    refine SeqAt.eq_list_lengthsAt pl.isList pl2.isList ?_ hu ⟨.bl _, H, I, rfl, q⟩
    rw [List.size_toArray, ← hn]
    rfl
theorem op_neNilL (hu : X.A.units < cLine) : OpR X (compareOp .NotEq) (rNilL X.K not) := by
  intro pins s σ H x y v u Q I rx ry h
  obtain ⟨l, b, xs, rfl, rfl, hl, hb, q⟩ := h
  cases rx
  cases ry
  obtain ⟨its, rv, pl, _⟩ := I.list hl
  obtain ⟨its2, rv2, pl2, _⟩ := I.list hb
  cases rv2
  have hn := rv.length
  cases xs with
  | nil =>
    cases rv
    exact SeqAt.RcNeAt.lists (e := fun _ => true) pl.isList pl2.isList rfl hu (fun j h1 _ => absurd h1 (Nat.not_lt_zero _)) _ _ _ _ ⟨.bl _, H, I, rfl, q⟩
  | cons z zs =>
    refine SeqAt.RcNeAt.lists_lengths pl.isList pl2.isList ?_ hu _ _ _ _ ⟨.bl _, H, I, rfl, q⟩
    rw [List.size_toArray, ← hn]
    rfl
theorem op_eqNilT (hu : X.A.units < cLine) : OpR X (compareOp .Eq) (rNilT X.K) := by
  intro pins s σ H x y v u Q I rx ry h
  obtain ⟨l, b, xs, rfl, rfl, hl, hb, q⟩ := h
  cases rx
  cases ry
  obtain ⟨its, rv, pl, _⟩ := I.tuple hl
  obtain ⟨its2, rv2, pl2, _⟩ := I.tuple hb
  cases rv2
  have hn := rv.length
  refine SeqAt.eq_tupleAt (e := fun _ => true) pl pl2 hu (fun j h1 h2 => absurd h2 (Nat.not_lt_zero _)) ⟨.bl _, H, I, ?_, q⟩
  cases xs with
  | nil =>
    cases rv
    rfl
  | cons z zs =>
    show Value.bool _ = Value.bool _
    congr 1
    rw [List.size_toArray, ← hn]
    rfl
end
/-- what a comprehension holds that picks the items that fail -/
def FInv (f : PyData → Bool) (ds : List PyData) (H : Hp) (D : Addr) (i : Nat) (H' : Hp) : Prop :=
  Same H H' ∧ ∃ acc : List V, H' D = some (.lst acc) ∧ acc.length ≤ i ∧ (acc = [] ↔ (ds.take i).all f = true)
theorem fstart {f : PyData → Bool} {ds : List PyData} {H : Hp} {D : Addr} (hD : H D = none) : FInv f ds H D 0 (upd H D (.lst [])) :=
  ⟨same_new hD, [], upd_same, Nat.le_refl _, by simp⟩
theorem fturn {B : Addr → Prop} {K : PySem.W.Frag} {H H' : Hp} {D : Addr} {xs : List V} {ds : List PyData} {f : PyData → Bool} {i : Nat} {y : V} (ha : DtAll B K H xs ds) (hz : ds.length < sizeLine) (hD : H D = none) (hy : xs[i]? = some y) (p : FInv f ds H D i H') :
    ∃ d, d ∈ ds ∧ Dt B K H' y d ∧ (∀ H'', Same H' H'' → f d = true → FInv f ds H D (i + 1) H'') ∧
      ∀ H'', Same H' H'' → f d = false → ∃ acc, H'' D = some (.lst acc) ∧ acc.length < sizeLine ∧ FInv f ds H D (i + 1) (upd H'' D (.lst (acc ++ [y]))) := by
  obtain ⟨sm, acc, hD', hl, hi⟩ := p
  obtain ⟨d, hd1, hd2⟩ := ha.getV hy
  have hlt := (List.getElem?_eq_some_iff.mp hd1).1
  have ht : (ds.take (i + 1)).all f = ((ds.take i).all f && f d) := by
    rw [List.take_add_one, hd1, List.all_append]
    simp
  refine ⟨d, List.mem_of_getElem? hd1, same_dt sm hd2, fun H'' s2 fd => ⟨fun b o z => s2 b o (sm b o z), acc, s2 _ _ hD', by omega, ?_⟩, fun H'' s2 fd => ⟨acc, s2 _ _ hD', by omega, fun b o z => ?_, _, upd_same, ?_, ?_⟩⟩
  · rw [ht, fd, Bool.and_true]
    exact hi
  · rw [upd_ne (ne_of_none z hD)]
    exact s2 _ _ (sm _ _ z)
  · rw [List.length_append, List.length_singleton]
    omega
  · rw [ht, fd, Bool.and_false]
    exact ⟨fun z => absurd z (by simp), fun z => absurd z Bool.false_ne_true⟩
theorem fend {K : PySem.W.Frag} {H H' : Hp} {D : Addr} {n : Nat} {ds : List PyData} {f : PyData → Bool} (e : n = ds.length) (p : FInv f ds H D n H') : Same H H' ∧ ∃ acc, SqL K H' D acc ∧ decide (acc = []) = ds.all f := by
  obtain ⟨sm, acc, hD', hl, hi⟩ := p
  rw [e, List.take_length] at hi
  refine ⟨sm, acc, SqL.of hD', ?_⟩
  cases z : ds.all f
  · exact decide_eq_false (fun q => by rw [hi.mp q] at z; cases z)
  · exact decide_eq_true (hi.mpr z)
theorem itemOk_ne {B : Addr → Prop} {K : PySem.W.Frag} {H : Hp} {y : V} {d : PyData} {n : Int} (h : Dt B K H y d) (ne : y ≠ .non) : itemOk n d = numD d 0 (n - 1) := by
  cases h with
  | non => exact absurd rfl ne
  | bl _ => rfl
  | int _ => rfl
  | str _ => rfl
  | lst _ _ _ _ => rfl
  | tup _ _ _ => rfl
  | emp _ _ => rfl
theorem not_cases {b : Bool} (h : (!b) = true) : b = false := by
  cases b
  · rfl
  · cases h
theorem not_cases' {b : Bool} (h : ¬ (!b) = true) : b = true := by
  cases b
  · exact absurd rfl h
  · rfl
/-! ### while the deck is drawn from -/
theorem deck_upd {a c p : Addr} {cells : List Int} {n : Int} {H : Hp} {o : HO} (h : DeckAt a c cells n H) (np : ¬ Bd a c p) : DeckAt a c cells n (upd H p o) := by
  obtain ⟨h1, h2, h3, h4, h5⟩ := h
  refine ⟨h1, ?_, ?_, h4, h5⟩
  · rw [upd_ne (fun z : a = p => np (.inl z.symm))]
    exact h2
  · rw [upd_ne (fun z : c = p => np (.inr z.symm))]
    exact h3
theorem deck_off {a c p : Addr} {cells : List Int} {n : Int} {H : Hp} (h : DeckAt a c cells n H) (np : H p = none) : ¬ Bd a c p := bd_new np h.2.1 h.2.2.1
theorem deck_new {a c p : Addr} {cells : List Int} {n : Int} {H : Hp} {o : HO} (h : DeckAt a c cells n H) (np : H p = none) : DeckAt a c cells n (upd H p o) := deck_upd h (deck_off h np)
/-- a list that is made at D while the deck is drawn from: at most s draws an item -/
def CInv (a c D : Addr) (H0 : Hp) (G : V → Prop) (n0 s : Int) (j : Nat) (H' : Hp) : Prop :=
  ∃ (cells : List Int) (n' : Int) (acc : List V), DeckAt a c cells n' H' ∧ n0 ≤ n' ∧ n' ≤ n0 + s * j ∧ Keep (Bd a c) H0 H' ∧ H' D = some (.lst acc) ∧ acc.length = j ∧ ∀ v ∈ acc, G v
theorem cstart {a c D : Addr} {H0 : Hp} {G : V → Prop} {cells : List Int} {n0 s : Int} (dk : DeckAt a c cells n0 H0) (hD : H0 D = none) : CInv a c D H0 G n0 s 0 (upd H0 D (.lst [])) :=
  ⟨cells, n0, [], deck_new dk hD, Int.le_refl _, by simp, keep_new hD, upd_same, rfl, fun v z => absurd z List.not_mem_nil⟩
theorem cstep {a c D : Addr} {H0 H1 H2 : Hp} {G : V → Prop} {cells2 : List Int} {n0 s n1 n2 : Int} {j : Nat} {acc : List V} {v : V} (hD0 : H0 D = none) (nD : ¬ Bd a c D) (hj : j ≤ 1000) (h0 : n0 ≤ n1) (h1 : n1 ≤ n0 + s * j) (kp : Keep (Bd a c) H0 H1) (hD : H1 D = some (.lst acc)) (hl : acc.length = j)
    (hG : ∀ v ∈ acc, G v) (dk : DeckAt a c cells2 n2 H2) (h2 : n1 ≤ n2) (h3 : n2 ≤ n1 + s) (k2 : Keep (Bd a c) H1 H2) (g : G v) :
    ∃ acc', H2 D = some (.lst acc') ∧ acc'.length < sizeLine ∧ CInv a c D H0 G n0 s (j + 1) (upd H2 D (.lst (acc' ++ [v]))) := by
  refine ⟨acc, k2 _ _ nD hD, small1000 (by omega), cells2, n2, acc ++ [v], deck_upd dk nD, by omega, ?_, fun b o nb z => ?_, upd_same, ?_, fun u hu => ?_⟩
  · have e : s * ((j + 1 : Nat) : Int) = s * j + s := by
      rw [Int.natCast_add, Int.mul_add]
      simp
    rw [e]
    omega
  · rw [upd_ne (ne_of_none z hD0)]
    exact k2 _ _ nb (kp _ _ nb z)
  · rw [List.length_append, hl]
    rfl
  · rcases List.mem_append.mp hu with hu | hu
    · exact hG u hu
    · rw [List.mem_singleton.mp hu]
      exact g
/-- an item of a row: None, or the number of a state -/
def Gi (m : Int) (v : V) : Prop := v = .non ∨ ∃ k : Int, v = .int k ∧ 0 ≤ k ∧ k < m
def Ri (m : Int) (d : PyData) : Prop := d = .none ∨ ∃ k : Int, d = .int k ∧ 0 ≤ k ∧ k < m
theorem gi_dt {m : Int} : ∀ {acc : List V}, (∀ v ∈ acc, Gi m v) → ∃ ds : List PyData, (∀ (B : Addr → Prop) (K : PySem.W.Frag) (H : Hp), DtAll B K H acc ds) ∧ ds.length = acc.length ∧ ∀ d ∈ ds, Ri m d
  | [], _ => ⟨[], fun _ _ _ => .nil, rfl, fun d z => absurd z List.not_mem_nil⟩
  | v :: acc, h => by
    obtain ⟨ds, h1, h2, h3⟩ := gi_dt (acc := acc) fun u hu => h u (List.mem_cons_of_mem _ hu)
    rcases h v List.mem_cons_self with e | ⟨k, e, k0, k1⟩
    · subst e
      refine ⟨.none :: ds, fun B K H => .cons .non (h1 B K H), by rw [List.length_cons, List.length_cons, h2], fun d hd => ?_⟩
      rcases List.mem_cons.mp hd with hd | hd
      · exact .inl hd
      · exact h3 d hd
    · subst e
      refine ⟨.int k :: ds, fun B K H => .cons (.int k) (h1 B K H), by rw [List.length_cons, List.length_cons, h2], fun d hd => ?_⟩
      rcases List.mem_cons.mp hd with hd | hd
      · exact .inr ⟨k, hd, k0, k1⟩
      · exact h3 d hd
def Gb (v : V) : Prop := ∃ b, v = .bl b
theorem gb_dt : ∀ {acc : List V}, (∀ v ∈ acc, Gb v) → ∃ ds : List PyData, (∀ (B : Addr → Prop) (K : PySem.W.Frag) (H : Hp), DtAll B K H acc ds) ∧ ds.length = acc.length ∧ ∀ d ∈ ds, isBool d = true
  | [], _ => ⟨[], fun _ _ _ => .nil, rfl, fun d z => absurd z List.not_mem_nil⟩
  | v :: acc, h => by
    obtain ⟨ds, h1, h2, h3⟩ := gb_dt (acc := acc) fun u hu => h u (List.mem_cons_of_mem _ hu)
    obtain ⟨b, e⟩ := h v List.mem_cons_self
    subst e
    refine ⟨.bool b :: ds, fun B K H => .cons (.bl b) (h1 B K H), by rw [List.length_cons, List.length_cons, h2], fun d hd => ?_⟩
    rcases List.mem_cons.mp hd with hd | hd
    · rw [hd]
      rfl
    · exact h3 d hd
def RowD (L m : Int) (d : PyData) : Prop := ∃ is : List PyData, d = .tuple is ∧ (is.length : Int) = L ∧ ∀ i ∈ is, Ri m i
def B3 (a c R : Addr) : Addr → Prop := fun b => Bd a c b ∨ b = R
mutual
theorem Dt.weak {B B' : Addr → Prop} {K : PySem.W.Frag} {H : Hp} (k : ∀ b, B' b → B b) : ∀ (d : PyData) (v : V), Dt B K H v d → Dt B' K H v d
  | .none, _, h => by cases h; exact .non
  | .bool _, _, h => by cases h; exact .bl _
  | .int _, _, h => by cases h; exact .int _
  | .str _, _, h => by cases h; exact .str _
  | .list ds, _, h => by
    cases h with
    | lst nb ne hs ha => exact .lst (fun z => nb (k _ z)) ne hs (DtAll.weak k ds _ ha)
  | .tuple ds, _, h => by
    cases h with
    | tup nb hs ha => exact .tup (fun z => nb (k _ z)) hs (DtAll.weak k ds _ ha)
  | .dict _, _, h => by
    cases h with
    | emp nb e => exact .emp (fun z => nb (k _ z)) e
theorem DtAll.weak {B B' : Addr → Prop} {K : PySem.W.Frag} {H : Hp} (k : ∀ b, B' b → B b) : ∀ (ds : List PyData) (vs : List V), DtAll B K H vs ds → DtAll B' K H vs ds
  | [], _, h => by cases h; exact .nil
  | d :: ds, _, h => by
    cases h with
    | cons h1 h2 => exact .cons (Dt.weak k d _ h1) (DtAll.weak k ds _ h2)
end
theorem Keep.wide {B B' : Addr → Prop} {H H' : Hp} (k : ∀ b, B b → B' b) (h : Keep B H H') : Keep B' H H' := fun b o n e => h b o (fun z => n (k b z)) e
/-- the rows that are made so far -/
def MInv (K : PySem.W.Frag) (a c R : Addr) (H : Hp) (L m n0 : Int) (i : Nat) (H' : Hp) : Prop :=
  ∃ (cells : List Int) (n' : Int) (rvs : List V) (rds : List PyData), DeckAt a c cells n' H' ∧ n0 ≤ n' ∧ n' ≤ n0 + 6 * i ∧ Keep (Bd a c) H H' ∧ H' R = some (.lst rvs) ∧ DtAll (B3 a c R) K H' rvs rds ∧ rds.length = i ∧ ∀ r ∈ rds, RowD L m r
theorem mstep {K : PySem.W.Frag} {a c R q : Addr} {H H1 H2 : Hp} {L m n0 n1 n2 : Int} {i : Nat} {rvs acc : List V} {rds : List PyData} {cells2 : List Int} (hR0 : H R = none) (nR : ¬ Bd a c R) (hi : i ≤ 1000) (h0 : n0 ≤ n1) (h1 : n1 ≤ n0 + 6 * i) (kp : Keep (Bd a c) H H1) (hR : H1 R = some (.lst rvs)) (hd : DtAll (B3 a c R) K H1 rvs rds)
    (hl : rds.length = i) (hr : ∀ r ∈ rds, RowD L m r) (k2 : Keep (Bd a c) H1 H2) (dk : DeckAt a c cells2 n2 H2) (h2 : n1 ≤ n2) (h3 : n2 ≤ n1 + 6) (hG : ∀ v ∈ acc, Gi m v) (hL : (acc.length : Int) = L) (hq : H2 q = none) :
    ∃ rvs', (upd H2 q (.tup acc)) R = some (.lst rvs') ∧ rvs'.length < sizeLine ∧ MInv K a c R H L m n0 (i + 1) (upd (upd H2 q (.tup acc)) R (.lst (rvs' ++ [.ref q]))) := by
  have hR2 := k2 _ _ nR hR
  have nq : R ≠ q := ne_of_none hR2 hq
  have k3 : Keep (B3 a c R) H1 (upd (upd H2 q (.tup acc)) R (.lst (rvs ++ [.ref q]))) := fun b o nb z => by
    rw [upd_ne (fun z : b = R => nb (.inr z)), upd_ne (ne_of_none (k2 _ _ (fun z => nb (.inl z)) z) hq)]
    exact k2 _ _ (fun z => nb (.inl z)) z
  obtain ⟨ds, g1, g2, g3⟩ := gi_dt hG
  have hlv := hd.len
  refine ⟨rvs, by rw [upd_ne nq]; exact hR2, small1000 (by omega), cells2, n2, rvs ++ [.ref q], rds ++ [.tuple ds], deck_upd (deck_new dk hq) nR, by omega, by omega, fun b o nb z => ?_, upd_same, ?_, ?_, ?_⟩
  · rw [upd_ne (ne_of_none z hR0), upd_ne (ne_of_none (k2 _ _ nb (kp _ _ nb z)) hq)]
    exact k2 _ _ nb (kp _ _ nb z)
  · refine (DtAll.keep k3 _ _ hd).append (.cons (.tup (xs := acc) ?_ (.inl ?_) (g1 _ _ _)) .nil)
    · rintro (z | z)
      · exact deck_off dk hq z
      · exact nq z.symm
    · rw [upd_ne nq.symm, upd_same]
  · rw [List.length_append, hl]
    rfl
  · intro r hr2
    rcases List.mem_append.mp hr2 with hr2 | hr2
    · exact hr r hr2
    · rw [List.mem_singleton.mp hr2]
      exact ⟨ds, rfl, by rw [g2]; exact hL, g3⟩
def rTup (K : PySem.W.Frag) : List V → Hp → VK → Prop := fun xs H Q => ∃ p ys, xs = [.ref p] ∧ ((SqL K H p ys ∧ ∀ l, H l = none → Q (.ref l) (upd H l (.tup ys))) ∨ (SqT K H p ys ∧ Q (.ref p) H))
section
variable {P : Program} {w : World} {K : PySem.W.Frag} {mg : Str → Option Value} {base : Heap}
theorem scMach : FnScope ["_law_deck_here", "_law_letters", "_law_most", "_law_many", "_law_way", "_law_rows", "_law_state", "_law_at", "_law_further", "_law_items", "_law_item", "_law_often"] ["_law_deck_here", "_law_letters", "_law_most"] (defScope sMach) := ⟨rfl, rfl, rfl, by decide +kernel, rfl, by decide +kernel, by decide +kernel⟩
def MachD (K : PySem.W.Frag) (a c : Addr) (H : Hp) (v : V) (L M : Int) (rs es : List PyData) : Prop :=
  Dt (Bd a c) K H v (.tuple [.int L, .tuple rs, .tuple es]) ∧ 1 ≤ rs.length ∧ (rs.length : Int) ≤ M ∧ es.length = rs.length ∧ (∀ r ∈ rs, RowD L rs.length r) ∧ ∀ e ∈ es, isBool e = true
def spMach (K : PySem.W.Frag) : Sp := fun vs H Q _ => ∃ (a c : Addr) (cells : List Int) (n L M : Int), vs = [.ref a, .int L, .int M] ∧ DeckAt a c cells n H ∧ 0 ≤ n ∧ n ≤ 900000 ∧ 1 ≤ L ∧ L ≤ 3 ∧ 1 ≤ M ∧ M ≤ 10 ∧
  ∀ (H' : Hp) (cells' : List Int) (n' : Int) (v : V) (rs es : List PyData), DeckAt a c cells' n' H' → n ≤ n' → n' ≤ n + 100 → Keep (Bd a c) H H' → MachD K a c H' v L M rs es → Q v H'
theorem ok_mach {f fD fO : Addr} {fd fdD fdO : FuncData} (F : Fun K "_law_machine" "_law_machine" sMach f fd) (D : FnOk P w K mg base CX0 1 fD fdD ["_law_deck_here", "_law_many"] spDraw) (FD : Fun K "_law_draw" "_law_draw" sDraw fD fdD) (bD : Binds K fdD ["_law_deck_here", "_law_many"] []) (gD : mg "_law_draw" = some (.ref fD))
    (O : FnOk P w K mg base CX0 2 fO fdO ["_law_deck_here", "_law_items"] (spOne K)) (FO : Fun K "_law_one" "_law_one" sOne fO fdO) (bO : Binds K fdO ["_law_deck_here", "_law_items"] []) (gO : mg "_law_one" = some (.ref fO)) (T : Mg mg) :
    FnOk P w K mg base CX0 3 f fd ["_law_deck_here", "_law_letters", "_law_most"] (spMach K) := by
  refine F.ok scMach (fun vs H Q E h => ?_) (fun cdv A outer s H vs Q E hr h => ?_)
  · obtain ⟨a, c, cells, n, L, M, rfl, _⟩ := h
    rfl
  · obtain ⟨a, c, cells, n, L, M, rfl, dk, n0, n1, l1, l3, m1, m10, k⟩ := h
    refine ⟨_, pss_cons (ps_asg (pe_tup (pa_cons (pe_op op_add pe_int (pe_call D (hr.mono (by decide)) (by rfl) gD FD.kp bD .nil pass0 (pa_cons (pv 0) (pa_cons (pv 2) pa_nil)))) (pa_cons (pe_call D (hr.mono (by decide)) (by rfl) gD FD.kp bD .nil pass0 (pa_cons (pv 0) (pa_cons pe_int pa_nil))) (pa_cons (pe_lst pa_nil) pa_nil)))) (pg_tup rfl (pgs_cons (pg_name (i := 3) scMach.nd rfl (.inr rfl)) (pgs_cons (pg_name (i := 4) scMach.nd rfl (.inr rfl)) (pgs_cons (pg_name (i := 5) scMach.nd rfl (.inl rfl)) pgs_nil)))))
      (pss_cons (ps_for PassesOwn.never rfl (pi_range1 (by rfl) T.range (pa_cons (pv 3) pa_nil)) (pg_name (i := 6) scMach.nd rfl (.inr rfl))
        (pss_one (ps_if (pt_cmpR op_eq (pv 4) pe_int (nomark _)) (pss_one (ps_expr (pe_bm PySem.F.plainAttrs_list PySem.F.slot_list_append PySem.F.type_list_append mt_append (pv 5) (pa_cons (pe_callTy (r := rTup K) call_tuple_of (by rfl) T.tuple PyProof.Rows.boot_tuple (pa_cons (pe_lc (own := [("_law_at", 7)]) (g := gName 7) (tt := tYes) rfl scMach.nd (pi_range1 (by rfl) T.range (pa_cons (pv 1) pa_nil)) (blkOk_by (N := ["_law_deck_here", "_law_letters", "_law_most", "_law_many", "_law_way", "_law_rows", "_law_state", "_law_at", "_law_further", "_law_items", "_law_item", "_law_often"]) (sc := defScope sMach) (by decide +kernel)) (fun _ _ _ _ _ => pg_name (i := 7) scMach.nd rfl (Or.inl rfl)) (fun _ _ _ _ _ => pts_nil) (fun _ _ _ _ _ => pe_op op_mod (pe_callTy call_int1 (by rfl) T.int PyProof.Rows.boot_int (pa_cons (pe_op op_add (pv 6) pe_int) pa_nil)) (pv 3))) pa_nil)) pa_nil))))
          (pss_one (ps_if (pt_cmpR op_eq (pv 4) pe_int (nomark _))
            (pss_cons (ps_set (i := 8) scMach.nd rfl (.inr rfl) (pe_lst (pa_cons (pe_ifExp (pt_cmpR op_lt (pe_op op_add (pv 6) pe_int) (pv 3) (nomark _)) (pe_op op_add (pv 6) pe_int) pe_non) (pa_cons (pv 6) (pa_cons pe_non pa_nil)))))
              (pss_one (ps_expr (pe_bm PySem.F.plainAttrs_list PySem.F.slot_list_append PySem.F.type_list_append mt_append (pv 5) (pa_cons (pe_callTy (r := rTup K) call_tuple_of (by rfl) T.tuple PyProof.Rows.boot_tuple (pa_cons (pe_lc (own := [("_law_at", 7)]) (g := gName 7) (tt := tYes) rfl scMach.nd (pi_range1 (by rfl) T.range (pa_cons (pv 1) pa_nil)) (blkOk_by (N := ["_law_deck_here", "_law_letters", "_law_most", "_law_many", "_law_way", "_law_rows", "_law_state", "_law_at", "_law_further", "_law_items", "_law_item", "_law_often"]) (sc := defScope sMach) (by decide +kernel)) (fun _ _ _ _ _ => pg_name (i := 7) scMach.nd rfl (Or.inl rfl)) (fun _ _ _ _ _ => pts_nil) (fun _ _ _ _ _ => (pe_call O hr (by rfl) gO FO.kp bO .nil pass0 (pa_cons (pv 0) (pa_cons (pv 8) pa_nil))))) pa_nil)) pa_nil)))))
            (pss_cons (ps_setLc (i := 9) (own := [("_law_at", 7)]) (g := gName 7) (tt := tYes) rfl scMach.nd rfl rfl (sw_true rfl rfl rfl (by decide +kernel)) (pi_range1 (by rfl) T.range (pa_cons (pv 1) pa_nil)) (blkOk_by (N := ["_law_deck_here", "_law_letters", "_law_most", "_law_many", "_law_way", "_law_rows", "_law_state", "_law_at", "_law_further", "_law_items", "_law_item", "_law_often"]) (sc := defScope sMach) (by decide +kernel)) (fun _ _ _ _ _ => pg_name (i := 7) scMach.nd rfl (Or.inl rfl)) (fun _ _ _ _ _ => pts_nil) (fun _ _ _ _ _ => (pe_call D (hr.mono (by decide)) (by rfl) gD FD.kp bD .nil pass0 (pa_cons (pv 0) (pa_cons (pv 3) pa_nil)))))
              (pss_one (ps_expr (pe_bm PySem.F.plainAttrs_list PySem.F.slot_list_append PySem.F.type_list_append mt_append (pv 5) (pa_cons (pe_callTy (r := rTup K) call_tuple_of (by rfl) T.tuple PyProof.Rows.boot_tuple (pa_cons (pe_lc (own := [("_law_item", 10)]) (g := gName 10) (tt := tYes) rfl scMach.nd (pi_list (pv 9)) (blkOk_by (N := ["_law_deck_here", "_law_letters", "_law_most", "_law_many", "_law_way", "_law_rows", "_law_state", "_law_at", "_law_further", "_law_items", "_law_item", "_law_often"]) (sc := defScope sMach) (by decide +kernel)) (fun _ _ _ _ _ => pg_name (i := 10) scMach.nd rfl (Or.inl rfl)) (fun _ _ _ _ _ => pts_nil) (fun _ _ _ _ _ => pe_ifExp (pt_cmpR op_eq (pe_call D (hr.mono (by decide)) (by rfl) gD FD.kp bD .nil pass0 (pa_cons (pv 0) (pa_cons (pe_op op_add pe_int (pv 4)) pa_nil))) pe_int (nomark _)) pe_non (pv 10))) pa_nil)) pa_nil))))))))))
      (pss_cons (ps_set (i := 11) scMach.nd rfl (.inr rfl) (pe_call O hr (by rfl) gO FO.kp bO .nil pass0 (pa_cons (pv 0) (pa_cons (pe_lst (pa_cons pe_int (pa_cons pe_int (pa_cons pe_int (pa_cons pe_int pa_nil))))) pa_nil))))
      (pss_one (ps_ret (pe_tup (pa_cons (pv 1) (pa_cons (pe_callTy (r := rTup K) call_tuple_of (by rfl) T.tuple PyProof.Rows.boot_tuple (pa_cons (pv 5) pa_nil)) (pa_cons (pe_callTy (r := rTup K) call_tuple_of (by rfl) T.tuple PyProof.Rows.boot_tuple (pa_cons (pe_lc (own := [("_law_state", 6)]) (g := gName 6) (tt := tYes) rfl scMach.nd (pi_range1 (by rfl) T.range (pa_cons (pv 3) pa_nil)) (blkOk_by (N := ["_law_deck_here", "_law_letters", "_law_most", "_law_many", "_law_way", "_law_rows", "_law_state", "_law_at", "_law_further", "_law_items", "_law_item", "_law_often"]) (sc := defScope sMach) (by decide +kernel)) (fun _ _ _ _ _ => pg_name (i := 6) scMach.nd rfl (Or.inl rfl)) (fun _ _ _ _ _ => pts_nil) (fun _ _ _ _ _ => pe_cmpR op_eq (pe_call D (hr.mono (by decide)) (by rfl) gD FD.kp bD .nil pass0 (pa_cons (pv 0) (pa_cons (pv 11) pa_nil))) pe_int (nomark _))) pa_nil)) pa_nil)))))))), ?_⟩
    refine ⟨_, rfl, _, rfl, a, c, cells, n, M, rfl, dk, m1, by omega, n0, by omega, fun H1 cells1 r1 r0 rM dk1 k1 => ?_⟩
    refine ⟨1, r1, rfl, rfl, _, rfl, a, c, cells1, n + 1, 5, rfl, dk1, by decide, by decide, by omega, by omega, fun H2 cells2 r2 r20 r25 dk2 k2 => ?_⟩
    refine ⟨Nat.zero_le _, fun R hR => ?_⟩
    have nR := deck_off dk2 hR
    have k12 := k1.trans k2
    have dk3 := deck_new (o := .lst []) dk2 hR
    have k3 := k12.trans (keep_new (B := Bd a c) (o := .lst []) hR)
    have hR3 : upd H2 R (.lst []) R = some (.lst []) := upd_same
    refine ⟨(by show 3 ≤ sizeLine; decide), fun T3 hT => ?_⟩
    have dk4 := deck_new (o := .tup [.int (1 + r1), .int r2, .ref R]) dk3 hT
    have k4 := k3.trans (keep_new (B := Bd a c) (o := .tup [.int (1 + r1), .int r2, .ref R]) hT)
    have hR4 : upd (upd H2 R (.lst [])) T3 (.tup [.int (1 + r1), .int r2, .ref R]) R = some (.lst []) := by
      rw [upd_ne (ne_of_none hR3 hT)]
      exact hR3
    have hT4 : upd (upd H2 R (.lst [])) T3 (.tup [.int (1 + r1), .int r2, .ref R]) T3 = some (.tup [.int (1 + r1), .int r2, .ref R]) := upd_same
    have hR0 : H R = none := by
      cases z : H R with
      | none => rfl
      | some o =>
        rw [k12 _ _ nR z] at hR
        cases hR
    refine ⟨T3, _, rfl, SqT.of hT4, rfl, _, _, rfl, _, _, rfl, _, _, rfl, rfl, ?_⟩
    obtain ⟨m, em⟩ : ∃ m, m = 1 + r1 := ⟨_, rfl⟩
    have hm1 : 1 ≤ m := by omega
    have hmM : m ≤ M := by omega
    have lo62 : ∀ z : Int, 0 ≤ z → z ≤ 10 → -(2 ^ 62) ≤ z ∧ z < 2 ^ 62 := fun z z0 z1 => ⟨by omega, by omega⟩
    refine ⟨_, rfl, m, by rw [em], (lo62 m (by omega) (by omega)).1, (lo62 m (by omega) (by omega)).2, ?_⟩
    refine for_range (lo := 0) (n := m.toNat) (fun i σ H' => (∃ y6 y8 y9, σ = [some (.ref a), some (.int L), some (.int M), some (.int m), some (.int r2), some (.ref R), y6, none, y8, y9, none, none]) ∧ MInv K a c R H L m (n + 2) i H')
      ⟨⟨none, none, none, by rw [em]; rfl⟩, cells2, n + 1 + 1, [], [], dk4, by omega, by omega, k4, hR4, .nil, rfl, fun r z => absurd z List.not_mem_nil⟩ ?_ ?_
    · rintro i σ H5 hi ⟨⟨y6, y8, y9, rfl⟩, cells5, n5, rvs, rds, dk5, hn5, hn5', k5, hR5, hd5, hl5, hr5⟩
      have hi10 : i < 10 := by omega
      -- what each of the three ways has at its end
      have stp : ∀ (y8' y9' : Option V) (H6 : Hp) (cells6 : List Int) (n6 : Int) (acc : List V) (q : Addr), Keep (Bd a c) H5 H6 → DeckAt a c cells6 n6 H6 → n5 ≤ n6 → n6 ≤ n5 + 6 → (∀ v ∈ acc, Gi m v) → (acc.length : Int) = L → H6 q = none →
          ∃ rvs', (upd H6 q (.tup acc)) R = some (.lst rvs') ∧ rvs'.length < sizeLine ∧ ((∃ y6 y8 y9, [some (V.ref a), some (.int L), some (.int M), some (.int m), some (.int r2), some (.ref R), some (.int (0 + i)), none, y8', y9', none, none] = [some (V.ref a), some (.int L), some (.int M), some (.int m), some (.int r2), some (.ref R), y6, none, y8, y9, none, none]) ∧ MInv K a c R H L m (n + 2) (i + 1) (upd (upd H6 q (.tup acc)) R (.lst (rvs' ++ [.ref q])))) := by
        intro y8' y9' H6 cells6 n6 acc q k6 dk6 h1 h2 hG hL hq
        obtain ⟨rvs', e1, e2, e3⟩ := mstep hR0 nR (by omega) hn5 hn5' k5 hR5 hd5 hl5 hr5 k6 dk6 h1 h2 hG hL hq
        exact ⟨rvs', e1, e2, ⟨_, _, _, rfl⟩, e3⟩
      refine ⟨_, rfl, rfl, _, rfl, ite2 (fun hw0 => ?_) (fun hw0 => ?_)⟩
      · -- a ring
        refine ⟨.ref R, rfl, .inl ⟨rfl, _, SqL.of hR5⟩, ?_⟩
        refine ⟨_, rfl, L, rfl, (lo62 L (by omega) (by omega)).1, (lo62 L (by omega) (by omega)).2, fun D hD => ?_⟩
        have nD := deck_off dk5 hD
        refine lc_range (lo := 0) (n := L.toNat) (CInv a c D H5 (Gi m) n5 0) (cstart dk5 hD) ?_ ?_
        · rintro j H6 hj ⟨cells6, n6, acc, dk6, h1, h2, k6, hD6, hl6, hG6⟩
          refine ⟨rfl, _, rfl, _, 1, rfl, rfl, .inl ⟨_, rfl, _, rfl, _, m, rfl, rfl, by omega, ?_⟩⟩
          exact cstep hD nD (by omega) h1 h2 k6 hD6 hl6 hG6 dk6 (Int.le_refl _) (by omega) Keep.rfl' (.inr ⟨_, rfl, Int.emod_nonneg _ (by omega), Int.emod_lt_of_pos _ (by omega)⟩)
        · rintro H6 ⟨cells6, n6, acc, dk6, h1, h2, k6, hD6, hl6, hG6⟩
          refine ⟨D, acc, rfl, .inl ⟨SqL.of hD6, fun q hq => ?_⟩⟩
          obtain ⟨rvs', e1, e2, e3⟩ := stp y8 y9 H6 cells6 n6 acc q k6 dk6 h1 (by omega) hG6 (by rw [hl6]; omega) hq
          exact ⟨R, _, _, rfl, rfl, e1, e2, e3⟩
      · refine ⟨_, rfl, rfl, _, rfl, ite2 (fun hw1 => ?_) (fun hw1 => ?_)⟩
        · -- a row of states
          refine ⟨_, rfl, _, 1, rfl, rfl, _, rfl, _, m, rfl, rfl, _, rfl, ite2 (fun hlt => ?_) (fun hlt => ?_)⟩
          · have hlt := of_decide_eq_true hlt
            refine ⟨_, rfl, _, 1, rfl, rfl, _, rfl, (by show 3 ≤ sizeLine; decide), fun Fu hFu => ?_⟩
            have g0 : Gi m (.int (0 + i + 1)) := .inr ⟨_, rfl, by omega, by omega⟩
            have g1 : Gi m (.int (0 + i)) := .inr ⟨_, rfl, by omega, by omega⟩
            have dkF := deck_new (o := .lst [V.int (0 + i + 1), .int (0 + i), .non]) dk5 hFu
            have nF := deck_off dk5 hFu
            have kF : Keep (Bd a c) H5 (upd H5 Fu (.lst [V.int (0 + i + 1), .int (0 + i), .non])) := keep_new hFu
            have hRF := kF _ _ nR hR5
            have hFF : upd H5 Fu (.lst [V.int (0 + i + 1), .int (0 + i), .non]) Fu = some (.lst [V.int (0 + i + 1), .int (0 + i), .non]) := upd_same
            have gF : ∀ x ∈ [V.int (0 + i + 1), V.int (0 + i), V.non], Gi m x := fun x hx => by
              rcases List.mem_cons.mp hx with hx | hx
              · rw [hx]
                exact g0
              · rcases List.mem_cons.mp hx with hx | hx
                · rw [hx]
                  exact g1
                · rw [List.mem_singleton.mp hx]
                  exact .inl rfl
            refine ⟨.ref R, rfl, .inl ⟨rfl, _, SqL.of hRF⟩, ?_⟩
            refine ⟨_, rfl, L, rfl, (lo62 L (by omega) (by omega)).1, (lo62 L (by omega) (by omega)).2, fun D hD => ?_⟩
            have nD := deck_off dkF hD
            refine lc_range (lo := 0) (n := L.toNat) (CInv a c D (upd H5 Fu (.lst [V.int (0 + i + 1), .int (0 + i), .non])) (Gi m) n5 1) (cstart dkF hD) ?_ ?_
            · rintro j H6 hj ⟨cells6, n6, acc, dk6, h1, h2, k6, hD6, hl6, hG6⟩
              refine ⟨rfl, _, rfl, _, rfl, a, c, Fu, cells6, n6, _, rfl, dk6, by omega, by omega, SqL.of (k6 _ _ nF hFF), nF, List.cons_ne_nil _ _, (by show 3 ≤ 1000; decide), fun H7 cells7 x hx dk7 k7 => ?_⟩
              exact cstep hD nD (by omega) h1 h2 k6 hD6 hl6 hG6 dk7 (by omega) (by omega) k7 (gF x hx)
            · rintro H6 ⟨cells6, n6, acc, dk6, h1, h2, k6, hD6, hl6, hG6⟩
              refine ⟨D, acc, rfl, .inl ⟨SqL.of hD6, fun q hq => ?_⟩⟩
              obtain ⟨rvs', e1, e2, e3⟩ := stp (some (.ref Fu)) y9 H6 cells6 n6 acc q (kF.trans k6) dk6 h1 (by omega) hG6 (by rw [hl6]; omega) hq
              exact ⟨R, _, _, rfl, rfl, e1, e2, e3⟩
          · refine ⟨_, rfl, (by show 3 ≤ sizeLine; decide), fun Fu hFu => ?_⟩
            have g0 : Gi m .non := .inl rfl
            have g1 : Gi m (.int (0 + i)) := .inr ⟨_, rfl, by omega, by omega⟩
            have dkF := deck_new (o := .lst [V.non, .int (0 + i), .non]) dk5 hFu
            have nF := deck_off dk5 hFu
            have kF : Keep (Bd a c) H5 (upd H5 Fu (.lst [V.non, .int (0 + i), .non])) := keep_new hFu
            have hRF := kF _ _ nR hR5
            have hFF : upd H5 Fu (.lst [V.non, .int (0 + i), .non]) Fu = some (.lst [V.non, .int (0 + i), .non]) := upd_same
            have gF : ∀ x ∈ [V.non, V.int (0 + i), V.non], Gi m x := fun x hx => by
              rcases List.mem_cons.mp hx with hx | hx
              · rw [hx]
                exact g0
              · rcases List.mem_cons.mp hx with hx | hx
                · rw [hx]
                  exact g1
                · rw [List.mem_singleton.mp hx]
                  exact .inl rfl
            refine ⟨.ref R, rfl, .inl ⟨rfl, _, SqL.of hRF⟩, ?_⟩
            refine ⟨_, rfl, L, rfl, (lo62 L (by omega) (by omega)).1, (lo62 L (by omega) (by omega)).2, fun D hD => ?_⟩
            have nD := deck_off dkF hD
            refine lc_range (lo := 0) (n := L.toNat) (CInv a c D (upd H5 Fu (.lst [V.non, .int (0 + i), .non])) (Gi m) n5 1) (cstart dkF hD) ?_ ?_
            · rintro j H6 hj ⟨cells6, n6, acc, dk6, h1, h2, k6, hD6, hl6, hG6⟩
              refine ⟨rfl, _, rfl, _, rfl, a, c, Fu, cells6, n6, _, rfl, dk6, by omega, by omega, SqL.of (k6 _ _ nF hFF), nF, List.cons_ne_nil _ _, (by show 3 ≤ 1000; decide), fun H7 cells7 x hx dk7 k7 => ?_⟩
              exact cstep hD nD (by omega) h1 h2 k6 hD6 hl6 hG6 dk7 (by omega) (by omega) k7 (gF x hx)
            · rintro H6 ⟨cells6, n6, acc, dk6, h1, h2, k6, hD6, hl6, hG6⟩
              refine ⟨D, acc, rfl, .inl ⟨SqL.of hD6, fun q hq => ?_⟩⟩
              obtain ⟨rvs', e1, e2, e3⟩ := stp (some (.ref Fu)) y9 H6 cells6 n6 acc q (kF.trans k6) dk6 h1 (by omega) hG6 (by rw [hl6]; omega) hq
              exact ⟨R, _, _, rfl, rfl, e1, e2, e3⟩
        · -- drawn items
          refine ⟨_, rfl, L, rfl, (lo62 L (by omega) (by omega)).1, (lo62 L (by omega) (by omega)).2, fun D hD => ?_⟩
          have nD := deck_off dk5 hD
          refine lc_range (lo := 0) (n := L.toNat) (CInv a c D H5 (Gi m) n5 1) (cstart dk5 hD) ?_ ?_
          · rintro j H6 hj ⟨cells6, n6, acc, dk6, h1, h2, k6, hD6, hl6, hG6⟩
            refine ⟨rfl, _, rfl, _, rfl, a, c, cells6, n6, m, rfl, dk6, hm1, by omega, by omega, by omega, fun H7 cells7 r r0 rm dk7 k7 => ?_⟩
            exact cstep hD nD (by omega) h1 h2 k6 hD6 hl6 hG6 dk7 (by omega) (by omega) k7 (.inr ⟨r, rfl, r0, rm⟩)
          · rintro H6 ⟨cells6, n6, acc, dk6, h1, h2, k6, hD6, hl6, hG6⟩
            have hR6 := k6 _ _ nR hR5
            refine ⟨.ref R, rfl, .inl ⟨rfl, _, SqL.of hR6⟩, ?_⟩
            refine ⟨_, rfl, D, rfl, ⟨_, SqL.of hD6⟩, fun D2 hD2 => ?_⟩
            have nD2 := deck_off dk6 hD2
            refine lc_list (K := K) (a := D) (xs := acc) (CInv a c D2 H6 (Gi m) n6 1) (cstart dk6 hD2) (fun j H7 _ p => ?_) ?_ ?_
            · obtain ⟨_, _, _, _, _, _, k7, _⟩ := p
              exact SqL.of (k7 _ _ nD hD6)
            · rintro j y H7 hy ⟨cells7, n7, acc7, dk7, h3, h4, k7, hD7, hl7, hG7⟩
              have hj := (List.getElem?_eq_some_iff.mp hy).1
              refine ⟨rfl, _, rfl, _, rfl, 3, r2, rfl, rfl, a, c, cells7, n7, 3 + r2, rfl, dk7, by omega, by omega, by omega, by omega, fun H8 cells8 r r0 rm dk8 k8 => ?_⟩
              refine ⟨rfl, _, rfl, ite2 (fun _ => ?_) (fun _ => ?_)⟩
              · exact cstep hD2 nD2 (by omega) h3 h4 k7 hD7 hl7 hG7 dk8 (by omega) (by omega) k8 (.inl rfl)
              · exact ⟨y, rfl, cstep hD2 nD2 (by omega) h3 h4 k7 hD7 hl7 hG7 dk8 (by omega) (by omega) k8 (hG6 y (List.mem_of_getElem? hy))⟩
            · rintro H7 ⟨cells7, n7, acc7, dk7, h3, h4, k7, hD7, hl7, hG7⟩
              refine ⟨D2, acc7, rfl, .inl ⟨SqL.of hD7, fun q hq => ?_⟩⟩
              obtain ⟨rvs', e1, e2, e3⟩ := stp y8 (some (.ref D)) H7 cells7 n7 acc7 q (k6.trans k7) dk7 (by omega) (by omega) hG7 (by rw [hl7, hl6]; omega) hq
              exact ⟨R, _, _, rfl, rfl, e1, e2, e3⟩
    · rintro σ H5 ⟨⟨y6, y8, y9, rfl⟩, cells5, n5, rvs, rds, dk5, hn5, hn5', k5, hR5, hd5, hl5, hr5⟩
      have hml : (rds.length : Int) = m := by omega
      refine ⟨_, rfl, (by show 4 ≤ sizeLine; decide), fun O4 hO4 => ?_⟩
      have dkO := deck_new (o := .lst [.int 2, .int 2, .int 3, .int 5]) dk5 hO4
      have kO : Keep (Bd a c) H5 (upd H5 O4 (.lst [.int 2, .int 2, .int 3, .int 5])) := keep_new hO4
      refine ⟨a, c, O4, cells5, n5, _, rfl, dkO, by omega, by omega, SqL.of upd_same, deck_off dk5 hO4, List.cons_ne_nil _ _, (by show 4 ≤ 1000; decide), fun H6 cells6 x hx dk6 k6 => ?_⟩
      obtain ⟨o, rfl, ho1, ho5⟩ : ∃ o : Int, x = .int o ∧ 1 ≤ o ∧ o ≤ 5 := by
        simp only [List.mem_cons, List.not_mem_nil, or_false] at hx
        rcases hx with hx | hx | hx | hx <;> exact ⟨_, hx, by decide, by decide⟩
      have k56 := kO.trans k6
      have hR6 := k56 _ _ nR hR5
      refine ⟨_, rfl, _, rfl, R, rvs, rfl, .inl ⟨SqL.of hR6, fun pr hpr => ?_⟩⟩
      have dk7 := deck_new (o := .tup rvs) dk6 hpr
      have k67 : Keep (Bd a c) H6 (upd H6 pr (.tup rvs)) := keep_new hpr
      have hpr7 : upd H6 pr (.tup rvs) pr = some (.tup rvs) := upd_same
      refine ⟨_, rfl, m, rfl, (lo62 m (by omega) (by omega)).1, (lo62 m (by omega) (by omega)).2, fun D hD => ?_⟩
      have nD := deck_off dk7 hD
      refine lc_range (lo := 0) (n := m.toNat) (CInv a c D (upd H6 pr (.tup rvs)) Gb (n5 + 1) 1) (cstart dk7 hD) ?_ ?_
      · rintro j H8 hj ⟨cells8, n8, acc8, dk8, h1, h2, k8, hD8, hl8, hG8⟩
        refine ⟨rfl, _, rfl, _, rfl, a, c, cells8, n8, o, rfl, dk8, ho1, by omega, by omega, by omega, fun H9 cells9 r r0 rm dk9 k9 => ⟨rfl, ?_⟩⟩
        exact cstep hD nD (by omega) h1 h2 k8 hD8 hl8 hG8 dk9 (by omega) (by omega) k9 ⟨_, rfl⟩
      · rintro H8 ⟨cells8, n8, acc8, dk8, h1, h2, k8, hD8, hl8, hG8⟩
        refine ⟨D, acc8, rfl, .inl ⟨SqL.of hD8, fun pe hpe => ?_⟩⟩
        refine ⟨(by show 3 ≤ sizeLine; decide), fun p hp => ?_⟩
        obtain ⟨eds, ge1, ge2, ge3⟩ := gb_dt hG8
        have dk9 := deck_new (o := .tup acc8) dk8 hpe
        have k89 : Keep (Bd a c) H8 (upd H8 pe (.tup acc8)) := keep_new hpe
        have hpe9 : upd H8 pe (.tup acc8) pe = some (.tup acc8) := upd_same
        have dk10 := deck_new (o := .tup [.int L, .ref pr, .ref pe]) dk9 hp
        have k910 : Keep (Bd a c) (upd H8 pe (.tup acc8)) (upd (upd H8 pe (.tup acc8)) p (.tup [.int L, .ref pr, .ref pe])) := keep_new hp
        have hp10 : upd (upd H8 pe (.tup acc8)) p (.tup [.int L, .ref pr, .ref pe]) p = some (.tup [.int L, .ref pr, .ref pe]) := upd_same
        have k710 := k8.trans (k89.trans k910)
        have k510 := k56.trans (k67.trans k710)
        have npr := deck_off dk6 hpr
        have npe := deck_off dk8 hpe
        refine k _ cells8 n8 _ rds eds dk10 (by omega) (by omega) (k5.trans k510) ⟨.tup (deck_off dk9 hp) (.inl hp10) (.cons (.int L) (.cons (.tup npr (.inl (k710 _ _ npr hpr7)) ?_) (.cons (.tup npe (.inl (k910 _ _ npe hpe9)) (ge1 _ _ _)) .nil))), by omega, by omega, by omega, fun r hr2 => ?_, ge3⟩
        · exact DtAll.keep k510 _ _ (DtAll.weak (fun b hb => .inl hb) _ _ hd5)
        · rw [hml]
          exact hr5 r hr2
end
section
variable {X : Cx}
/-- []: new, and no table of modules -/
def tNilN : TE := fun _ H Q => ∀ p, H p = none → p ≠ sysModules → Q (.ref p) (upd H p (.lst []))
theorem pe_nilN {pos : Pos} : PE X (.List [] pos) tNilN := by
  refine ⟨fun pins s σ H Q I h => ?_⟩
  refine wpAny_List_spliced (thn (pa_nil.run pos pins s σ H (fun xs H1 => xs = [] ∧ H1 = H) I ⟨rfl, rfl⟩) ?_)
  rintro us s1 ⟨xs, H1, I1, r, rfl, rfl⟩
  cases r
  exact ⟨Nat.zero_le _, .ref s1.heap.objs.size, _, I1.laid (o := .lst []) (t' := s1.toks) (fun b u e => Heap.get?_push_of_some _ e) (Nat.le_refl _) ⟨Nat.zero_le _, [], 0, .nil, Heap.get?_push_size _ rfl⟩, rfl, h _ (I1.hok.fresh (Nat.le_refl _)) (Nat.ne_of_gt I1.big)⟩
/-- list(t): new, and no table of modules -/
def rListN (K : PySem.W.Frag) : List V → Hp → VK → Prop := fun xs H Q => ∃ p ys, xs = [.ref p] ∧ SqT K H p ys ∧ ∀ l, H l = none → l ≠ sysModules → Q (.ref l) (upd H l (.lst ys))
theorem call_listN : CallR X (.type "list") (rListN X.K) := by
  intro pins s σ H xs us Q I r h
  obtain ⟨p, ys, rfl, hq, q⟩ := h
  obtain ⟨u, rfl, rx⟩ := vals1 r
  cases rx
  obtain ⟨its, rv, pl, hz⟩ := I.tuple hq
  have hlen := rv.length
  obtain ⟨o, ho, hc, n, hd⟩ := id pl
  refine call_list_seq p (.inr rfl) ho hc hd (fun h' c' kp e => ?_) (by simp only [List.size_toArray]; omega)
  exact ⟨.ref s.heap.objs.size, _, I.laid (t' := s.toks) kp (Nat.le_refl _) (show ObjOk X.prog X.w _ h' _ (.lst ys) from ⟨hz, its, c', rv, e⟩), rfl, q _ (I.hok.fresh (Nat.le_refl _)) (Nat.ne_of_gt I.big)⟩
/-- t[lo:hi], some tuple of the cut: t or a new one -/
def rSlS (K : PySem.W.Frag) : V → Option Int → Option Int → Hp → VK → Prop := fun x lo hi H Q => ∃ a xs, x = .ref a ∧ Rd H a (.tup xs) ∧ ∀ q H', Same H H' → Rd H' q (.tup (cutV xs lo hi)) → (q = a ∨ H q = none) → Q (.ref q) H'
theorem sl_tupS : SlR X (rSlS X.K) := by
  intro pins s σ H x v vl vu lo hi sl Q I rx hs pl pu h
  obtain ⟨a, xs, rfl, hx, q⟩ := h
  refine sl_tupA pins s σ H _ v vl vu lo hi sl Q I rx hs pl pu ⟨a, xs, rfl, .inl hx, fun hw => ?_, fun hw p hp => ?_⟩
  · refine q a H (Same.refl H) ?_ (.inl rfl)
    have e : cutV xs lo hi = xs := by
      unfold cutV
      rw [hw.1, hw.2, List.drop_zero, Nat.sub_zero, List.take_length]
    rw [e]
    exact hx
  · exact q p _ (same_new hp) (.inl upd_same) (.inr hp)
/-- t + u, some tuple of both -/
def rCatS (K : PySem.W.Frag) : R2 := fun x y H Q => ∃ a b xs ys, x = .ref a ∧ y = .ref b ∧ Rd H a (.tup xs) ∧ Rd H b (.tup ys) ∧ xs.length + ys.length ≤ sizeLine ∧ ∀ q H', Same H H' → Rd H' q (.tup (xs ++ ys)) → (q = a ∨ q = b ∨ H q = none) → Q (.ref q) H'
theorem op_catS : OpR X (binaryOp .Add) (rCatS X.K) := by
  intro pins s σ H x y v u Q I rx ry h
  obtain ⟨a, b, xs, ys, rfl, rfl, hx, hy, hz, q⟩ := h
  refine op_catA pins s σ H _ _ v u Q I rx ry ⟨a, b, xs, ys, rfl, rfl, .inl hx, .inl hy, hz, fun e => ?_, fun _ e => ?_, fun _ _ p hp => ?_⟩
  · subst e
    exact q b H (Same.refl H) hy (.inr (.inl rfl))
  · subst e
    refine q a H (Same.refl H) ?_ (.inl rfl)
    rw [List.append_nil]
    exact hx
  · exact q p _ (same_new hp) (.inl upd_same) (.inr (.inr hp))
end
theorem cut_take (xs : List V) (j : Nat) (h : j ≤ xs.length) : cutV xs none (some (j : Int)) = xs.take j := by
  unfold cutV
  rw [HT.sIx_none, HT.sIx_nat, List.drop_zero, Nat.sub_zero, Nat.min_eq_left h]
theorem cut_drop (xs : List V) (j : Nat) (h : j ≤ xs.length) : cutV xs (some (j : Int)) none = xs.drop j := by
  unfold cutV
  rw [HT.sIx_none, HT.sIx_nat, Nat.min_eq_left h]
  exact List.take_of_length_le (by rw [List.length_drop]; omega)
theorem cut_mid (xs : List V) (j : Nat) (h : j < xs.length) : cutV xs (some (j : Int)) (some ((j + 1 : Nat) : Int)) = (xs.drop j).take 1 := by
  unfold cutV
  rw [HT.sIx_nat, HT.sIx_nat, Nat.min_eq_left (by omega), Nat.min_eq_left (by omega)]
  congr 1
  omega
/-! ### small data -/
mutual
def sm : PyData → Bool
  | .none => true
  | .bool _ => true
  | .int i => decide (i.natAbs ≤ 10 ^ 30)
  | .str x => decide ((reprText x).length ≤ 20)
  | .list xs => smAll xs
  | .tuple xs => smAll xs
  | .dict kvs => kvs.isEmpty
def smAll : List PyData → Bool
  | [] => true
  | x :: xs => sm x && smAll xs
end
theorem smAll_iff : ∀ xs : List PyData, smAll xs = true ↔ ∀ x ∈ xs, sm x = true
  | [] => by simp [smAll]
  | x :: xs => by
    rw [smAll, Bool.and_eq_true, smAll_iff xs]
    simp
theorem sm_tup (xs : List PyData) : sm (.tuple xs) = true ↔ ∀ x ∈ xs, sm x = true := by rw [sm]; exact smAll_iff xs
theorem sm_lst (xs : List PyData) : sm (.list xs) = true ↔ ∀ x ∈ xs, sm x = true := by rw [sm]; exact smAll_iff xs
theorem depthAll_le : ∀ {xs : List PyData} {n : Nat}, PyData.depthAll xs ≤ n ↔ ∀ x ∈ xs, x.depth ≤ n
  | [], n => by simp [PyData.depthAll]
  | x :: xs, n => by
    rw [PyData.depthAll, Nat.max_le, depthAll_le (xs := xs)]
    simp
theorem depth_tup (xs : List PyData) : (PyData.tuple xs).depth = PyData.depthAll xs + 1 := by rw [PyData.depth]
theorem depth_lst (xs : List PyData) : (PyData.list xs).depth = PyData.depthAll xs + 1 := by rw [PyData.depth]
mutual
theorem sm_show : ∀ d : PyData, sm d = true → d.showable = true
  | .none, _ => by simp [PyData.showable]
  | .bool _, _ => by simp [PyData.showable]
  | .int i, h => by
    rw [sm, decide_eq_true_eq] at h
    rw [PyData.showable, decide_eq_true_eq]
    have h2 : i.natAbs < 2 ^ 100 := Nat.lt_of_le_of_lt h (by decide)
    by_cases z : i.natAbs = 0
    · rw [z]
      decide
    · exact Nat.lt_trans ((Nat.log2_lt z).mpr h2) (by decide)
  | .str _, _ => by simp [PyData.showable]
  | .list xs, h => by
    rw [PyData.showable]
    exact smAll_show xs (by rw [sm] at h; exact h)
  | .tuple xs, h => by
    rw [PyData.showable]
    exact smAll_show xs (by rw [sm] at h; exact h)
  | .dict kvs, h => by
    rw [sm] at h
    rw [List.isEmpty_iff.mp h]
    simp [PyData.showable, PyData.showableKv]
theorem smAll_show : ∀ xs : List PyData, smAll xs = true → PyData.showableAll xs = true
  | [], _ => by simp [PyData.showableAll]
  | x :: xs, h => by
    rw [smAll, Bool.and_eq_true] at h
    rw [PyData.showableAll, sm_show x h.1, smAll_show xs h.2]
    rfl
end
mutual
theorem sm_len : ∀ d : PyData, sm d = true → d.shown.length + 5 ≤ 60 * nodes d
  | .none, _ => by
    rw [PyData.shown, nodes]
    decide +kernel
  | .bool b, _ => by
    rw [PyData.shown, nodes]
    cases b <;> decide +kernel
  | .int i, h => by
    rw [sm, decide_eq_true_eq] at h
    rw [PyData.shown, nodes, PySem.ofString_length]
    have := int_text_length_le10 (a := i) (k := 31) (by decide) (Nat.lt_of_le_of_lt h (by decide))
    omega
  | .str x, h => by
    rw [sm, decide_eq_true_eq] at h
    rw [PyData.shown, nodes]
    omega
  | .list xs, h => by
    rw [PyData.shown, nodes]
    have h1 := smAll_len xs (by rw [sm] at h; exact h)
    have h2 := listText_len_le (PyData.shownAll xs)
    omega
  | .tuple xs, h => by
    rw [PyData.shown, nodes]
    have h1 := smAll_len xs (by rw [sm] at h; exact h)
    have h2 := tupleText_len_le (PyData.shownAll xs)
    omega
  | .dict kvs, h => by
    rw [sm] at h
    rw [List.isEmpty_iff.mp h, PyData.shown, PyData.shownKv, nodes]
    have h2 := dictText_len_le []
    simp only [List.map_nil, List.sum_nil, List.length_nil] at h2
    omega
theorem smAll_len : ∀ xs : List PyData, smAll xs = true → ((PyData.shownAll xs).map (·.length)).sum + 2 * (PyData.shownAll xs).length ≤ 60 * nodesAll xs
  | [], _ => by
    rw [PyData.shownAll, nodesAll]
    decide
  | x :: xs, h => by
    rw [smAll, Bool.and_eq_true] at h
    have h1 := sm_len x h.1
    have h2 := smAll_len xs h.2
    rw [PyData.shownAll, nodesAll, List.map_cons, List.sum_cons, List.length_cons]
    omega
end
theorem sm_fits {d : PyData} (h : sm d = true) (hn : nodes d ≤ 100000) : d.shown.length ≤ sizeLine := by
  have := sm_len d h
  exact Nat.le_trans (show d.shown.length ≤ 6000000 by omega) (by decide)
/-- all of B is tracked -/
def TB (B : Addr → Prop) (H : Hp) : Prop := ∀ b, B b → H b ≠ none
theorem tb_off {B : Addr → Prop} {H : Hp} {p : Addr} (tb : TB B H) (n : H p = none) : ¬ B p := fun z => tb p z n
theorem tb_upd {B : Addr → Prop} {H : Hp} {p : Addr} {o : HO} (tb : TB B H) : TB B (upd H p o) := fun b z e => by
  by_cases h : b = p
  · rw [h, upd_same] at e
    cases e
  · rw [upd_ne h] at e
    exact tb b z e
theorem tb_same {B : Addr → Prop} {H H' : Hp} (s : Same H H') (tb : TB B H) : TB B H' := fun b z e => by
  cases q : H b with
  | none => exact tb b z q
  | some o =>
    rw [s b o q] at e
    cases e
theorem tb_keep {B : Addr → Prop} {H H' : Hp} {a c : Addr} {cells : List Int} {n : Int} (tb : TB B H) (dk : DeckAt a c cells n H') (k : Keep (Bd a c) H H') : TB B H' := fun b z e => by
  by_cases h : Bd a c b
  · exact deck_off dk e h
  · cases q : H b with
    | none => exact tb b z q
    | some o =>
      rw [k b o h q] at e
      cases e
theorem new_tup {B : Addr → Prop} {p : Addr} {K : PySem.W.Frag} {H : Hp} {xs : List V} {ds : List PyData} (tb : TB B H) (h : H p = none) (ha : DtAll B K (upd H p (.tup xs)) xs ds) : Dt B K (upd H p (.tup xs)) (.ref p) (.tuple ds) :=
  .tup (tb_off tb h) (.inl upd_same) ha
theorem same_rd {H H' : Hp} {a : Addr} {o : HO} (s : Same H H') (h : Rd H a o) : Rd H' a o := Keep.rd (B := fun _ => False) (Keep.same s) (fun z => z) h
theorem deck_same {a c : Addr} {cells : List Int} {n : Int} {H H' : Hp} (s : Same H H') (h : DeckAt a c cells n H) : DeckAt a c cells n H' := ⟨h.1, s _ _ h.2.1, s _ _ h.2.2.1, h.2.2.2.1, h.2.2.2.2⟩
theorem sz_of {n : Nat} (h : n ≤ 100000) : n ≤ sizeLine := Nat.le_trans h (by decide)
theorem nb_of {B : Addr → Prop} {p q : Addr} {H : Hp} (tb : TB B H) (np : ¬ B p) (h : q = p ∨ H q = none) : ¬ B q := by
  rcases h with h | h
  · rw [h]
    exact np
  · exact tb_off tb h
theorem nb_of2 {B : Addr → Prop} {p r q : Addr} {H : Hp} (tb : TB B H) (np : ¬ B p) (nr : ¬ B r) (h : q = p ∨ q = r ∨ H q = none) : ¬ B q := by
  rcases h with h | h | h
  · rw [h]
    exact np
  · rw [h]
    exact nr
  · exact tb_off tb h
theorem same_seqL {K : PySem.W.Frag} {H H' : Hp} {a : Addr} {xs : List V} (s : Same H H') (h : SqL K H a xs) : SqL K H' a xs := L2.Same.seq s h
theorem same_all {B : Addr → Prop} {K : PySem.W.Frag} {H H' : Hp} {vs : List V} {ds : List PyData} (s : Same H H') (h : DtAll B K H vs ds) : DtAll B K H' vs ds := DtAll.keep (Keep.same s) _ _ h
section
variable {X : Cx}
/-- repr of data without dicts -/
def rReprP (K : PySem.W.Frag) : List V → Hp → VK → Prop := fun xs H Q => ∃ (a : Addr) (ds : List PyData), xs = [.ref a] ∧ Dp K H (.ref a) (.list ds) ∧ (PyData.list ds).showable = true ∧ (PyData.list ds).hasDict = false ∧ (PyData.list ds).depth ≤ 60 ∧ (PyData.list ds).shown.length ≤ sizeLine ∧ Q (.str (PyData.list ds).shown) H
theorem call_reprP (hG : X.A.guards = some []) (hu : X.A.units + 64 < cLine) : CallR X (.builtin "repr") (rReprP X.K) := by
  intro pins s σ H xs us Q I r h
  obtain ⟨a, ds, rfl, hd, hs, hn, hdp, hz, q⟩ := h
  obtain ⟨u, rfl, rx⟩ := vals1 r
  obtain ⟨as, rd⟩ := Dp.reads I _ _ u hd rx
  cases rx
  exact repr_of_reads' rd hs (PyData.noDict_hsm hn) hG (by omega) (fun _ _ e => e) (fun h' u tk hk => ⟨.str _, H, I.kept hk, ⟨_, rfl⟩, q⟩) hz
/-! ### t * 1, t[::-1] of three -/
theorem mul_one (l : Addr) (items : Array Value) (n : Nat) (dd : Option Addr) (sl : Array (Option Value)) (u : Tok) :
    Meets (Builtin.«tuple.__mul__» ⟨[.ref l, .int 1 u], []⟩) (fun _ R s => s.heap.get? l = some { cls := .type "tuple", dict := dd, data := .seq items n, slots := sl } ∧ R (.ok (.ret (Value.ref l))) s) :=
  .of_wp fun prog w A R s h => by
    obtain ⟨hp, g, d, tk, os⟩ := s
    obtain ⟨hl, h⟩ := h
    have f1 := AutoSeq1.idx_int
    wp_walk using wpAny_loadPart' hl
    exact ⟨_, rfl, h⟩
def rRep1 (K : PySem.W.Frag) : R2 := fun x y H Q => ∃ l xs, x = .ref l ∧ y = .int 1 ∧ SqT K H l xs ∧ Q (.ref l) H
theorem op_rep1 : OpR X (binaryOp .Mult) (rRep1 X.K) := by
  intro pins s σ H x y v u Q I rx ry h
  obtain ⟨l, xs, rfl, rfl, hT, q⟩ := h
  cases rx
  obtain ⟨t, rfl⟩ := ry
  obtain ⟨its, r, ⟨⟨cls, dd, data, sl⟩, ho, hc, n, hd⟩, _⟩ := I.tuple hT
  cases hc
  cases hd
  exact wpAny_binaryOp_repeat_ref (T := "tuple") (U := "int") (by decide) ⟨_, ho, rfl⟩ (fun s' => typeIs_int s' 1 t) noFill_tuple_mul F.fills_int_mul F.slot_int_rmul repeat_tuple F.slot_int_index.lookup
    (call_meets F.slot_int_rmul (typeIs_int s 1 t) F.entry_int_rmul (F.args_int_rmul_2 _ _) (int_rmul_tuple 1 t l its.toArray n dd sl)
      ⟨ho, rfl, ⟨_, ho, rfl⟩, call_meets F.slot_tuple_mul ⟨_, ho, rfl⟩ F.entry_tuple_mul (F.args_tuple_mul_2 _ _) (mul_one l its.toArray n dd sl t) ⟨ho, .ref l, H, I, rfl, q⟩⟩)
/-- t * k for a small k from 1 on -/
def rRepS (K : PySem.W.Frag) : R2 := fun x y H Q => ∃ l k xs, x = .ref l ∧ y = .int k ∧ Rd H l (.tup xs) ∧ xs ≠ [] ∧ 1 ≤ k ∧ k ≤ 1000 ∧ xs.length ≤ 1000 ∧ ∀ q H', Same H H' → Rd H' q (.tup (List.replicate k.toNat xs).flatten) → (q = l ∨ H q = none) → Q (.ref q) H'
theorem op_repS : OpR X (binaryOp .Mult) (rRepS X.K) := by
  intro pins s σ H x y v u Q I rx ry h
  obtain ⟨l, k, xs, rfl, rfl, hT, hne, k1, k2, hz, q⟩ := h
  by_cases e : k = 1
  · subst e
    refine op_rep1 pins s σ H _ _ v u Q I rx ry ⟨l, xs, rfl, rfl, .inl hT, q l H (Same.refl H) ?_ (.inl rfl)⟩
    rw [show (List.replicate (1 : Int).toNat xs).flatten = xs by simp]
    exact hT
  · exact op_repT pins s σ H _ _ v u Q I rx ry ⟨l, k, xs, rfl, rfl, .inl hT, hne, by omega, k2, hz, fun p hp => q p _ (same_new hp) (.inl upd_same) (.inr hp)⟩
end
/-! ### rows, their edges, potentials -/
abbrev Rows := List (List (Option Nat))
/-- from u by a letter to v, worth g -/
def Edge (rs : Rows) (f : List Int) (u v : Nat) (g : Int) : Prop := ∃ (row : List (Option Nat)) (l : Nat), rs[u]? = some row ∧ row[l]? = some (some v) ∧ f[l]? = some g
inductive Reach (rs : Rows) : Nat → Prop
  | z : Reach rs 0
  | s {u v l : Nat} {row : List (Option Nat)} : Reach rs u → rs[u]? = some row → row[l]? = some (some v) → Reach rs v
abbrev Ed := Nat × Nat × Int
def PotE (E : List Ed) (p : Nat → Int) : Prop := 0 ≤ p 0 ∧ ∀ e ∈ E, p e.1 + e.2.2 ≤ p e.2.1
structure RS where
  h : Nat → Option Int
  par : Nat → Option Nat
  R : Nat → Nat
  T : Nat → Nat
  now : Nat
def raises (e : Ed) (s : RS) : Bool := match s.h e.1 with
  | none => false
  | some a => match s.h e.2.1 with
    | none => true
    | some b => decide (b < a + e.2.2)
def relax (i : Nat) (e : Ed) (s : RS) : RS := if raises e s then
    { h := fun x => if x = e.2.1 then some ((s.h e.1).getD 0 + e.2.2) else s.h x
      par := fun x => if x = e.2.1 then some e.1 else s.par x
      R := fun x => if x = e.2.1 then i else s.R x
      T := fun x => if x = e.2.1 then s.now + 1 else s.T x
      now := s.now + 1 } else s
def settled (e : Ed) (s : RS) : Prop := ∀ a, s.h e.1 = some a → ∃ b, s.h e.2.1 = some b ∧ a + e.2.2 ≤ b
structure RInv (E : List Ed) (i : Nat) (E1 E2 : List Ed) (last : Option Nat) (s : RS) : Prop where
  one : 1 ≤ i
  zero : ∃ a, s.h 0 = some a ∧ 0 ≤ a
  rle : ∀ v, s.R v ≤ i
  par : ∀ v, 1 ≤ s.R v → ∃ u g a b, s.par v = some u ∧ (u, v, g) ∈ E ∧ s.R v ≤ s.R u + 1 ∧ s.h u = some a ∧ s.h v = some b ∧ b ≤ a + g ∧ (s.T v ≤ s.T u → b < a + g)
  par0 : ∀ v, s.R v = 0 → s.par v = none
  done : ∀ e ∈ E1, s.R e.1 < i → settled e s
  todo : ∀ e ∈ E2, s.R e.1 + 1 < i → settled e s
  tle : ∀ v, s.T v ≤ s.now
  low : ∀ p, PotE E p → ∀ v a, s.h v = some a → a ≤ p v
  bnd : ∀ v a, s.h v = some a → -(100 * (s.now : Int)) ≤ a ∧ a ≤ 100 * (s.now : Int)
  dom : ∀ v a, s.h v = some a → v = 0 ∨ ∃ e ∈ E, e.2.1 = v
  lastN : last = none → ∀ e ∈ E1, settled e s
  lastS : ∀ v, last = some v → s.R v = i
  nowle : s.now ≤ (i - 1) * E.length + E1.length
def rs0 : RS := { h := fun x => if x = 0 then some 0 else none, par := fun _ => none, R := fun _ => 0, T := fun _ => 0, now := 0 }
theorem rinv0 {E : List Ed} : RInv E 1 [] E none rs0 where
  one := Nat.le_refl _
  zero := ⟨0, rfl, Int.le_refl _⟩
  rle := fun _ => Nat.zero_le _
  par := fun v h => absurd h (by show ¬ 1 ≤ 0; omega)
  par0 := fun _ _ => rfl
  done := fun e h => absurd h List.not_mem_nil
  todo := fun e _ h => by
    have : rs0.R e.1 + 1 < 1 := h
    omega
  tle := fun _ => Nat.le_refl _
  low := fun p hp v a h => by
    have h : (if v = 0 then some (0 : Int) else none) = some a := h
    by_cases e : v = 0
    · rw [if_pos e] at h
      cases h
      rw [e]
      exact hp.1
    · rw [if_neg e] at h
      cases h
  bnd := fun v a h => by
    have h : (if v = 0 then some (0 : Int) else none) = some a := h
    by_cases e : v = 0
    · rw [if_pos e] at h
      cases h
      exact ⟨by show -(100 * ((0 : Nat) : Int)) ≤ 0; omega, by show 0 ≤ 100 * ((0 : Nat) : Int); omega⟩
    · rw [if_neg e] at h
      cases h
  dom := fun v a h => by
    have h : (if v = 0 then some (0 : Int) else none) = some a := h
    by_cases e : v = 0
    · exact .inl e
    · rw [if_neg e] at h
      cases h
  lastN := fun _ e h => absurd h List.not_mem_nil
  lastS := fun v h => by cases h
  nowle := Nat.zero_le _
theorem raises_iff {e : Ed} {s : RS} : raises e s = true ↔ ∃ a, s.h e.1 = some a ∧ ∀ b, s.h e.2.1 = some b → b < a + e.2.2 := by
  unfold raises
  cases h1 : s.h e.1 with
  | none => simp
  | some a =>
    cases h2 : s.h e.2.1 with
    | none => simp
    | some b => simp
theorem not_raises {e : Ed} {s : RS} (h : ¬ raises e s = true) : settled e s := by
  intro a ha
  unfold raises at h
  rw [ha] at h
  cases h2 : s.h e.2.1 with
  | none =>
    rw [h2] at h
    exact absurd rfl h
  | some b =>
    rw [h2] at h
    have h : ¬ decide (b < a + e.2.2) = true := h
    rw [decide_eq_true_eq] at h
    exact ⟨b, rfl, by omega⟩
theorem rinv_step {E : List Ed} {i : Nat} {e : Ed} {E1 E2 : List Ed} {last : Option Nat} {s : RS} (he : e ∈ E) (hg : -100 ≤ e.2.2 ∧ e.2.2 ≤ 100) (I : RInv E i E1 (e :: E2) last s) :
    RInv E i (E1 ++ [e]) E2 (if raises e s then some e.2.1 else last) (relax i e s) := by
  by_cases hr : raises e s = true
  · rw [if_pos hr]
    unfold relax
    rw [if_pos hr]
    obtain ⟨u, v, g⟩ := e
    obtain ⟨a, ha, hb⟩ := raises_iff.mp hr
    simp only at ha hb hg
    have hRu : i ≤ s.R u + 1 := by
      refine Nat.le_of_not_lt fun z => ?_
      obtain ⟨b, h1, h2⟩ := I.todo _ List.mem_cons_self z a ha
      have := hb b h1
      simp only at h2
      omega
    have hup : ∀ x b, s.h x = some b → ∃ b', (if x = v then some ((s.h u).getD 0 + g) else s.h x) = some b' ∧ b ≤ b' := by
      intro x b hx
      by_cases e : x = v
      · rw [if_pos e, ha]
        refine ⟨a + g, rfl, ?_⟩
        rw [e] at hx
        have := hb b hx
        omega
      · rw [if_neg e]
        exact ⟨b, hx, Int.le_refl _⟩
    have hset : ∀ e' : Ed, e'.1 ≠ v → settled e' s → settled e' { h := fun x => if x = v then some ((s.h u).getD 0 + g) else s.h x, par := fun x => if x = v then some u else s.par x, R := fun x => if x = v then i else s.R x, T := fun x => if x = v then s.now + 1 else s.T x, now := s.now + 1 } := by
      intro e' hne hs a' ha'
      simp only at ha'
      rw [if_neg hne] at ha'
      obtain ⟨b, h1, h2⟩ := hs a' ha'
      obtain ⟨b', h3, h4⟩ := hup _ b h1
      exact ⟨b', h3, by omega⟩
    have hself : u ≠ v → settled (u, v, g) { h := fun x => if x = v then some ((s.h u).getD 0 + g) else s.h x, par := fun x => if x = v then some u else s.par x, R := fun x => if x = v then i else s.R x, T := fun x => if x = v then s.now + 1 else s.T x, now := s.now + 1 } := by
      intro hne a' ha'
      simp only at ha'
      rw [if_neg hne, ha] at ha'
      cases ha'
      refine ⟨a + g, ?_, Int.le_refl _⟩
      show (if v = v then some ((s.h u).getD 0 + g) else s.h v) = some (a + g)
      rw [if_pos rfl, ha]
      rfl
    refine ⟨I.one, ?_, fun x => ?_, fun x hx => ?_, fun x hx => ?_, fun e' h' hR => ?_, fun e' h' hR => ?_, fun x => ?_, fun p hp x b hx => ?_, fun x b hx => ?_, fun x b hx => ?_, fun z => ?_, fun x hx => ?_, ?_⟩
    · obtain ⟨b, h1, h2⟩ := I.zero
      obtain ⟨b', h3, h4⟩ := hup 0 b h1
      exact ⟨b', h3, by omega⟩
    · show (if x = v then i else s.R x) ≤ i
      by_cases e : x = v
      · rw [if_pos e]
        exact Nat.le_refl _
      · rw [if_neg e]
        exact I.rle x
    · by_cases e : x = v
      · subst e
        refine ⟨u, g, if u = x then a + g else a, a + g, if_pos rfl, he, ?_, ?_, ?_, ?_, ?_⟩
        · show (if x = x then i else s.R x) ≤ (if u = x then i else s.R u) + 1
          rw [if_pos rfl]
          by_cases e2 : u = x
          · rw [if_pos e2]
            omega
          · rw [if_neg e2]
            exact hRu
        · show (if u = x then some ((s.h u).getD 0 + g) else s.h u) = some (if u = x then a + g else a)
          by_cases e2 : u = x
          · rw [if_pos e2, if_pos e2, ha]
            rfl
          · rw [if_neg e2, if_neg e2, ha]
        · show (if x = x then some ((s.h u).getD 0 + g) else s.h x) = some (a + g)
          rw [if_pos rfl, ha]
          rfl
        · by_cases e2 : u = x
          · rw [if_pos e2]
            have := hb a (e2 ▸ ha)
            omega
          · rw [if_neg e2]
            omega
        · intro ht
          by_cases e2 : u = x
          · rw [if_pos e2]
            have := hb a (e2 ▸ ha)
            omega
          · have ht : (if x = x then s.now + 1 else s.T x) ≤ (if u = x then s.now + 1 else s.T u) := ht
            rw [if_pos rfl, if_neg e2] at ht
            have := I.tle u
            omega
      · have hx : 1 ≤ (if x = v then i else s.R x) := hx
        rw [if_neg e] at hx
        obtain ⟨u', g', a', b', p1, p2, p3, p4, p5, p6, p7⟩ := I.par x hx
        by_cases e2 : u' = v
        · have h9 := hb a' (e2 ▸ p4)
          refine ⟨u', g', a + g, b', ?_, p2, ?_, ?_, ?_, ?_, fun _ => ?_⟩
          · show (if x = v then some u else s.par x) = some u'
            rw [if_neg e, p1]
          · show (if x = v then i else s.R x) ≤ (if u' = v then i else s.R u') + 1
            rw [if_neg e, if_pos e2]
            have := I.rle x
            omega
          · show (if u' = v then some ((s.h u).getD 0 + g) else s.h u') = some (a + g)
            rw [if_pos e2, ha]
            rfl
          · show (if x = v then some ((s.h u).getD 0 + g) else s.h x) = some b'
            rw [if_neg e, p5]
          · omega
          · omega
        · refine ⟨u', g', a', b', ?_, p2, ?_, ?_, ?_, p6, fun ht => p7 ?_⟩
          · show (if x = v then some u else s.par x) = some u'
            rw [if_neg e, p1]
          · show (if x = v then i else s.R x) ≤ (if u' = v then i else s.R u') + 1
            rw [if_neg e, if_neg e2]
            exact p3
          · show (if u' = v then some ((s.h u).getD 0 + g) else s.h u') = some a'
            rw [if_neg e2, p4]
          · show (if x = v then some ((s.h u).getD 0 + g) else s.h x) = some b'
            rw [if_neg e, p5]
          · have ht : (if x = v then s.now + 1 else s.T x) ≤ (if u' = v then s.now + 1 else s.T u') := ht
            rw [if_neg e, if_neg e2] at ht
            exact ht
    · have hx : (if x = v then i else s.R x) = 0 := hx
      show (if x = v then some u else s.par x) = none
      by_cases e : x = v
      · rw [if_pos e] at hx
        have h1 := I.one
        omega
      · rw [if_neg e] at hx ⊢
        exact I.par0 x hx
    · have hR : (if e'.1 = v then i else s.R e'.1) < i := hR
      by_cases e : e'.1 = v
      · rw [if_pos e] at hR
        omega
      · rw [if_neg e] at hR
        rcases List.mem_append.mp h' with h' | h'
        · exact hset e' e (I.done e' h' hR)
        · rw [List.mem_singleton.mp h']
          rw [List.mem_singleton.mp h'] at e
          exact hself e
    · have hR : (if e'.1 = v then i else s.R e'.1) + 1 < i := hR
      by_cases e : e'.1 = v
      · rw [if_pos e] at hR
        omega
      · rw [if_neg e] at hR
        exact hset e' e (I.todo e' (List.mem_cons_of_mem _ h') hR)
    · show (if x = v then s.now + 1 else s.T x) ≤ s.now + 1
      by_cases e : x = v
      · rw [if_pos e]
        exact Nat.le_refl _
      · rw [if_neg e]
        exact Nat.le_succ_of_le (I.tle x)
    · have hx : (if x = v then some ((s.h u).getD 0 + g) else s.h x) = some b := hx
      by_cases e : x = v
      · rw [if_pos e, ha] at hx
        cases hx
        have h1 := I.low p hp u a ha
        have h2 := hp.2 _ he
        simp only at h2
        rw [e]
        show a + g ≤ p v
        omega
      · rw [if_neg e] at hx
        exact I.low p hp x b hx
    · have hx : (if x = v then some ((s.h u).getD 0 + g) else s.h x) = some b := hx
      show -(100 * ((s.now + 1 : Nat) : Int)) ≤ b ∧ b ≤ 100 * ((s.now + 1 : Nat) : Int)
      by_cases e : x = v
      · rw [if_pos e, ha] at hx
        cases hx
        have h1 := I.bnd u a ha
        show -(100 * ((s.now + 1 : Nat) : Int)) ≤ a + g ∧ a + g ≤ 100 * ((s.now + 1 : Nat) : Int)
        omega
      · rw [if_neg e] at hx
        have h1 := I.bnd x b hx
        omega
    · have hx : (if x = v then some ((s.h u).getD 0 + g) else s.h x) = some b := hx
      by_cases e : x = v
      · exact .inr ⟨_, he, e.symm⟩
      · rw [if_neg e] at hx
        exact I.dom x b hx
    · cases z
    · cases hx
      show (if v = v then i else s.R v) = i
      rw [if_pos rfl]
    · have := I.nowle
      rw [List.length_append, List.length_singleton]
      show s.now + 1 ≤ _
      omega
  · rw [if_neg hr]
    unfold relax
    rw [if_neg hr]
    have hs := not_raises hr
    refine ⟨I.one, I.zero, I.rle, I.par, I.par0, fun e' h' hR => ?_, fun e' h' hR => I.todo e' (List.mem_cons_of_mem _ h') hR, I.tle, I.low, I.bnd, I.dom, fun z e' h' => ?_, I.lastS, ?_⟩
    · rcases List.mem_append.mp h' with h' | h'
      · exact I.done e' h' hR
      · rw [List.mem_singleton.mp h']
        exact hs
    · rcases List.mem_append.mp h' with h' | h'
      · exact I.lastN z e' h'
      · rw [List.mem_singleton.mp h']
        exact hs
    · have := I.nowle
      rw [List.length_append, List.length_singleton]
      omega
theorem rinv_next {E : List Ed} {i : Nat} {last : Option Nat} {s : RS} (I : RInv E i E [] last s) : RInv E (i + 1) [] E none s where
  one := Nat.le_succ_of_le I.one
  zero := I.zero
  rle := fun v => Nat.le_succ_of_le (I.rle v)
  par := I.par
  par0 := I.par0
  done := fun e h => absurd h List.not_mem_nil
  todo := fun e h hR => I.done e h (by omega)
  tle := I.tle
  low := I.low
  bnd := I.bnd
  dom := I.dom
  lastN := fun _ e h => absurd h List.not_mem_nil
  lastS := fun v h => by cases h
  nowle := by
    have h1 := I.nowle
    have h2 := I.one
    rw [List.length_nil, Nat.add_sub_cancel]
    have h3 : i * E.length = (i - 1) * E.length + E.length := by
      rw [← Nat.succ_mul]
      congr 1
      omega
    omega
/-- more turns than a list has items: one comes twice -/
theorem pigeon (L : List Nat) : ∀ (c : Nat → Nat), (∀ k, k ≤ L.length → c k ∈ L) → ∃ a b, a < b ∧ b ≤ L.length ∧ c a = c b := by
  suffices H : ∀ (n : Nat) (L : List Nat) (c : Nat → Nat), L.length ≤ n → (∀ k, k ≤ n → c k ∈ L) → ∃ a b, a < b ∧ b ≤ n ∧ c a = c b from fun c h => H L.length L c (Nat.le_refl _) h
  intro n
  induction n with
  | zero =>
    intro L c hl h
    have := h 0 (Nat.le_refl _)
    cases L with
    | nil => exact absurd this List.not_mem_nil
    | cons x xs => simp at hl
  | succ n ih =>
    intro L c hl h
    by_cases e : ∃ k, k ≤ n ∧ c k = c (n + 1)
    · obtain ⟨k, h1, h2⟩ := e
      exact ⟨k, n + 1, by omega, Nat.le_refl _, h2⟩
    · have hm := h (n + 1) (Nat.le_refl _)
      obtain ⟨a, b, h1, h2, h3⟩ := ih (L.erase (c (n + 1))) c (by rw [List.length_erase_of_mem hm]; omega) (fun k hk => by
        have h4 : c k ≠ c (n + 1) := fun z => e ⟨k, hk, z⟩
        exact (List.mem_erase_of_ne h4).mpr (h k (by omega)))
      exact ⟨a, b, h1, by omega, h3⟩
def chainP (s : RS) (v : Nat) : Nat → Nat
  | 0 => v
  | k + 1 => (s.par (chainP s v k)).getD 0
section
variable {E : List Ed} {i : Nat} {E1 E2 : List Ed} {last : Option Nat} {s : RS} {ord : List Nat} {v : Nat}
theorem chain_R (I : RInv E i E1 E2 last s) (hv : ord.length ≤ s.R v) : ∀ k, k < ord.length → ord.length ≤ s.R (chainP s v k) + k ∧ 1 ≤ s.R (chainP s v k) := by
  intro k
  induction k with
  | zero => intro h; exact ⟨hv, by show 1 ≤ s.R v; omega⟩
  | succ k ih =>
    intro h
    obtain ⟨h1, h2⟩ := ih (by omega)
    obtain ⟨u, g, a, b, p1, p2, p3, _⟩ := I.par _ h2
    have e : chainP s v (k + 1) = u := by
      show (s.par (chainP s v k)).getD 0 = u
      rw [p1]
      rfl
    rw [e]
    omega
theorem chain_mem (I : RInv E i E1 E2 last s) (hE : ∀ e ∈ E, e.1 ∈ ord ∧ e.2.1 ∈ ord) (hv : ord.length ≤ s.R v) (hn : 1 ≤ ord.length) : ∀ k, k ≤ ord.length → chainP s v k ∈ ord := by
  intro k hk
  cases k with
  | zero =>
    obtain ⟨u, g, a, b, p1, p2, _⟩ := I.par v (by omega)
    exact (hE _ p2).2
  | succ k =>
    obtain ⟨h1, h2⟩ := chain_R I hv k (by omega)
    obtain ⟨u, g, a, b, p1, p2, p3, _⟩ := I.par _ h2
    have e : chainP s v (k + 1) = u := by
      show (s.par (chainP s v k)).getD 0 = u
      rw [p1]
      rfl
    rw [e]
    exact (hE _ p2).1
theorem chain_per {a b : Nat} (h : chainP s v a = chainP s v b) : ∀ j, chainP s v (a + j) = chainP s v (b + j) := by
  intro j
  induction j with
  | zero => exact h
  | succ j ih =>
    show (s.par (chainP s v (a + j))).getD 0 = (s.par (chainP s v (b + j))).getD 0
    rw [ih]
/-- each state that is come to against the edges was raised -/
theorem chain_all (I : RInv E i E1 E2 last s) (hE : ∀ e ∈ E, e.1 ∈ ord ∧ e.2.1 ∈ ord) (hv : ord.length ≤ s.R v) (hn : 1 ≤ ord.length) : ∀ k, 1 ≤ s.R (chainP s v k) := by
  obtain ⟨a, b, h1, h2, h3⟩ := pigeon ord (chainP s v) (chain_mem I hE hv hn)
  intro k
  induction k using Nat.strongRecOn with
  | ind k ih =>
    by_cases hk : k < ord.length
    · exact (chain_R I hv k hk).2
    · have e := chain_per h3 (k - b)
      rw [show b + (k - b) = k by omega] at e
      rw [← e]
      exact ih _ (by omega)
/-- raised in a late round: no potential -/
theorem no_pot (I : RInv E i E1 E2 last s) (hE : ∀ e ∈ E, e.1 ∈ ord ∧ e.2.1 ∈ ord) (hv : ord.length ≤ s.R v) (hn : 1 ≤ ord.length) (p : Nat → Int) (hp : PotE E p) : False := by
  obtain ⟨a, b, h1, h2, h3⟩ := pigeon ord (chainP s v) (chain_mem I hE hv hn)
  have key : ∀ j, (s.h (chainP s v a)).getD 0 - p (chainP s v a) ≤ (s.h (chainP s v (a + j))).getD 0 - p (chainP s v (a + j)) ∧
      ((s.h (chainP s v a)).getD 0 - p (chainP s v a) < (s.h (chainP s v (a + j))).getD 0 - p (chainP s v (a + j)) ∨ s.T (chainP s v (a + j)) + j ≤ s.T (chainP s v a)) := by
    intro j
    induction j with
    | zero => exact ⟨Int.le_refl _, .inr (Nat.le_refl _)⟩
    | succ j ih =>
      obtain ⟨u, g, x, y, p1, p2, p3, p4, p5, p6, p7⟩ := I.par _ (chain_all I hE hv hn (a + j))
      have e : chainP s v (a + (j + 1)) = u := by
        show (s.par (chainP s v (a + j))).getD 0 = u
        rw [p1]
        rfl
      have hpe := hp.2 _ p2
      simp only at hpe
      rw [e, p4]
      rw [p5] at ih
      simp only [Option.getD_some] at ih ⊢
      by_cases ht : s.T (chainP s v (a + j)) ≤ s.T u
      · have := p7 ht
        exact ⟨by omega, .inl (by omega)⟩
      · refine ⟨by omega, ?_⟩
        rcases ih.2 with h | h
        · exact .inl (by omega)
        · exact .inr (by omega)
  have hk := key (b - a)
  rw [show a + (b - a) = b by omega, ← h3] at hk
  omega
end
/-! ### the edges of rows, heights -/
def rowEd (f : List Int) (u : Nat) : Nat → List (Option Nat) → List Ed
  | _, [] => []
  | l, none :: r => rowEd f u (l + 1) r
  | l, some v :: r => (u, v, f.getD l 0) :: rowEd f u (l + 1) r
def edgesOf (rs : Rows) (f : List Int) (ord : List Nat) : List Ed := ord.flatMap fun u => rowEd f u 0 (rs.getD u [])
theorem mem_rowEd {f : List Int} {u : Nat} : ∀ {r : List (Option Nat)} {l : Nat} {e : Ed}, e ∈ rowEd f u l r ↔ e.1 = u ∧ ∃ k, r[k]? = some (some e.2.1) ∧ e.2.2 = f.getD (l + k) 0
  | [], l, e => by simp [rowEd]
  | none :: r, l, e => by
    rw [rowEd, mem_rowEd (r := r)]
    refine and_congr_right fun _ => ⟨fun ⟨k, h1, h2⟩ => ⟨k + 1, by simpa using h1, by rw [h2]; congr 1; omega⟩, fun ⟨k, h1, h2⟩ => ?_⟩
    cases k with
    | zero => simp at h1
    | succ k => exact ⟨k, by simpa using h1, by rw [h2]; congr 1; omega⟩
  | some v :: r, l, e => by
    rw [rowEd, List.mem_cons, mem_rowEd (r := r)]
    constructor
    · rintro (rfl | ⟨h, k, h1, h2⟩)
      · exact ⟨rfl, 0, rfl, rfl⟩
      · exact ⟨h, k + 1, by simpa using h1, by rw [h2]; congr 1; omega⟩
    · rintro ⟨h, k, h1, h2⟩
      cases k with
      | zero =>
        left
        simp at h1
        obtain ⟨a, b, c⟩ := e
        simp only at h h1 h2
        rw [h, ← h1, h2]
        rfl
      | succ k => exact .inr ⟨h, k, by simpa using h1, by rw [h2]; congr 1; omega⟩
/-- the form has something for each letter of each row -/
def Fits (rs : Rows) (f : List Int) : Prop := ∀ row ∈ rs, row.length = f.length
theorem mem_edges {rs : Rows} {f : List Int} {ord : List Nat} (hf : Fits rs f) {e : Ed} : e ∈ edgesOf rs f ord ↔ e.1 ∈ ord ∧ Edge rs f e.1 e.2.1 e.2.2 := by
  unfold edgesOf
  rw [List.mem_flatMap]
  constructor
  · rintro ⟨u, hu, he⟩
    obtain ⟨rfl, k, h1, h2⟩ := mem_rowEd.mp he
    rw [Nat.zero_add] at h2
    refine ⟨hu, ?_⟩
    cases hr : rs[e.1]? with
    | none =>
      rw [List.getD_eq_getElem?_getD, hr] at h1
      simp at h1
    | some row =>
      rw [List.getD_eq_getElem?_getD, hr] at h1
      have h1 : row[k]? = some (some e.2.1) := h1
      refine ⟨row, k, hr, h1, ?_⟩
      have hk := (List.getElem?_eq_some_iff.mp h1).1
      rw [hf row (List.mem_of_getElem? hr)] at hk
      rw [h2, List.getD_eq_getElem?_getD, List.getElem?_eq_getElem hk]
      rfl
  · rintro ⟨hu, row, k, h1, h2, h3⟩
    refine ⟨e.1, hu, mem_rowEd.mpr ⟨rfl, k, ?_, ?_⟩⟩
    · rw [List.getD_eq_getElem?_getD, h1]
      exact h2
    · rw [Nat.zero_add, List.getD_eq_getElem?_getD, h3]
      rfl
def Valid (rs : Rows) (es : List Bool) (f : List Int) (bd : Int) (hs : List (Option Int)) : Prop :=
  hs.length = rs.length ∧ (∃ a, hs[0]? = some (some a) ∧ 0 ≤ a) ∧ ∀ (u : Nat) (a : Int), hs[u]? = some (some a) → (es[u]? = some true → a ≤ bd) ∧ ∀ v g, Edge rs f u v g → ∃ b, hs[v]? = some (some b) ∧ a + g ≤ b
/-- the states that words come to, in some order -/
structure IsOrd (rs : Rows) (ord : List Nat) : Prop where
  mem : ∀ u, u ∈ ord ↔ Reach rs u
  lt : ∀ u ∈ ord, u < rs.length
  len : ord.length ≤ rs.length
  nd : ord.Nodup
theorem IsOrd.ne {rs : Rows} {ord : List Nat} (O : IsOrd rs ord) : 1 ≤ ord.length := by
  have := (O.mem 0).mpr .z
  cases ord with
  | nil => exact absurd this List.not_mem_nil
  | cons x xs => simp
theorem IsOrd.ends {rs : Rows} {f : List Int} {ord : List Nat} (O : IsOrd rs ord) (hf : Fits rs f) : ∀ e ∈ edgesOf rs f ord, e.1 ∈ ord ∧ e.2.1 ∈ ord := by
  intro e he
  obtain ⟨h1, row, l, h2, h3, _⟩ := (mem_edges hf).mp he
  exact ⟨h1, (O.mem _).mpr (.s ((O.mem _).mp h1) h2 h3)⟩
/-- all settled: each state that is come to has a height -/
theorem all_have {rs : Rows} {f : List Int} {ord : List Nat} {s : RS} (O : IsOrd rs ord) (hf : Fits rs f) (z : ∃ a, s.h 0 = some a ∧ 0 ≤ a) (S : ∀ e ∈ edgesOf rs f ord, settled e s) : ∀ u, Reach rs u → ∃ a, s.h u = some a := by
  intro u r
  induction r with
  | z => exact ⟨_, z.choose_spec.1⟩
  | s r h1 h2 ih =>
    rename_i u v l row
    obtain ⟨a, ha⟩ := ih
    have hl := (List.getElem?_eq_some_iff.mp h2).1
    rw [hf row (List.mem_of_getElem? h1)] at hl
    obtain ⟨b, hb, _⟩ := S (u, v, f[l]) ((mem_edges hf).mpr ⟨(O.mem _).mpr r, row, l, h1, h2, List.getElem?_eq_getElem hl⟩) a ha
    exact ⟨b, hb⟩
theorem pot_of {rs : Rows} {f : List Int} {ord : List Nat} {s : RS} (O : IsOrd rs ord) (hf : Fits rs f) (z : ∃ a, s.h 0 = some a ∧ 0 ≤ a) (S : ∀ e ∈ edgesOf rs f ord, settled e s) : PotE (edgesOf rs f ord) fun u => (s.h u).getD 0 := by
  refine ⟨?_, fun e he => ?_⟩
  · obtain ⟨a, h1, h2⟩ := z
    show 0 ≤ (s.h 0).getD 0
    rw [h1]
    exact h2
  · obtain ⟨a, ha⟩ := all_have O hf z S e.1 ((O.mem _).mp (O.ends hf e he).1)
    obtain ⟨b, hb, hab⟩ := S e he a ha
    show (s.h e.1).getD 0 + e.2.2 ≤ (s.h e.2.1).getD 0
    rw [ha, hb]
    exact hab
theorem valid_of {rs : Rows} {es : List Bool} {f : List Int} {bd : Int} {ord : List Nat} {s : RS} (O : IsOrd rs ord) (hf : Fits rs f) (z : ∃ a, s.h 0 = some a ∧ 0 ≤ a) (S : ∀ e ∈ edgesOf rs f ord, settled e s)
    (dom : ∀ v a, s.h v = some a → v = 0 ∨ ∃ e ∈ edgesOf rs f ord, e.2.1 = v) (B : ∀ u ∈ ord, es[u]? = some true → (s.h u).getD 0 ≤ bd) : Valid rs es f bd ((List.range rs.length).map s.h) := by
  have get : ∀ (u : Nat) (o : Option Int), ((List.range rs.length).map s.h)[u]? = some o → s.h u = o := by
    intro u o h
    rw [List.getElem?_map] at h
    obtain ⟨x, h1, h2⟩ := Option.map_eq_some_iff.mp h
    have := (List.getElem?_eq_some_iff.mp h1)
    obtain ⟨hl, hx⟩ := this
    rw [List.getElem_range] at hx
    rw [hx, h2]
  have put : ∀ u, u < rs.length → ((List.range rs.length).map s.h)[u]? = some (s.h u) := by
    intro u h
    rw [List.getElem?_map, List.getElem?_range h]
    rfl
  have inO : ∀ v a, s.h v = some a → v ∈ ord := by
    intro v a h
    rcases dom v a h with h | ⟨e, he, h⟩
    · rw [h]
      exact (O.mem 0).mpr .z
    · rw [← h]
      exact (O.ends hf e he).2
  refine ⟨by rw [List.length_map, List.length_range], ?_, fun u a h => ?_⟩
  · obtain ⟨a, h1, h2⟩ := z
    exact ⟨a, by rw [put 0 (O.lt 0 ((O.mem 0).mpr .z)), h1], h2⟩
  · have hu := get u _ h
    have uo := inO u a hu
    refine ⟨fun he => ?_, fun v g he => ?_⟩
    · have := B u uo he
      rw [hu] at this
      exact this
    · obtain ⟨b, hb, hab⟩ := S (u, v, g) ((mem_edges hf).mpr ⟨uo, he⟩) a hu
      exact ⟨b, by rw [put v (O.lt v (inO v b hb)), hb], hab⟩
/-- heights give a potential -/
theorem pot_of_valid {rs : Rows} {es : List Bool} {f : List Int} {bd : Int} {ord : List Nat} {hs : List (Option Int)} (O : IsOrd rs ord) (hf : Fits rs f) (V : Valid rs es f bd hs) :
    ∃ p, PotE (edgesOf rs f ord) p ∧ ∀ u ∈ ord, hs[u]? = some (some (p u)) := by
  have all : ∀ u, Reach rs u → ∃ a, hs[u]? = some (some a) := by
    intro u r
    induction r with
    | z => exact ⟨_, V.2.1.choose_spec.1⟩
    | s r h1 h2 ih =>
      rename_i u v l row
      obtain ⟨a, ha⟩ := ih
      have hl := (List.getElem?_eq_some_iff.mp h2).1
      rw [hf row (List.mem_of_getElem? h1)] at hl
      obtain ⟨b, hb, _⟩ := (V.2.2 u a ha).2 v f[l] ⟨row, l, h1, h2, List.getElem?_eq_getElem hl⟩
      exact ⟨b, hb⟩
  have val : ∀ (u : Nat) (a : Int), hs[u]? = some (some a) → ((hs[u]?).getD none).getD 0 = a := fun u a h => by rw [h]; rfl
  refine ⟨fun u => ((hs[u]?).getD none).getD 0, ⟨?_, fun e he => ?_⟩, fun u hu => ?_⟩
  · obtain ⟨a, h1, h2⟩ := V.2.1
    show 0 ≤ ((hs[0]?).getD none).getD 0
    rw [val 0 a h1]
    exact h2
  · obtain ⟨h1, h2⟩ := (mem_edges hf).mp he
    obtain ⟨a, ha⟩ := all e.1 ((O.mem _).mp h1)
    obtain ⟨b, hb, hab⟩ := (V.2.2 _ a ha).2 _ _ h2
    show ((hs[e.1]?).getD none).getD 0 + e.2.2 ≤ ((hs[e.2.1]?).getD none).getD 0
    rw [val _ a ha, val _ b hb]
    exact hab
  · obtain ⟨a, ha⟩ := all u ((O.mem _).mp hu)
    show hs[u]? = some (some (((hs[u]?).getD none).getD 0))
    rw [val _ a ha, ha]
/-! ### the row and the ring of many states -/
def rsLong (n : Nat) (ring : Bool) : Rows := (List.range (n - 1)).map (fun i => [some (i + 1)]) ++ [[if ring then some 0 else none]]
def esLong (n : Nat) : List Bool := List.replicate (n - 1) false ++ [true]
def hsLong (n : Nat) (own : Int) : List (Option Int) := (List.range n).map fun (i : Nat) => some (own * (i : Int))
theorem long_edge {n : Nat} {ring : Bool} {own : Int} (hn : 1 ≤ n) {u v : Nat} {g : Int} : Edge (rsLong n ring) [own] u v g ↔ g = own ∧ (u + 1 < n ∧ v = u + 1 ∨ u + 1 = n ∧ ring = true ∧ v = 0) := by
  have get : ∀ row, (rsLong n ring)[u]? = some row ↔ (u + 1 < n ∧ row = [some (u + 1)] ∨ u + 1 = n ∧ row = [if ring then some 0 else none]) := by
    intro row
    unfold rsLong
    by_cases h : u < n - 1
    · rw [List.getElem?_append_left (by rw [List.length_map, List.length_range]; exact h), List.getElem?_map, List.getElem?_range h]
      constructor
      · intro e
        exact .inl ⟨by omega, (Option.some.inj e).symm⟩
      · rintro (⟨_, rfl⟩ | ⟨e, _⟩)
        · rfl
        · omega
    · rw [List.getElem?_append_right (by rw [List.length_map, List.length_range]; omega), List.length_map, List.length_range]
      by_cases h2 : u = n - 1
      · rw [h2, Nat.sub_self]
        constructor
        · intro e
          exact .inr ⟨by omega, (Option.some.inj e).symm⟩
        · rintro (⟨e, _⟩ | ⟨_, rfl⟩)
          · omega
          · rfl
      · rw [List.getElem?_eq_none (by rw [List.length_singleton]; omega)]
        constructor
        · intro e
          cases e
        · rintro (⟨e, _⟩ | ⟨e, _⟩) <;> omega
  constructor
  · rintro ⟨row, l, h1, h2, h3⟩
    have hl : l = 0 := by
      have := (List.getElem?_eq_some_iff.mp h3).1
      rw [List.length_singleton] at this
      omega
    subst hl
    refine ⟨(Option.some.inj h3).symm, ?_⟩
    rcases (get row).mp h1 with ⟨a, rfl⟩ | ⟨a, rfl⟩
    · exact .inl ⟨a, by simpa using h2.symm⟩
    · cases ring with
      | true => exact .inr ⟨a, rfl, by simpa using h2.symm⟩
      | false => simp at h2
  · rintro ⟨rfl, ⟨a, rfl⟩ | ⟨a, rfl, rfl⟩⟩
    · exact ⟨_, 0, (get _).mpr (.inl ⟨a, rfl⟩), rfl, rfl⟩
    · exact ⟨_, 0, (get _).mpr (.inr ⟨a, rfl⟩), rfl, rfl⟩
theorem long_len {n : Nat} {ring : Bool} (hn : 1 ≤ n) : (rsLong n ring).length = n := by
  unfold rsLong
  rw [List.length_append, List.length_map, List.length_range, List.length_singleton]
  omega
theorem long_end {n u : Nat} (hn : 1 ≤ n) : (esLong n)[u]? = some true ↔ u + 1 = n := by
  unfold esLong
  by_cases h : u < n - 1
  · rw [List.getElem?_append_left (by rw [List.length_replicate]; exact h), List.getElem?_replicate, if_pos h]
    constructor
    · intro e
      cases e
    · intro e
      omega
  · rw [List.getElem?_append_right (by rw [List.length_replicate]; omega), List.length_replicate]
    by_cases h2 : u = n - 1
    · rw [h2, Nat.sub_self]
      exact ⟨fun _ => by omega, fun _ => rfl⟩
    · rw [List.getElem?_eq_none (by rw [List.length_singleton]; omega)]
      constructor
      · intro e
        cases e
      · intro e
        omega
def dueLong (n : Nat) (ring : Bool) (own bd : Int) : Prop := (own < 1 ∨ ring = false) ∧ own * ((n : Int) - 1) ≤ bd
theorem hsLong_get {n : Nat} {own : Int} {u : Nat} {o : Option Int} : (hsLong n own)[u]? = some o ↔ u < n ∧ o = some (own * (u : Int)) := by
  unfold hsLong
  rw [List.getElem?_map]
  by_cases h : u < n
  · rw [List.getElem?_range h]
    exact ⟨fun e => ⟨h, (Option.some.inj e).symm⟩, fun ⟨_, e⟩ => by rw [e]; rfl⟩
  · rw [List.getElem?_eq_none (by rw [List.length_range]; omega)]
    constructor
    · intro e
      cases e
    · rintro ⟨a, _⟩
      exact absurd a h
theorem long_least {n : Nat} {ring : Bool} {own bd : Int} (hn : 2 ≤ n) : Valid (rsLong n ring) (esLong n) [own] bd (hsLong n own) ↔ dueLong n ring own bd := by
  have hc : ((n - 1 : Nat) : Int) = (n : Int) - 1 := by omega
  constructor
  · intro V
    have hl := (hsLong_get (n := n) (own := own) (u := n - 1) (o := some (own * ((n - 1 : Nat) : Int)))).mpr ⟨by omega, rfl⟩
    obtain ⟨h1, h2⟩ := V.2.2 _ _ hl
    refine ⟨?_, ?_⟩
    · cases ring with
      | false => exact .inr rfl
      | true =>
        left
        obtain ⟨b, hb, hab⟩ := h2 0 own ((long_edge (by omega)).mpr ⟨rfl, .inr ⟨by omega, rfl, rfl⟩⟩)
        have := (hsLong_get.mp hb).2
        cases this
        rw [hc] at hab
        have e : own * ((n : Int) - 1) + own = own * (n : Int) := by rw [Int.mul_sub]; omega
        rw [e] at hab
        refine Int.not_le.mp fun z => ?_
        have : (1 : Int) * (n : Int) ≤ own * (n : Int) := Int.mul_le_mul_of_nonneg_right z (by omega)
        have : own * ((0 : Nat) : Int) = 0 := Int.mul_zero own
        omega
    · have := h1 ((long_end (by omega)).mpr (by omega))
      rw [hc] at this
      exact this
  · rintro ⟨h1, h2⟩
    refine ⟨by rw [long_len (by omega)]; unfold hsLong; rw [List.length_map, List.length_range], ⟨own * ((0 : Nat) : Int), hsLong_get.mpr ⟨by omega, rfl⟩, by rw [show own * ((0 : Nat) : Int) = 0 from Int.mul_zero own]; exact Int.le_refl _⟩, fun u a hu => ?_⟩
    obtain ⟨ul, ua⟩ := hsLong_get.mp hu
    cases ua
    refine ⟨fun he => ?_, fun v g he => ?_⟩
    · have := (long_end (by omega)).mp he
      rw [show (u : Int) = (n : Int) - 1 by omega]
      exact h2
    · obtain ⟨rfl, ⟨a, rfl⟩ | ⟨a, hr, rfl⟩⟩ := (long_edge (by omega)).mp he
      · refine ⟨g * ((u + 1 : Nat) : Int), hsLong_get.mpr ⟨a, rfl⟩, ?_⟩
        rw [show ((u + 1 : Nat) : Int) = (u : Int) + 1 by omega, Int.mul_add, Int.mul_one]
        exact Int.le_refl _
      · refine ⟨g * ((0 : Nat) : Int), hsLong_get.mpr ⟨by omega, rfl⟩, ?_⟩
        rcases h1 with h1 | h1
        · have e : g * (u : Int) + g = g * (n : Int) := by
            rw [show (n : Int) = (u : Int) + 1 by omega, Int.mul_add, Int.mul_one]
          rw [e, show g * ((0 : Nat) : Int) = 0 from Int.mul_zero g]
          exact Int.mul_nonpos_of_nonpos_of_nonneg (by omega) (by omega)
        · rw [hr] at h1
          cases h1
theorem long_none {n : Nat} {ring : Bool} {own bd : Int} (hn : 2 ≤ n) (hd : ¬ dueLong n ring own bd) (hs : List (Option Int)) : ¬ Valid (rsLong n ring) (esLong n) [own] bd hs := by
  intro V
  obtain ⟨x, hx, hx0⟩ := V.2.1
  have up : ∀ u : Nat, u < n → ∃ a, hs[u]? = some (some a) ∧ x + own * (u : Int) ≤ a := by
    intro u
    induction u with
    | zero => intro _; exact ⟨x, hx, by rw [show own * ((0 : Nat) : Int) = 0 from Int.mul_zero own]; omega⟩
    | succ u ih =>
      intro hu
      obtain ⟨a, h1, h2⟩ := ih (by omega)
      obtain ⟨b, hb, hab⟩ := (V.2.2 u a h1).2 (u + 1) own ((long_edge (by omega)).mpr ⟨rfl, .inl ⟨hu, rfl⟩⟩)
      refine ⟨b, hb, ?_⟩
      rw [show ((u + 1 : Nat) : Int) = (u : Int) + 1 by omega, Int.mul_add, Int.mul_one]
      omega
  obtain ⟨a, h1, h2⟩ := up (n - 1) (by omega)
  rw [show ((n - 1 : Nat) : Int) = (n : Int) - 1 by omega] at h2
  obtain ⟨h3, h4⟩ := V.2.2 _ a h1
  have h5 := h3 ((long_end (by omega)).mpr (by omega))
  refine hd ⟨?_, by omega⟩
  cases ring with
  | false => exact .inr rfl
  | true =>
    left
    obtain ⟨b, hb, hab⟩ := h4 0 own ((long_edge (by omega)).mpr ⟨rfl, .inr ⟨by omega, rfl, rfl⟩⟩)
    rw [hx] at hb
    cases hb
    have e : own * ((n : Int) - 1) + own = own * (n : Int) := by rw [Int.mul_sub]; omega
    refine Int.not_le.mp fun z => ?_
    have : (1 : Int) * (n : Int) ≤ own * (n : Int) := Int.mul_le_mul_of_nonneg_right z (by omega)
    omega

/-! ### enumerate of a tuple -/
abbrev tupIt (l : Addr) : Obj := { cls := .type "tuple_iterator", data := .fields #[.ref l, .int 0 0] }
abbrev enumOb (i : Addr) : Obj := { cls := .type "enumerate", data := .fields #[.none, .bool false, .ref i, rawInt 0, .none, .none] }
theorem enum_tup_new (l : Addr) (xs : Array Value) (n : Nat) (y : Option Addr) (sl : Array (Option Value)) :
    Meets (Builtin.«enumerate.__new__» ⟨[.type "enumerate", .ref l], []⟩) (fun _ R s => s.heap.get? l = some { cls := .type "tuple", dict := y, data := .seq xs n, slots := sl } ∧
      R (.ok (.ret (.ref (s.heap.push (tupIt l)).objs.size))) { s with heap := (s.heap.push (tupIt l)).push (enumOb s.heap.objs.size) }) := by
  refine .of_wp fun prog w A R s h => ?_
  cases s
  have k1 := h.1
  have k2 := h.2
  have k3 := sub_enumerate
  have k4 : Heap.IsTuple _ l xs := ⟨_, k1, rfl, n, rfl⟩
  wp_walk using AutoSeq1.wpAny_loadPart' k1
  refine wpAny_stack_any fun st => wpAny_pure ?_
  split
  · rename_i c _ _ _ _ _
    cases (c == Value.type "enumerate") <;> (wp_walk using AutoSeq1.wpAny_loadPart' k1, wpAny_pyIter_tuple k4 <;> exact ⟨_, rfl, k2⟩)
  · wp_walk using AutoSeq1.wpAny_loadPart' k1, wpAny_pyIter_tuple k4
    exact ⟨_, rfl, k2⟩
section
variable {prog : Program} {w : World} {A : Around} {E : Value → Shared → Prop} {s : Shared}
theorem call_enum_tup {l : Addr} {xs : Array Value} {Q : Value → Shared → Prop} (hl : s.heap.IsTuple l xs)
    (fin : ∀ h2, IsEnum h2 (s.heap.objs.size + 1) s.heap.objs.size 0 .none → h2.IsTupleIter s.heap.objs.size l 0 → (∀ b o, s.heap.get? b = some o → h2.get? b = some o) → Q (.ref (s.heap.objs.size + 1)) { s with heap := h2 }) :
    wpAny (model prog w) A (call (.type "enumerate") [.ref l]) Q E s := by
  obtain ⟨⟨c, y, data, sl⟩, ho, hc, n, hd⟩ := hl
  simp only at hc hd
  cases hc
  cases hd
  have e1 : (s.heap.push (tupIt l)).objs.size = s.heap.objs.size + 1 := Heap.size_push ..
  have e2 : ((s.heap.push (tupIt l)).push (enumOb s.heap.objs.size)).get? (s.heap.objs.size + 1) = some (enumOb s.heap.objs.size) := by
    rw [← e1]
    exact Heap.get?_push_size _ rfl
  refine callType_new F.called_enumerate (by decide) (F.typeCall_enumerate_1 _) (F.newCall_enumerate_1 _) (fun obj => F.args_object_init_2 obj _) F.entry_enumerate_new (enum_tup_new l xs n y sl) ⟨ho, ?_⟩
  rw [e1]
  exact ⟨⟨_, e2, rfl⟩, fin _ e2 ⟨_, Heap.get?_push_of_some _ (Heap.get?_push_size _ rfl), rfl, rfl⟩ fun b o q => Heap.get?_push_of_some _ (Heap.get?_push_of_some _ q)⟩
end
/-- the tuple at a, each item in a new pair behind its number -/
def ItT (K : PySem.W.Frag) (a : Addr) : It :=
  ⟨fun i H => ∃ (xs : List V) (x : V), SqT K H a xs ∧ xs[i]? = some x,
    fun i H v H' => ∃ T x, v = .ref T ∧ H T = none ∧ H' = upd H T (.tup [.int (i : Nat), x]) ∧ ∀ xs, SqT K H a xs → xs[i]? = some x,
    fun i H => ∃ xs : List V, SqT K H a xs ∧ xs.length ≤ i⟩
theorem turn_enumT {P : Program} {w : World} {K : PySem.W.Frag} {elts : List Expr} {kk : Nat} {tpos : Pos} (a e it : Addr) :
    Turn P w K (.Tuple elts kk tpos) (ItT K a) [e, it] e (fun i h => (∃ old, IsEnum h e it ((i : Nat) : Int) old) ∧ h.IsTupleIter it a i ∧ e ≠ it) where
  mem := List.mem_cons_self
  obj := fun i h st b hb => by
    obtain ⟨⟨old, he⟩, ⟨o, ho, hc, hd⟩, _⟩ := st
    rcases List.mem_cons.mp hb with z | z
    · subst z
      exact ⟨_, he, fun v q => nomatch q⟩
    · rw [List.mem_singleton.mp z]
      refine ⟨o, ho, fun v q => ?_⟩
      rw [hd] at q
      cases q
  keep := fun i h h2 st k => ⟨st.1.imp fun old he => k e List.mem_cons_self _ he, st.2.1.at fun o q => k it (List.mem_cons_of_mem _ (List.mem_singleton.mpr rfl)) o q, st.2.2⟩
  item := by
    intro X hP hw hK hc i pins s σ H E I hf st hg
    cases hP
    cases hw
    cases hK
    obtain ⟨⟨old, he⟩, hit, hne⟩ := st
    obtain ⟨xs, x, hq, hx⟩ := hg
    obtain ⟨its, rv, p, hz⟩ := I.tuple hq
    obtain ⟨u, hu, ru⟩ := rv.get hx
    have lt1 : e < s.heap.objs.size := Heap.lt_size he
    have lt2 : it < s.heap.objs.size := by
      obtain ⟨_, q, _⟩ := id hit
      exact Heap.lt_size q
    have pT : s.heap.IsTuple a its.toArray := p
    have nea : e ≠ a := fun z => by
      obtain ⟨o, q1, q2, _⟩ := id pT
      rw [← z] at q1
      cases (he.symm.trans q1)
      exact absurd (Value.type.inj q2) (by decide)
    have nia : a ≠ it := fun z => by
      obtain ⟨o, q1, q2, _⟩ := id pT
      obtain ⟨o2, q3, q4, _⟩ := id hit
      rw [z] at q1
      cases (q1.symm.trans q3)
      rw [q2] at q4
      exact absurd (Value.type.inj q4) (by decide)
    have no : e ∉ [it, a] := fun z => by
      rcases List.mem_cons.mp z with z | z
      · exact hne z
      · exact nea (List.mem_singleton.mp z)
    have hlt : i < its.toArray.size := by
      rw [List.size_toArray, ← rv.length]
      exact (List.getElem?_eq_some_iff.mp hx).1
    refine wpAny_pyNext_enum_itemD (Draws.tuple (by rw [show X.A.in1.handled = X.A.handled from rfl]; exact I.ok.hd hc) it a nia its.toArray) he ⟨hit, pT⟩ hlt hne no fun v h2 tk hv ho st2 hT hsz hk => ?_
    have ev : v = u := by
      have q1 : its.toArray[i]? = some u := by simpa using hu
      rw [q1] at hv
      exact (Option.some.inj hv).symm
    cases ev
    refine ⟨_, rfl, wpAny_letOwnedTupleGo_enum (s := { s with heap := h2, toks := tk + 1 }) ho fun h3 he3 sb => ?_⟩
    have hT3 : h3.get? s.heap.objs.size = some { cls := .type "tuple", data := .seq #[.int i tk, u] } := (sb.2 _ (Nat.ne_of_gt lt1)).trans hT
    have new : ObjOk X.prog X.w (upd H s.heap.objs.size (.tup [.int (i : Nat), x])) h3 s.heap.objs.size (.tup [.int (i : Nat), x]) := ⟨by show 2 ≤ sizeLine; decide, [.int i tk, u], .cons ⟨_, rfl⟩ (.cons ru .nil), ⟨_, hT3, rfl, _, rfl⟩⟩
    have mem1 : ∀ {b : Addr}, b ∉ [e, it] → b ≠ e ∧ b ≠ it := fun h => ⟨fun z => h (z ▸ List.mem_cons_self), fun z => h (z ▸ List.mem_cons_of_mem _ (List.mem_singleton.mpr rfl))⟩
    have I1 : Inv X pins σ (upd H s.heap.objs.size (.tup [.int (i : Nat), x])) { s with heap := h3, toks := tk + 1 } :=
      I.turnedNew (ch := [e, it]) (fun b ob hb q => (sb.2 b (mem1 hb).1).trans (hk b ob (mem1 hb).1 (mem1 hb).2 q)) hf (Nat.le_refl _) new
    refine ⟨.ref s.heap.objs.size, _, I1, rfl, ⟨_, x, rfl, I.hok.fresh (Nat.le_refl _), rfl, fun ys hy => by rw [I.tuple_inj hy hq]; exact hx⟩, ⟨⟨u, ?_⟩, st2.1.at fun o q => (sb.2 it (Ne.symm hne)).trans q, hne⟩, fun b hb => ?_⟩
    · rw [show ((i + 1 : Nat) : Int) = (i : Int) + 1 from by omega]
      exact he3
    · rw [upd_ne]
      · exact (hf b hb).1
      · rcases List.mem_cons.mp hb with z | z
        · rw [z]
          exact Nat.ne_of_lt lt1
        · rw [List.mem_singleton.mp z]
          exact Nat.ne_of_lt lt2
  done := by
    intro X hP hw hK hc i pins s σ H E I hf st hg
    cases hP
    cases hw
    cases hK
    obtain ⟨⟨old, he⟩, hit, hne⟩ := st
    obtain ⟨xs, hq, hx⟩ := hg
    obtain ⟨its, rv, p, hz⟩ := I.tuple hq
    obtain ⟨f0, f1, f2, f3, f4, f5⟩ := hf it (List.mem_cons_of_mem _ (List.mem_singleton.mpr rfl))
    have pT : s.heap.IsTuple a its.toArray := p
    have hl := rv.length
    have D : Draws X.prog X.w X.A.in1 it [it, a] i (fun _ _ => False) (fun j h => j = i ∧ h.IsTupleIter it a i ∧ h.IsTuple a its.toArray) := {
      live := fun _ _ st => let ⟨o, ho, _⟩ := st.2.1; ⟨o, ho⟩
      frame := fun _ _ _ st hk => ⟨st.1, st.2.1.at fun o e => hk it List.mem_cons_self o e, st.2.2.at fun o e => hk a (List.mem_cons_of_mem _ (List.mem_singleton.mpr rfl)) o e⟩
      item := fun j s Q E hj st _ => absurd st.1 (Nat.ne_of_lt hj)
      done := fun s Q E st hE => wpAny_nextOf_tuple_end (I.ok.hd hc) st.2.1 st.2.2 (by rw [List.getElem?_toArray]; exact List.getElem?_eq_none (by omega)) hE }
    exact wpAny_pyNext_enum_endD D he ⟨rfl, hit, pT⟩ fun h2 eb => ⟨rfl, I.turned (t' := s.toks) (fun b o hb q => eb b o hb q) f0 f1 f3 f4 f5⟩
  self := fun A i s Q E st h => wpAny_pyIter_enum st.1.choose_spec h
def iEnumT (K : PySem.W.Frag) (ta : TA) : TI := fun σ H R => ta σ H fun vs H1 => ∃ a xs, vs = [.ref a] ∧ SqT K H1 a xs ∧ R (ItT K a) H1
theorem pi_enumT {X : Cx} {e : Expr} {ta : TA} {p pos tpos : Pos} {elts : List Expr} {kk : Nat} (g : Gl X "enumerate") (m : X.mg "enumerate" = none) (ha : PA X [e] ta) (hs : starEach [e] X.env = [(false, eval e X.env)] := by rfl) :
    PI X (.Tuple elts kk tpos) (.Call (.Name "enumerate" p) [e] [] pos) (iEnumT X.K ta) := by
  refine ⟨fun pins s σ H R I h => Call_ (ld_blt I g m boot_enumerate (PyProof.Rows.callWith_type1 (thn (ha.run pos pins s σ H _ I h) fun us s1 w => ?_) hs rfl))⟩
  obtain ⟨vs, H1, I1, r1, a, xs, rfl, hq, k⟩ := w
  cases r1 with
  | cons r rr =>
    cases rr
    cases r
    obtain ⟨its, rv, pl, _⟩ := I1.tuple hq
    refine call_enum_tup (show s1.heap.IsTuple a its.toArray from pl) fun h2 he hit hk => wpAny_pyIter_enum he ?_
    have I2 : Inv X pins σ H1 { s1 with heap := h2 } := I1.kept (t' := s1.toks) hk
    refine ⟨s1.heap.objs.size + 1, [s1.heap.objs.size + 1, s1.heap.objs.size], _, _, H1, rfl, I2, turn_enumT a _ s1.heap.objs.size, ⟨⟨.none, he⟩, hit, Nat.succ_ne_self _⟩, fun b hb => ?_, k⟩
    have le : s1.heap.objs.size ≤ b := by
      rcases List.mem_cons.mp hb with z | z
      · rw [z]
        exact Nat.le_add_right _ _
      · exact Nat.le_of_eq (List.mem_singleton.mp z).symm
    exact I1.fpOk le (I1.hok.fresh le)
theorem walk_enumT {K : PySem.W.Frag} {a : Addr} {xs : List V} : Walk (ItT K a) xs.length (fun H => SqT K H a xs) (YPair (fun i => some (.int (i : Nat))) (fun i => xs[i]?)) := by
  refine ⟨fun i _ hi q => ⟨xs, xs[i], q, List.getElem?_eq_getElem hi⟩, fun _ q => ⟨xs, q, Nat.le_refl _⟩, fun i H v H' _ q y => ?_⟩
  obtain ⟨T, x, h1, h2, h3, h4⟩ := y
  exact ⟨T, .int (i : Nat), x, h1, h2, h3, rfl, h4 xs q⟩
theorem all_take' {α : Type} {f : α → Bool} {ds : List α} : ((ds.map f).all id) = ds.all f := by
  rw [List.all_map]
  rfl
/-! ### machines, forms, heights as data -/
def natV (n : Nat) : V := .int (n : Int)
def oV : Option Nat → V
  | none => .non
  | some k => .int (k : Int)
def oD : Option Nat → PyData
  | none => .none
  | some k => .int (k : Int)
def hV : Option Int → V
  | none => .non
  | some k => .int k
def hD : Option Int → PyData
  | none => .none
  | some k => .int k
def rowDt (row : List (Option Nat)) : PyData := .tuple (row.map oD)
def machDt (L : Nat) (rs : Rows) (es : List Bool) : PyData := .tuple [.int (L : Int), .tuple (rs.map rowDt), .tuple (es.map .bool)]
def formDt (f : List Int) : PyData := .tuple (f.map .int)
def hsDt (hs : List (Option Int)) : PyData := .tuple (hs.map hD)
structure MOk (L : Nat) (rs : Rows) (es : List Bool) : Prop where
  l1 : 1 ≤ rs.length
  l400 : rs.length ≤ 400
  row : ∀ row ∈ rs, row.length = L
  tgt : ∀ row ∈ rs, ∀ v, some v ∈ row → v < rs.length
  es : es.length = rs.length
  L1 : 1 ≤ L
  L3 : L ≤ 3
theorem MOk.reach_lt {L : Nat} {rs : Rows} {es : List Bool} (M : MOk L rs es) : ∀ u, Reach rs u → u < rs.length := by
  intro u r
  cases r with
  | z => exact M.l1
  | s r h1 h2 => exact M.tgt _ (List.mem_of_getElem? h1) _ (List.mem_of_getElem? h2)
section
variable {B : Addr → Prop} {K : PySem.W.Frag} {H H' : Hp}
theorem dt_sc {α : Type} {fD : α → PyData} {fV : α → V} (h1 : ∀ x v, Dt B K H v (fD x) → v = fV x) : ∀ {xs : List α} {vs : List V}, DtAll B K H vs (xs.map fD) → vs = xs.map fV
  | [], _, h => by cases h; rfl
  | x :: xs, _, h => by
    cases h with
    | cons a b => rw [h1 _ _ a, dt_sc h1 b]; rfl
theorem dt_cs {α : Type} {fD : α → PyData} {fV : α → V} (h1 : ∀ x, Dt B K H (fV x) (fD x)) : ∀ xs : List α, DtAll B K H (xs.map fV) (xs.map fD)
  | [] => .nil
  | x :: xs => .cons (h1 x) (dt_cs h1 xs)
theorem o_sc (x : Option Nat) (v : V) (h : Dt B K H v (oD x)) : v = oV x := by
  cases x with
  | none => cases h; rfl
  | some k => cases h; rfl
theorem o_cs (x : Option Nat) : Dt B K H (oV x) (oD x) := by
  cases x with
  | none => exact .non
  | some k => exact .int _
theorem h_sc (x : Option Int) (v : V) (h : Dt B K H v (hD x)) : v = hV x := by
  cases x with
  | none => cases h; rfl
  | some k => cases h; rfl
theorem h_cs (x : Option Int) : Dt B K H (hV x) (hD x) := by
  cases x with
  | none => exact .non
  | some k => exact .int _
theorem i_sc (x : Int) (v : V) (h : Dt B K H v (.int x)) : v = .int x := by cases h; rfl
theorem b_sc (x : Bool) (v : V) (h : Dt B K H v (.bool x)) : v = .bl x := by cases h; rfl
/-- a machine as it lies -/
structure MA (H : Hp) (L : Nat) (rs : Rows) (es : List Bool) (m pr pe : Addr) (rvs : List V) : Prop where
  hm : Rd H m (.tup [.int (L : Int), .ref pr, .ref pe])
  hr : Rd H pr (.tup rvs)
  hl : rvs.length = rs.length
  row : ∀ (u : Nat) (row : List (Option Nat)), rs[u]? = some row → ∃ q, rvs[u]? = some (.ref q) ∧ Rd H q (.tup (row.map oV))
  he : Rd H pe (.tup (es.map V.bl))
theorem MA.same {L : Nat} {rs : Rows} {es : List Bool} {m pr pe : Addr} {rvs : List V} (s : Same H H') (M : MA H L rs es m pr pe rvs) : MA H' L rs es m pr pe rvs :=
  ⟨same_rd s M.hm, same_rd s M.hr, M.hl, fun u row h => let ⟨q, h1, h2⟩ := M.row u row h; ⟨q, h1, same_rd s h2⟩, same_rd s M.he⟩
theorem dt_mach {L : Nat} {rs : Rows} {es : List Bool} {v : V} (h : Dt B K H v (machDt L rs es)) : ∃ m pr pe rvs, v = .ref m ∧ ¬ B m ∧ MA H L rs es m pr pe rvs := by
  obtain ⟨m, xs, rfl, nm, hm, ha, _⟩ := h.tup_rd
  cases ha with
  | cons h1 ha =>
    cases ha with
    | cons h2 ha =>
      cases ha with
      | cons h3 ha =>
        cases ha
        cases h1
        obtain ⟨pr, rvs, rfl, _, hr, har, hl⟩ := h2.tup_rd
        obtain ⟨pe, evs, rfl, _, he, hae, _⟩ := h3.tup_rd
        rw [dt_sc b_sc hae] at he
        refine ⟨m, pr, pe, rvs, rfl, nm, hm, hr, by rw [hl, List.length_map], fun u row hu => ?_, he⟩
        obtain ⟨v, hv, hd⟩ := har.get (i := u) (d := rowDt row) (by rw [List.getElem?_map, hu]; rfl)
        obtain ⟨q, ys, rfl, _, hq, hay, _⟩ := hd.tup_rd
        rw [dt_sc o_sc hay] at hq
        exact ⟨q, hv, hq⟩
theorem dt_form {f : List Int} {v : V} (h : Dt B K H v (formDt f)) : ∃ p, v = .ref p ∧ ¬ B p ∧ Rd H p (.tup (f.map V.int)) := by
  obtain ⟨p, xs, rfl, np, hp, ha, _⟩ := h.tup_rd
  rw [dt_sc i_sc ha] at hp
  exact ⟨p, rfl, np, hp⟩
end
/-- what lies elsewhere stays where a dict alone is written -/
theorem rd_dict {H H' : Hp} {d a : Addr} {xs : List V} {kvs : List (Key × V)} (k : Keep (fun b => b = d) H H') (hd : H d = some (.dK kvs)) (h : Rd H a (.tup xs)) : Rd H' a (.tup xs) := by
  refine k.rd (fun z => ?_) h
  rw [z] at h
  rcases h with h | ⟨o, h⟩
  · rw [hd] at h
    cases h
  · rw [hd] at h
    cases h
theorem nodup_len {n : Nat} {xs : List Nat} (hn : xs.Nodup) (hlt : ∀ x ∈ xs, x < n) : xs.length ≤ n := by
  refine Nat.le_of_not_lt fun hl => ?_
  obtain ⟨a, b, h1, h2, h3⟩ := pigeon (List.range n) (fun k => xs.getD k 0) (fun k hk => by
    rw [List.length_range] at hk
    have hk2 : k < xs.length := by omega
    have e : xs.getD k 0 = xs[k] := by rw [List.getD_eq_getElem?_getD, List.getElem?_eq_getElem hk2]; rfl
    rw [e]
    exact List.mem_range.mpr (hlt _ (List.getElem_mem hk2)))
  rw [List.length_range] at h2
  have ha : a < xs.length := by omega
  have hb : b < xs.length := by omega
  have ea : xs.getD a 0 = xs[a] := by rw [List.getD_eq_getElem?_getD, List.getElem?_eq_getElem ha]; rfl
  have eb : xs.getD b 0 = xs[b] := by rw [List.getD_eq_getElem?_getD, List.getElem?_eq_getElem hb]; rfl
  rw [ea, eb] at h3
  exact absurd h3 (List.pairwise_iff_getElem.mp hn a b ha hb h1)
/-! ### reached -/
def knB (n : Nat) (ord : List Nat) : List V := (List.range n).map fun u => V.bl (decide (u ∈ ord))
theorem knB_get {n : Nat} {ord : List Nat} {u : Nat} (h : u < n) : (knB n ord)[u]? = some (.bl (decide (u ∈ ord))) := by
  unfold knB
  rw [List.getElem?_map, List.getElem?_range h]
  rfl
theorem knB_len {n : Nat} {ord : List Nat} : (knB n ord).length = n := by
  unfold knB
  rw [List.length_map, List.length_range]
theorem knB_set {n : Nat} {ord : List Nat} {v : Nat} : (knB n ord).set v (.bl true) = knB n (ord ++ [v]) := by
  refine List.ext_getElem? fun u => ?_
  rw [List.getElem?_set, knB_len]
  by_cases hu : u < n
  · rw [knB_get hu, knB_get hu]
    by_cases e : v = u
    · subst e
      rw [if_pos rfl, if_pos hu, decide_eq_true (by simp)]
    · rw [if_neg e]
      congr 2
      have : (u ∈ ord ++ [v]) ↔ u ∈ ord := by
        rw [List.mem_append, List.mem_singleton]
        exact ⟨fun h => h.elim id fun z => absurd z.symm e, .inl⟩
      rw [Bool.eq_iff_iff, decide_eq_true_iff, decide_eq_true_iff, this]
  · have h1 : (knB n ord)[u]? = none := List.getElem?_eq_none (by rw [knB_len]; omega)
    have h2 : (knB n (ord ++ [v]))[u]? = none := List.getElem?_eq_none (by rw [knB_len]; omega)
    rw [h1, h2]
    by_cases e : v = u
    · rw [if_pos e]
      rw [if_neg (by omega)]
    · rw [if_neg e]
theorem natV_get {ord : List Nat} {i u : Nat} (h : ord[i]? = some u) : (ord.map natV)[i]? = some (.int (u : Int)) := by
  rw [List.getElem?_map, h]
  rfl
theorem natV_of {ord : List Nat} {i : Nat} {v : V} (h : (ord.map natV)[i]? = some v) : ∃ u : Nat, ord[i]? = some u ∧ v = .int (u : Int) := by
  rw [List.getElem?_map] at h
  obtain ⟨u, h1, h2⟩ := Option.map_eq_some_iff.mp h
  exact ⟨u, h1, h2.symm⟩
/-- what is known of the states that were come to -/
structure ROrd (rs : Rows) (i : Nat) (ord : List Nat) : Prop where
  nd : ord.Nodup
  zero : 0 ∈ ord
  rch : ∀ u ∈ ord, Reach rs u
  cl : ∀ k, k < i → ∀ u, ord[k]? = some u → ∀ (row : List (Option Nat)) v, rs[u]? = some row → some v ∈ row → v ∈ ord
  le : i ≤ ord.length
theorem ROrd.push {rs : Rows} {i : Nat} {ord : List Nat} {v : Nat} (R : ROrd rs i ord) (hn : v ∉ ord) (hv : Reach rs v) : ROrd rs i (ord ++ [v]) where
  nd := List.nodup_append.mpr ⟨R.nd, by simp, fun a ha b hb e => hn (by rw [List.mem_singleton.mp hb] at e; exact e ▸ ha)⟩
  zero := List.mem_append_left _ R.zero
  rch := fun u hu => (List.mem_append.mp hu).elim (R.rch u) fun z => by rw [List.mem_singleton.mp z]; exact hv
  cl := fun k hk u hu row w hr hw => List.mem_append_left _ (R.cl k hk u (by rw [List.getElem?_append_left (by have := R.le; omega)] at hu; exact hu) row w hr hw)
  le := by
    rw [List.length_append]
    have := R.le
    omega
theorem ROrd.next {rs : Rows} {i u : Nat} {ord : List Nat} {row : List (Option Nat)} (R : ROrd rs i ord) (hu : ord[i]? = some u) (hr : rs[u]? = some row) (h : ∀ v, some v ∈ row → v ∈ ord) : ROrd rs (i + 1) ord where
  nd := R.nd
  zero := R.zero
  rch := R.rch
  cl := fun k hk w hw row' v hr' hv => by
    by_cases e : k = i
    · subst e
      rw [hu] at hw
      cases hw
      rw [hr] at hr'
      cases hr'
      exact h v hv
    · exact R.cl k (by omega) w hw row' v hr' hv
  le := by
    have := (List.getElem?_eq_some_iff.mp hu).1
    omega
theorem ROrd.isOrd {L : Nat} {rs : Rows} {es : List Bool} {i : Nat} {ord : List Nat} (M : MOk L rs es) (R : ROrd rs i ord) (hi : ord.length ≤ i) : IsOrd rs ord where
  mem := fun u => ⟨R.rch u, fun r => by
    induction r with
    | z => exact R.zero
    | s r h1 h2 ih =>
      obtain ⟨k, hk⟩ := List.getElem?_of_mem ih
      have hl := (List.getElem?_eq_some_iff.mp hk).1
      exact R.cl k (by omega) _ hk _ _ h1 (List.mem_of_getElem? h2)⟩
  lt := fun u hu => M.reach_lt u (R.rch u hu)
  len := nodup_len R.nd fun u hu => M.reach_lt u (R.rch u hu)
  nd := R.nd
theorem ROrd.len {L : Nat} {rs : Rows} {es : List Bool} {i : Nat} {ord : List Nat} (M : MOk L rs es) (R : ROrd rs i ord) : ord.length ≤ rs.length := nodup_len R.nd fun u hu => M.reach_lt u (R.rch u hu)
theorem rord0 {rs : Rows} : ROrd rs 0 [0] where
  nd := by simp
  zero := by simp
  rch := fun u hu => by rw [List.mem_singleton.mp hu]; exact .z
  cl := fun k hk => absurd hk (Nat.not_lt_zero _)
  le := Nat.zero_le _
section
variable {P : Program} {w : World} {K : PySem.W.Frag} {mg : Str → Option Value} {base : Heap}
theorem scReached : FnScope ["rows", "order", "known", "at", "state", "target"] ["rows"] (defScope sReached) := ⟨rfl, rfl, rfl, by decide +kernel, rfl, by decide +kernel, by decide +kernel⟩
def spReached : Sp := fun vs H Q _ => ∃ (L : Nat) (rs : Rows) (es : List Bool) (m pr pe : Addr) (rvs : List V), vs = [.ref pr] ∧ MOk L rs es ∧ MA H L rs es m pr pe rvs ∧
  ∀ (H' : Hp) (p : Addr) (ord : List Nat), Same H H' → H p = none → H' p = some (.lst (ord.map natV)) → IsOrd rs ord → Q (.ref p) H'
theorem ok_reached {f : Addr} {fd : FuncData} (F : Fun K "reached" "reached" sReached f fd) (T : Mg mg) : FnOk P w K mg base CX0 1 f fd ["rows"] spReached := by
  refine F.ok scReached (fun vs H Q E h => ?_) (fun cdv A outer s H vs Q E hr h => ?_)
  · obtain ⟨L, rs, es, m, pr, pe, rvs, rfl, _⟩ := h
    rfl
  · obtain ⟨L, rs, es, m, pr, pe, rvs, rfl, M, MM, k⟩ := h
    refine ⟨_, pss_cons (ps_set (i := 1) scReached.nd rfl (.inl rfl) (pe_lst (pa_cons pe_int pa_nil)))
      (pss_cons (ps_set (i := 2) scReached.nd rfl (.inl rfl) (pe_op op_rep (pe_lst (pa_cons pe_bl pa_nil)) (pe_callB (r := rLen K) call_len_seq (by rfl) T.len PySem.boot_len (pa_cons (pv 0) pa_nil))))
      (pss_cons (ps_asg pe_bl (pg_sub (pv 2) pe_int set_list))
      (pss_cons (ps_set (i := 3) scReached.nd rfl (.inl rfl) pe_int)
      (pss_cons (ps_while PassesOwn.never (pt_cmpR op_lt (pv 3) (pe_callB (r := rLen K) call_len_seq (by rfl) T.len PySem.boot_len (pa_cons (pv 1) pa_nil)) (nomark _))
        (pss_cons (ps_set (i := 4) scReached.nd rfl (.inl rfl) (pe_ix ix_list (pv 1) (pv 3) (fun _ _ => rfl)))
        (pss_cons (ps_for PassesOwn.never rfl (pi_tup (pe_ix (r := rIxT K) ix_tup (pv 0) (pv 4) (fun _ _ => rfl))) (pg_name (i := 5) scReached.nd rfl (.inl rfl))
          (pss_one (ps_if (PW.pt (pw_and (pt_cmp (pc_notN (pv 5))) (pw_and1 (pt_not (pt_val (pe_ix ix_list (pv 2) (pv 5) (fun _ _ => rfl)))))))
            (pss_cons (ps_asg pe_bl (pg_sub (pv 2) (pv 5) set_list)) (pss_one (ps_expr (pe_bm PySem.F.plainAttrs_list PySem.F.slot_list_append PySem.F.type_list_append mt_append (pv 1) (pa_cons (pv 5) pa_nil)))))
            pss_nil)))
        (pss_one (ps_aug (i := 3) scReached.nd rfl (.inl rfl) pe_int ip_add)))))
      (pss_one (ps_ret (pv 1))))))), ?_⟩
    refine ⟨by show 1 ≤ sizeLine; decide, fun o ho => ?_⟩
    refine ⟨by show 1 ≤ sizeLine; decide, fun t ht => ?_⟩
    have s1 := same_new (o := .lst [.int 0]) ho
    have s2 := same_new (o := .lst [.bl false]) ht
    have M1 := MM.same (s1.trans s2)
    refine ⟨_, rfl, pr, rvs, rfl, .inr (.inl M1.hr), ?_⟩
    have hlen := MM.hl
    have l1 := M.l1
    have l4 := M.l400
    refine ⟨t, (rvs.length : Int), [V.bl false], rfl, rfl, upd_same, by omega, by omega, sz_of (by rw [List.length_singleton]; omega), fun kn hk => ?_⟩
    refine ⟨.ref kn, rfl, kn, _, 0, 0, rfl, rfl, upd_same, ?_, ?_⟩
    · unfold ixN
      rw [if_pos (by omega), if_pos]
      · rfl
      · simp
        omega
    have ek : ((List.replicate (rvs.length : Int).toNat [V.bl false]).flatten).set 0 (.bl true) = knB rs.length [0] := by
      have e0 : (List.replicate (rvs.length : Int).toNat [V.bl false]).flatten = knB rs.length [] := by
        refine List.ext_getElem? fun u => ?_
        rw [show (List.replicate (rvs.length : Int).toNat [V.bl false]).flatten = List.replicate rs.length (V.bl false) by rw [hlen]; simp]
        by_cases hu : u < rs.length
        · rw [knB_get hu, List.getElem?_replicate, if_pos hu]
          rfl
        · rw [List.getElem?_eq_none (by rw [List.length_replicate]; omega), List.getElem?_eq_none (by rw [knB_len]; omega)]
      rw [e0]
      exact knB_set
    rw [ek]
    have s3 := same_new (o := .lst (List.replicate (rvs.length : Int).toNat [V.bl false]).flatten) hk
    have nko : kn ≠ o := fun z => by
      rw [z, s2 _ _ upd_same] at hk
      cases hk
    have hG : ∃ G, G = upd (upd (upd (upd H o (.lst [.int 0])) t (.lst [.bl false])) kn (.lst (List.replicate (rvs.length : Int).toNat [V.bl false]).flatten)) kn (.lst (knB rs.length [0])) := ⟨_, rfl⟩
    obtain ⟨G, hG⟩ := hG
    rw [← hG]
    have sG : Same H G := fun b u e => by
      have e3 := s3 _ _ (s2 _ _ (s1 _ _ e))
      rw [hG]
      have : b ≠ kn := fun z => by
        rw [z] at e
        have := s2 _ _ (s1 _ _ e)
        rw [hk] at this
        cases this
      rw [upd_ne this]
      exact e3
    have gO : G o = some (.lst ([0].map natV)) := by
      rw [hG, upd_ne nko.symm]
      exact s3 _ _ (s2 _ _ upd_same)
    have gK : G kn = some (.lst (knB rs.length [0])) := by rw [hG, upd_same]
    have kn0 : H kn = none := by
      cases z : H kn with
      | none => rfl
      | some u =>
        have := s2 _ _ (s1 _ _ z)
        rw [hk] at this
        cases this
    clear hG ek
    have pushH : ∀ {H1 : Hp} {ord : List Nat} {v : Nat}, Same H H1 → H1 o = some (.lst (ord.map natV)) → H1 kn = some (.lst (knB rs.length ord)) →
        Same H (upd (upd H1 kn (.lst (knB rs.length (ord ++ [v])))) o (.lst (ord.map natV ++ [V.int (v : Int)]))) ∧ (upd (upd H1 kn (.lst (knB rs.length (ord ++ [v])))) o (.lst (ord.map natV ++ [V.int (v : Int)]))) o = some (.lst ((ord ++ [v]).map natV)) ∧
        (upd (upd H1 kn (.lst (knB rs.length (ord ++ [v])))) o (.lst (ord.map natV ++ [V.int (v : Int)]))) kn = some (.lst (knB rs.length (ord ++ [v]))) := by
      intro H1 ord v sm h1 h2
      refine ⟨fun b u e => ?_, by rw [upd_same, List.map_append]; rfl, by rw [upd_ne nko, upd_same]⟩
      rw [upd_ne (ne_of_none e ho), upd_ne (ne_of_none e kn0)]
      exact sm b u e
    refine while_by (fun σ H' => ∃ (i : Nat) (ord : List Nat) (y4 y5 : Option V), σ = [some (.ref pr), some (.ref o), some (.ref kn), some (.int (i : Int)), y4, y5] ∧ Same H H' ∧ H' o = some (.lst (ord.map natV)) ∧ H' kn = some (.lst (knB rs.length ord)) ∧ ROrd rs i ord)
      (fun (σ : List (Option V)) (_ : Hp) => match σ[3]? with
        | some (some (V.int i)) => 401 - i.toNat
        | _ => 0) ⟨0, [0], none, none, rfl, sG, gO, gK, rord0⟩ ?_ ?_
    · rintro σ H1 ⟨i, ord, y4, y5, rfl, sm, h1, h2, R⟩
      have hol := R.len M
      refine ⟨_, rfl, _, rfl, o, _, rfl, .inl (SqL.of h1), _, _, rfl, rfl, _, rfl, ite2 (fun hlt => ?_) fun hlt => ?_⟩
      · have hlt := of_decide_eq_true hlt
        rw [List.length_map] at hlt
        have hi : i < ord.length := by omega
        have hu : ord[i]? = some ord[i] := List.getElem?_eq_getElem hi
        have hmu := List.getElem_mem hi
        generalize ord[i] = u at *
        have hun := M.reach_lt u (R.rch u hmu)
        have hrow : rs[u]? = some rs[u] := List.getElem?_eq_getElem hun
        have hmr := List.getElem_mem hun
        generalize rs[u] = row at *
        have MM1 := MM.same sm
        obtain ⟨q, hq1, hq2⟩ := MM1.row u row hrow
        refine ⟨_, rfl, _, rfl, o, _, (i : Int), _, rfl, rfl, SqL.of h1, atI_nat (natV_get hu), ?_⟩
        refine ⟨_, rfl, _, rfl, pr, rvs, (u : Int), _, rfl, rfl, .inl MM1.hr, atI_nat hq1, q, rfl, ⟨_, .inl hq2⟩, ?_⟩
        refine for_tup (K := K) (a := q) (xs := row.map oV) (fun j σ H' => (∃ y5, σ = [some (.ref pr), some (.ref o), some (.ref kn), some (.int (i : Int)), some (.int (u : Int)), y5]) ∧ Same H H' ∧ (∀ {a : Addr} {xs : List V}, Rd H1 a (.tup xs) → Rd H' a (.tup xs)) ∧ ∃ ord', H' o = some (.lst (ord'.map natV)) ∧ H' kn = some (.lst (knB rs.length ord')) ∧ ROrd rs i ord' ∧ ord'[i]? = some u ∧ ∀ k, k < j → ∀ v, row[k]? = some (some v) → v ∈ ord')
          ⟨⟨_, rfl⟩, sm, fun h => h, ord, h1, h2, R, hu, fun k hk => absurd hk (Nat.not_lt_zero _)⟩ (fun j σ H' _ p => .inl (p.2.2.1 hq2)) ?_ ?_
        · rintro j x σ H2 hx ⟨⟨y5, rfl⟩, sm2, rdk, ord', g1, g2, R', hu', hall⟩
          rw [List.getElem?_map] at hx
          obtain ⟨tg, hj, rfl⟩ := Option.map_eq_some_iff.mp hx
          refine ⟨_, rfl, _, rfl, ?_⟩
          cases tg with
          | none =>
            refine ⟨⟨_, rfl⟩, sm2, rdk, ord', g1, g2, R', hu', fun k hk v hv => ?_⟩
            by_cases e : k = j
            · rw [e, hj] at hv
              cases hv
            · exact hall k (by omega) v hv
          | some v =>
            have hvn := M.tgt row hmr v (List.mem_of_getElem? hj)
            have hrv : Reach rs v := .s (R'.rch u (List.mem_of_getElem? hu')) hrow hj
            refine ⟨_, rfl, _, rfl, kn, _, (v : Int), _, rfl, rfl, SqL.of g2, atI_nat (knB_get hvn), _, rfl, ?_⟩
            by_cases hin : v ∈ ord'
            · rw [decide_eq_true hin]
              refine ⟨⟨_, rfl⟩, sm2, rdk, ord', g1, g2, R', hu', fun k hk w hw => ?_⟩
              by_cases e : k = j
              · rw [e, hj] at hw
                cases hw
                exact hin
              · exact hall k (by omega) w hw
            · rw [decide_eq_false hin]
              refine ⟨_, rfl, _, rfl, kn, _, (v : Int), v, rfl, rfl, g2, Evl.ixN_nat (by rw [knB_len]; exact hvn), ?_⟩
              rw [knB_set]
              have g1' : (upd H2 kn (.lst (knB rs.length (ord' ++ [v])))) o = some (.lst (ord'.map natV)) := by
                rw [upd_ne nko.symm]
                exact g1
              have hol2 := (R'.push hin hrv).len M
              rw [List.length_append, List.length_singleton] at hol2
              refine ⟨_, rfl, .inl ⟨rfl, _, SqL.of g1'⟩, _, rfl, o, _, _, rfl, rfl, g1', small1000 (by rw [List.length_map]; omega), ?_⟩
              obtain ⟨q1, q2, q3⟩ := pushH (v := v) sm2 g1 g2
              refine ⟨⟨_, rfl⟩, q1, fun {a} {xs} h => ?_, ord' ++ [v], q2, q3, R'.push hin hrv, ?_, fun k hk w hw => ?_⟩
              · have h' := rdk h
                have na : a ≠ o := fun z => by
                  rw [z] at h'
                  rcases h' with h' | ⟨_, h'⟩ <;> (rw [g1] at h'; cases h')
                have nb : a ≠ kn := fun z => by
                  rw [z] at h'
                  rcases h' with h' | ⟨_, h'⟩ <;> (rw [g2] at h'; cases h')
                rcases h' with h' | ⟨ob, h'⟩
                · exact .inl (by rw [upd_ne na, upd_ne nb]; exact h')
                · exact .inr ⟨ob, by rw [upd_ne na, upd_ne nb]; exact h'⟩
              · rw [List.getElem?_append_left (List.getElem?_eq_some_iff.mp hu').1]
                exact hu'
              · by_cases e : k = j
                · rw [e, hj] at hw
                  cases hw
                  exact List.mem_append_right _ (List.mem_singleton.mpr rfl)
                · exact List.mem_append_left _ (hall k (by omega) w hw)
        · rintro σ H2 ⟨⟨y5, rfl⟩, sm2, rdk, ord', g1, g2, R', hu', hall⟩
          have R'' := R'.next hu' hrow (fun v hv => by
            obtain ⟨k, hk⟩ := List.getElem?_of_mem hv
            exact hall k (by rw [List.length_map]; exact (List.getElem?_eq_some_iff.mp hk).1) v hk)
          have hl2 := R''.len M
          have hle := R''.le
          refine ⟨_, rfl, _, _, rfl, rfl, ⟨i + 1, ord', _, _, rfl, sm2, g1, g2, R''⟩, ?_⟩
          show 401 - ((i : Int) + 1).toNat < 401 - (i : Int).toNat
          omega
      · refine ⟨_, rfl, k H1 o ord sm ho h1 (R.isOrd M ?_)⟩
        have h9 : ¬ ((i : Int) < ((ord.map natV).length : Int)) := fun z => hlt (decide_eq_true z)
        rw [List.length_map] at h9
        omega
    · rintro σ H1 Q1 Q2 hQ ⟨x, e1, y, e2, p, ys, e3, e4, i, j, e5, e6, b, e7, q⟩
      exact ⟨x, e1, y, e2, p, ys, e3, e4, i, j, e5, e6, b, e7, hQ _ _ q⟩
end
/-! ### the law's own states that are come to -/
theorem notIn_nat {ord : List Nat} {v : Nat} : inV (.int (v : Int)) (ord.map natV) = decide (v ∈ ord) := by
  unfold inV
  rw [Bool.eq_iff_iff, List.any_eq_true, decide_eq_true_iff]
  constructor
  · rintro ⟨y, hy, e⟩
    obtain ⟨u, hu, rfl⟩ := List.mem_map.mp hy
    have e : ((u : Int) == (v : Int)) = true := e
    have := eq_of_beq e
    rw [show v = u by omega]
    exact hu
  · intro h
    exact ⟨natV v, List.mem_map_of_mem h, by show ((v : Int) == (v : Int)) = true; exact beq_self_eq_true _⟩
theorem flat_nat {ord : List Nat} : (ord.map natV).all flatV = true := by
  rw [List.all_map, List.all_eq_true]
  exact fun _ _ => rfl
section
variable {P : Program} {w : World} {K : PySem.W.Frag} {mg : Str → Option Value} {base : Heap}
theorem scMet : FnScope ["_law_rows", "_law_found", "_law_at", "_law_item"] ["_law_rows"] (defScope sMet) := ⟨rfl, rfl, rfl, by decide +kernel, rfl, by decide +kernel, by decide +kernel⟩
theorem ok_met {f : Addr} {fd : FuncData} (F : Fun K "_law_met" "_law_met" sMet f fd) (T : Mg mg) : FnOk P w K mg base CX0 1 f fd ["_law_rows"] spReached := by
  refine F.ok scMet (fun vs H Q E h => ?_) (fun cdv A outer s H vs Q E hr h => ?_)
  · obtain ⟨L, rs, es, m, pr, pe, rvs, rfl, _⟩ := h
    rfl
  · obtain ⟨L, rs, es, m, pr, pe, rvs, rfl, M, MM, k⟩ := h
    refine ⟨_, pss_cons (ps_par (i := 1) (j := 2) rfl scMet.nd rfl rfl (by decide) rfl rfl (pa_cons (pe_lst (pa_cons pe_int pa_nil)) (pa_cons pe_int pa_nil)) (by rfl))
      (pss_cons (ps_while PassesOwn.never (pt_cmpR op_lt (pv 2) (pe_callB (r := rLen K) call_len_seq (by rfl) T.len PySem.boot_len (pa_cons (pv 1) pa_nil)) (nomark _))
        (pss_cons (ps_for PassesOwn.never rfl (pi_tup (pe_ix (r := rIxT K) ix_tup (pv 0) (pe_ix ix_list (pv 1) (pv 2) (fun _ _ => rfl)) (fun _ _ => rfl))) (pg_name (i := 3) scMet.nd rfl (.inl rfl))
          (pss_one (ps_if (PW.pt (pw_and (pt_cmp (pc_notN (pv 3))) (pw_and1 (pt_cmpR op_notIn_seq (pv 3) (pv 1) rfl))))
            (pss_one (ps_expr (pe_bm PySem.F.plainAttrs_list PySem.F.slot_list_append PySem.F.type_list_append mt_append (pv 1) (pa_cons (pv 3) pa_nil))))
            pss_nil)))
        (pss_one (ps_set (i := 2) scMet.nd rfl (.inl rfl) (pe_op op_add (pv 2) pe_int)))))
      (pss_one (ps_ret (pv 1)))), ?_⟩
    refine ⟨by show 1 ≤ sizeLine; decide, fun o ho => ?_⟩
    have s1 := same_new (o := .lst [.int 0]) ho
    have l4 := M.l400
    refine ⟨_, _, rfl, ?_⟩
    refine while_by (fun σ H' => ∃ (i : Nat) (ord : List Nat) (y3 : Option V), σ = [some (.ref pr), some (.ref o), some (.int (i : Int)), y3] ∧ Same H H' ∧ H' o = some (.lst (ord.map natV)) ∧ ROrd rs i ord)
      (fun (σ : List (Option V)) (_ : Hp) => match σ[2]? with
        | some (some (V.int i)) => 401 - i.toNat
        | _ => 0) ⟨0, [0], none, rfl, s1, upd_same, rord0⟩ ?_ ?_
    · rintro σ H1 ⟨i, ord, y3, rfl, sm, h1, R⟩
      have hol := R.len M
      refine ⟨_, rfl, _, rfl, o, _, rfl, .inl (SqL.of h1), _, _, rfl, rfl, _, rfl, ite2 (fun hlt => ?_) fun hlt => ?_⟩
      · have hlt := of_decide_eq_true hlt
        rw [List.length_map] at hlt
        have hi : i < ord.length := by omega
        have hu : ord[i]? = some ord[i] := List.getElem?_eq_getElem hi
        have hmu := List.getElem_mem hi
        generalize ord[i] = u at *
        have hun := M.reach_lt u (R.rch u hmu)
        have hrow : rs[u]? = some rs[u] := List.getElem?_eq_getElem hun
        have hmr := List.getElem_mem hun
        generalize rs[u] = row at *
        have MM1 := MM.same sm
        obtain ⟨q, hq1, hq2⟩ := MM1.row u row hrow
        refine ⟨_, rfl, _, rfl, _, rfl, o, _, (i : Int), _, rfl, rfl, SqL.of h1, atI_nat (natV_get hu), pr, rvs, (u : Int), _, rfl, rfl, .inl MM1.hr, atI_nat hq1, q, rfl, ⟨_, .inl hq2⟩, ?_⟩
        refine for_tup (K := K) (a := q) (xs := row.map oV) (fun j σ H' => (∃ y3, σ = [some (.ref pr), some (.ref o), some (.int (i : Int)), y3]) ∧ Same H H' ∧ (∀ {a : Addr} {xs : List V}, Rd H1 a (.tup xs) → Rd H' a (.tup xs)) ∧ ∃ ord', H' o = some (.lst (ord'.map natV)) ∧ ROrd rs i ord' ∧ ord'[i]? = some u ∧ ∀ k, k < j → ∀ v, row[k]? = some (some v) → v ∈ ord')
          ⟨⟨_, rfl⟩, sm, fun h => h, ord, h1, R, hu, fun k hk => absurd hk (Nat.not_lt_zero _)⟩ (fun j σ H' _ p => .inl (p.2.2.1 hq2)) ?_ ?_
        · rintro j x σ H2 hx ⟨⟨y5, rfl⟩, sm2, rdk, ord', g1, R', hu', hall⟩
          rw [List.getElem?_map] at hx
          obtain ⟨tg, hj, rfl⟩ := Option.map_eq_some_iff.mp hx
          refine ⟨_, rfl, _, rfl, ?_⟩
          cases tg with
          | none =>
            refine ⟨⟨_, rfl⟩, sm2, rdk, ord', g1, R', hu', fun k hk v hv => ?_⟩
            by_cases e : k = j
            · rw [e, hj] at hv
              cases hv
            · exact hall k (by omega) v hv
          | some v =>
            have hrv : Reach rs v := .s (R'.rch u (List.mem_of_getElem? hu')) hrow hj
            refine ⟨_, rfl, _, rfl, o, _, rfl, .inl (SqL.of g1), rfl, flat_nat, _, rfl, ?_⟩
            have enot : inV (oV (some v)) (ord'.map natV) = decide (v ∈ ord') := notIn_nat
            rw [enot]
            by_cases hin : v ∈ ord'
            · rw [decide_eq_true hin]
              refine ⟨⟨_, rfl⟩, sm2, rdk, ord', g1, R', hu', fun k hk w hw => ?_⟩
              by_cases e : k = j
              · rw [e, hj] at hw
                cases hw
                exact hin
              · exact hall k (by omega) w hw
            · rw [decide_eq_false hin]
              have hol2 := (R'.push hin hrv).len M
              rw [List.length_append, List.length_singleton] at hol2
              refine ⟨_, rfl, .inl ⟨rfl, _, SqL.of g1⟩, _, rfl, o, _, _, rfl, rfl, g1, small1000 (by rw [List.length_map]; omega), ?_⟩
              refine ⟨⟨_, rfl⟩, fun b z e => ?_, fun {a} {xs} h => ?_, ord' ++ [v], by rw [upd_same, List.map_append]; rfl, R'.push hin hrv, ?_, fun k hk w hw => ?_⟩
              · rw [upd_ne (ne_of_none e ho)]
                exact sm2 b z e
              · have h' := rdk h
                have na : a ≠ o := fun z => by
                  rw [z] at h'
                  rcases h' with h' | ⟨_, h'⟩ <;> (rw [g1] at h'; cases h')
                rcases h' with h' | ⟨ob, h'⟩
                · exact .inl (by rw [upd_ne na]; exact h')
                · exact .inr ⟨ob, by rw [upd_ne na]; exact h'⟩
              · rw [List.getElem?_append_left (List.getElem?_eq_some_iff.mp hu').1]
                exact hu'
              · by_cases e : k = j
                · rw [e, hj] at hw
                  cases hw
                  exact List.mem_append_right _ (List.mem_singleton.mpr rfl)
                · exact List.mem_append_left _ (hall k (by omega) w hw)
        · rintro σ H2 ⟨⟨y5, rfl⟩, sm2, rdk, ord', g1, R', hu', hall⟩
          have R'' := R'.next hu' hrow (fun v hv => by
            obtain ⟨k, hk⟩ := List.getElem?_of_mem hv
            exact hall k (by rw [List.length_map]; exact (List.getElem?_eq_some_iff.mp hk).1) v hk)
          have hl2 := R''.len M
          have hle := R''.le
          refine ⟨_, rfl, _, _, rfl, rfl, ⟨i + 1, ord', _, rfl, sm2, g1, R''⟩, ?_⟩
          show 401 - ((i : Int) + 1).toNat < 401 - (i : Int).toNat
          omega
      · refine ⟨_, rfl, k H1 o ord sm ho h1 (R.isOrd M ?_)⟩
        have h9 : ¬ ((i : Int) < ((ord.map natV).length : Int)) := fun z => hlt (decide_eq_true z)
        rw [List.length_map] at h9
        omega
    · rintro σ H1 Q1 Q2 hQ ⟨x, e1, y, e2, p, ys, e3, e4, i, j, e5, e6, b, e7, q⟩
      exact ⟨x, e1, y, e2, p, ys, e3, e4, i, j, e5, e6, b, e7, hQ _ _ q⟩
end
/-! ### drawn machines -/
theorem rows_of {L : Nat} {m : Int} : ∀ {rs : List PyData}, (∀ r ∈ rs, RowD (L : Int) m r) → ∃ rows : Rows, rs = rows.map rowDt ∧ ∀ row ∈ rows, row.length = L ∧ ∀ v, some v ∈ row → (v : Int) < m
  | [], _ => ⟨[], rfl, fun _ h => absurd h List.not_mem_nil⟩
  | r :: rs, h => by
    obtain ⟨rows, e, h1⟩ := rows_of (rs := rs) fun r' hr => h r' (List.mem_cons_of_mem _ hr)
    obtain ⟨is, e2, h2, h3⟩ := h r List.mem_cons_self
    have : ∀ {is : List PyData}, (∀ i ∈ is, Ri m i) → ∃ row : List (Option Nat), is = row.map oD ∧ ∀ v, some v ∈ row → (v : Int) < m := by
      intro is
      induction is with
      | nil => intro _; exact ⟨[], rfl, fun _ h => absurd h List.not_mem_nil⟩
      | cons i is ih =>
        intro hi
        obtain ⟨row, e, hv⟩ := ih fun j hj => hi j (List.mem_cons_of_mem _ hj)
        rcases hi i List.mem_cons_self with rfl | ⟨k, rfl, k0, k1⟩
        · exact ⟨none :: row, by rw [e]; rfl, fun v hm => by
            rcases List.mem_cons.mp hm with hm | hm
            · cases hm
            · exact hv v hm⟩
        · refine ⟨some k.toNat :: row, by rw [e, List.map_cons]; show _ = PyData.int (k.toNat : Int) :: _; rw [Int.toNat_of_nonneg k0], fun v hm => ?_⟩
          rcases List.mem_cons.mp hm with hm | hm
          · cases hm
            omega
          · exact hv v hm
    obtain ⟨row, e3, hv⟩ := this h3
    refine ⟨row :: rows, by rw [e, e2, e3]; rfl, fun row' hr => ?_⟩
    rcases List.mem_cons.mp hr with hr | hr
    · rw [hr]
      refine ⟨?_, hv⟩
      rw [e3, List.length_map] at h2
      omega
    · exact h1 row' hr
theorem ends_of : ∀ {es : List PyData}, (∀ e ∈ es, isBool e = true) → ∃ bs : List Bool, es = bs.map .bool
  | [], _ => ⟨[], rfl⟩
  | e :: es, h => by
    obtain ⟨bs, e1⟩ := ends_of fun e' he => h e' (List.mem_cons_of_mem _ he)
    have := h e List.mem_cons_self
    cases e with
    | bool b => exact ⟨b :: bs, by rw [e1]; rfl⟩
    | _ => cases this
theorem mach_of {K : PySem.W.Frag} {a c : Addr} {H : Hp} {v : V} {L : Nat} {M : Int} {rs es : List PyData} (h : MachD K a c H v (L : Int) M rs es) (L1 : 1 ≤ L) (L3 : L ≤ 3) (hM : M ≤ 400) :
    ∃ (rows : Rows) (bs : List Bool), Dt (Bd a c) K H v (machDt L rows bs) ∧ MOk L rows bs ∧ (rows.length : Int) ≤ M := by
  obtain ⟨h1, h2, h3, h4, h5, h6⟩ := h
  obtain ⟨rows, rfl, h7⟩ := rows_of h5
  obtain ⟨bs, rfl⟩ := ends_of h6
  rw [List.length_map] at h2 h3 h4
  rw [List.length_map] at h4
  refine ⟨rows, bs, h1, ⟨h2, by omega, fun row hr => (h7 row hr).1, fun row hr v hv => ?_, h4, L1, L3⟩, h3⟩
  have := (h7 row hr).2 v hv
  rw [List.length_map] at this
  omega
/-! ### rows and rings of many states, built -/
theorem atI_neg1 {α : Type} {xs : List α} {v : α} (h : xs[xs.length - 1]? = some v) (hp : 1 ≤ xs.length) : atI xs (-1) = some v := by
  have e : ixN xs.length (-1) = some (xs.length - 1) := by
    unfold ixN
    rw [if_neg (by decide), if_pos (by omega)]
    congr 1
    omega
  unfold atI
  rw [e]
  exact h
theorem mok_long {n : Nat} {ring : Bool} (h2 : 2 ≤ n) (h4 : n ≤ 400) : MOk 1 (rsLong n ring) (esLong n) where
  l1 := by rw [long_len (by omega)]; omega
  l400 := by rw [long_len (by omega)]; exact h4
  row := fun row h => by
    unfold rsLong at h
    rcases List.mem_append.mp h with h | h
    · obtain ⟨i, _, rfl⟩ := List.mem_map.mp h
      rfl
    · rw [List.mem_singleton.mp h]
      rfl
  tgt := fun row h v hv => by
    rw [long_len (by omega)]
    unfold rsLong at h
    rcases List.mem_append.mp h with h | h
    · obtain ⟨i, hi, rfl⟩ := List.mem_map.mp h
      rw [List.mem_range] at hi
      have := List.mem_singleton.mp hv
      cases this
      omega
    · rw [List.mem_singleton.mp h] at hv
      have := List.mem_singleton.mp hv
      cases ring with
      | true => cases this; omega
      | false => cases this
  es := by
    rw [long_len (by omega)]
    unfold esLong
    rw [List.length_append, List.length_replicate, List.length_singleton]
    omega
  L1 := Nat.le_refl _
  L3 := by decide
def lrow (i : Nat) : PyData := rowDt [some (i + 1)]
def LInv (K : PySem.W.Frag) (H : Hp) (D : Addr) (j : Nat) (H' : Hp) : Prop := Same H H' ∧ ∃ acc, H' D = some (.lst acc) ∧ acc.length = j ∧ ∀ B : Addr → Prop, TB B H → DtAll (fun b => B b ∨ b = D) K H' acc ((List.range j).map lrow)
theorem dt_lst {B : Addr → Prop} {K : PySem.W.Frag} {H H' : Hp} {D : Addr} {xs : List V} (nD : H D = none) (h1 : H' D = some (.lst xs)) (o : HO) : ∀ {ds : List PyData} {vs : List V}, DtAll (fun b => B b ∨ b = D) K H' vs ds → DtAll (fun b => B b ∨ b = D) K (upd H' D o) vs ds := by
  intro ds vs h
  have kp : Keep (fun b => B b ∨ b = D) H' (upd H' D o) := fun b u nb e => by
    rw [upd_ne (fun z => nb (.inr z))]
    exact e
  exact DtAll.keep kp _ _ h
section
variable {P : Program} {w : World} {K : PySem.W.Frag} {mg : Str → Option Value} {base : Heap}
theorem scLong : FnScope ["_law_many", "_law_is_ring", "_law_rows", "_law_state"] ["_law_many", "_law_is_ring"] (defScope sLong) := ⟨rfl, rfl, rfl, by decide +kernel, rfl, by decide +kernel, by decide +kernel⟩
def spLong (K : PySem.W.Frag) : Sp := fun vs H Q _ => ∃ (n : Nat) (ring : Bool), vs = [.int (n : Int), .bl ring] ∧ 2 ≤ n ∧ n ≤ 400 ∧
  ∀ H' v, Same H H' → (∀ B, TB B H → Dt B K H' v (machDt 1 (rsLong n ring) (esLong n))) → Q v H'
theorem ok_long {f : Addr} {fd : FuncData} (F : Fun K "_law_long" "_law_long" sLong f fd) (T : Mg mg) : FnOk P w K mg base CX0 1 f fd ["_law_many", "_law_is_ring"] (spLong K) := by
  refine F.ok scLong (fun vs H Q E h => ?_) (fun cdv A outer s H vs Q E hr h => ?_)
  · obtain ⟨n, ring, rfl, _⟩ := h
    rfl
  · obtain ⟨n, ring, rfl, n2, n4, k⟩ := h
    refine ⟨_, pss_cons (ps_set (i := 2) scLong.nd rfl (.inl rfl) (pe_op op_cat (pe_lc (own := [("_law_state", 3)]) (g := gName 3) (tt := tYes) rfl scLong.nd (pi_range1 (by rfl) T.range (pa_cons (pe_op op_sub (pv 0) pe_int) pa_nil)) (blkOk_by (N := ["_law_many", "_law_is_ring", "_law_rows", "_law_state"]) (sc := defScope sLong) (by decide +kernel)) (fun _ _ _ _ _ => pg_name (i := 3) scLong.nd rfl (Or.inl rfl)) (fun _ _ _ _ _ => pts_nil) (fun _ _ _ _ _ => pe_tup (pa_cons (pe_op op_add (pv 3) pe_int) pa_nil)))
        (pe_lst (pa_cons (pe_tup (pa_cons (pe_ifExp (pt_val (pv 1)) pe_int pe_non) pa_nil)) pa_nil))))
      (pss_one (ps_ret (pe_tup (pa_cons pe_int (pa_cons (pe_callTy (r := rTup K) call_tuple_of (by rfl) T.tuple PyProof.Rows.boot_tuple (pa_cons (pv 2) pa_nil)) (pa_cons (pe_op op_catS (pe_op op_repS (pe_tup (pa_cons pe_bl pa_nil)) (pe_op op_sub (pv 0) pe_int)) (pe_tup (pa_cons pe_bl pa_nil))) pa_nil)))))), ?_⟩
    refine ⟨_, rfl, _, _, rfl, rfl, ((n : Int) - 1), rfl, by omega, by omega, fun D nD => ?_⟩
    refine lc_range (lo := 0) (n := ((n : Int) - 1).toNat) (LInv K H D) ⟨same_new nD, [], upd_same, rfl, fun B tb => .nil⟩ ?_ ?_
    · rintro j H1 hj ⟨sm, acc, hD1, hl, hB⟩
      refine ⟨rfl, _, rfl, _, _, rfl, rfl, by show 1 ≤ sizeLine; decide, fun t nt => ?_⟩
      have st := same_new (o := .tup [.int (0 + (j : Int) + 1)]) nt
      refine ⟨acc, st _ _ hD1, small1000 (by omega), fun b u e => ?_, acc ++ [.ref t], upd_same, by rw [List.length_append, hl]; rfl, fun B tb => ?_⟩
      · rw [upd_ne (ne_of_none e nD)]
        exact st _ _ (sm _ _ e)
      · have ntD : t ≠ D := fun z => by
          rw [← z] at hD1
          rw [nt] at hD1
          cases hD1
        refine dt_lst nD (st _ _ hD1) _ ?_
        rw [List.range_succ, List.map_append]
        have tb2 : TB (fun b => B b ∨ b = D) H1 := fun b z e => by
          rcases z with z | z
          · exact tb_same sm tb b z e
          · rw [z, hD1] at e
            cases e
        refine (same_all st (hB B tb)).append (.cons (.tup (tb_off tb2 nt) (.inl upd_same) ?_) .nil)
        · show DtAll _ K _ [V.int (0 + (j : Int) + 1)] [PyData.int ((j + 1 : Nat) : Int)]
          rw [show (0 + (j : Int) + 1) = ((j + 1 : Nat) : Int) by omega]
          exact .cons (.int _) .nil
    · rintro H1 ⟨sm, acc, hD1, hl, hB⟩
      cases ring with
      | true =>
        refine ⟨_, rfl, true, rfl, by show 1 ≤ sizeLine; decide, fun t nt => ?_⟩
        have st := same_new (o := .tup [.int 0]) nt
        refine ⟨by show 1 ≤ sizeLine; decide, fun l nl => ?_⟩
        have sl := same_new (o := .lst [.ref t]) nl
        have hlen : acc.length + 1 ≤ sizeLine := sz_of (by rw [hl]; omega)
        refine ⟨D, l, acc, [.ref t], rfl, rfl, sl _ _ (st _ _ hD1), upd_same, hlen, fun p np => ?_⟩
        have sp := same_new (o := .lst (acc ++ [.ref t])) np
        refine ⟨_, rfl, p, _, rfl, .inl ⟨SqL.of upd_same, fun tr ntr => ?_⟩⟩
        have str := same_new (o := .tup (acc ++ [.ref t])) ntr
        have s5 := (sm.trans st).trans ((sl.trans sp).trans str)
        have h5t : Rd (upd (upd (upd (upd H1 t (.tup [.int 0])) l (.lst [.ref t])) p (.lst (acc ++ [.ref t]))) tr (.tup (acc ++ [.ref t]))) t (.tup [.int 0]) := same_rd ((sl.trans sp).trans str) (.inl upd_same)
        have s15 := st.trans ((sl.trans sp).trans str)
        have h5r : Rd (upd (upd (upd (upd H1 t (.tup [.int 0])) l (.lst [.ref t])) p (.lst (acc ++ [.ref t]))) tr (.tup (acc ++ [.ref t]))) tr (.tup (acc ++ [.ref t])) := .inl upd_same
        have n5t : ∀ {B : Addr → Prop}, TB B H → ¬ B t := fun tb => tb_off (tb_same sm tb) nt
        have n5r : ∀ {B : Addr → Prop}, TB B H → ¬ B tr := fun tb => tb_off (tb_same (sm.trans (st.trans (sl.trans sp))) tb) ntr
        generalize upd (upd (upd (upd H1 t (.tup [.int 0])) l (.lst [.ref t])) p (.lst (acc ++ [.ref t]))) tr (.tup (acc ++ [.ref t])) = G5 at *
        refine ⟨by show 1 ≤ sizeLine; decide, fun f1 nf1 => ?_⟩
        have s6 := same_new (o := .tup [.bl false]) nf1
        refine ⟨_, rfl, _, _, rfl, rfl, f1, (n : Int) - 1, _, rfl, rfl, .inl upd_same, List.cons_ne_nil _ _, by omega, by omega, by show 1 ≤ 1000; decide, fun q H7 s7 hq wq => ?_⟩
        rw [show (List.replicate ((n : Int) - 1).toNat [V.bl false]).flatten = (List.replicate (n - 1) false).map V.bl by rw [show ((n : Int) - 1).toNat = n - 1 by omega]; simp] at hq
        refine ⟨by show 1 ≤ sizeLine; decide, fun u nu => ?_⟩
        have s8 := same_new (o := .tup [.bl true]) nu
        refine ⟨q, u, _, _, rfl, rfl, same_rd s8 hq, .inl upd_same, sz_of (by rw [List.length_map, List.length_replicate, List.length_singleton]; omega), fun q2 H9 s9 hq2 w2 => ?_⟩
        refine ⟨by show 3 ≤ sizeLine; decide, fun z nz => ?_⟩
        have sz := same_new (o := .tup [.int 1, .ref tr, .ref q2]) nz
        have s59 := (s6.trans s7).trans ((s8.trans s9).trans sz)
        refine k _ (.ref z) (s5.trans s59) fun B tb => ?_
        have tb5 := tb_same s5 tb
        have tb6 := tb_same s6 tb5
        have tb7 := tb_same s7 tb6
        have nq := nb_of tb6 (tb_off tb5 nf1) wq
        have nq2 := nb_of2 (tb_same s8 tb7) nq (tb_off tb7 nu) w2
        have nz' := tb_off (tb_same (s8.trans s9) tb7) nz
        have hA := (hB B tb).weak (B' := B) (fun b hb => .inl hb)
        have er : (rsLong n true).map rowDt = (List.range (n - 1)).map lrow ++ [rowDt [some 0]] := by
          unfold rsLong
          rw [List.map_append, List.map_map]
          rfl
        rw [show ((n : Int) - 1).toNat = n - 1 by omega] at hA
        refine .tup nz' (.inl upd_same) (.cons (.int _) (.cons (.tup (n5r tb) (same_rd s59 h5r) ?_) (.cons (.tup nq2 (same_rd sz hq2) ?_) .nil)))
        · rw [er]
          exact (same_all (s15.trans s59) hA).append (.cons (.tup (n5t tb) (same_rd s59 h5t) (.cons (.int _) .nil)) .nil)
        · have := dt_cs (B := B) (K := K) (H := upd H9 z (.tup [.int 1, .ref tr, .ref q2])) (fun x => Dt.bl x) (esLong n)
          unfold esLong at this ⊢
          rw [List.map_append] at this
          exact this
      | false =>
        refine ⟨_, rfl, false, rfl, by show 1 ≤ sizeLine; decide, fun t nt => ?_⟩
        have st := same_new (o := .tup [.non]) nt
        refine ⟨by show 1 ≤ sizeLine; decide, fun l nl => ?_⟩
        have sl := same_new (o := .lst [.ref t]) nl
        have hlen : acc.length + 1 ≤ sizeLine := sz_of (by rw [hl]; omega)
        refine ⟨D, l, acc, [.ref t], rfl, rfl, sl _ _ (st _ _ hD1), upd_same, hlen, fun p np => ?_⟩
        have sp := same_new (o := .lst (acc ++ [.ref t])) np
        refine ⟨_, rfl, p, _, rfl, .inl ⟨SqL.of upd_same, fun tr ntr => ?_⟩⟩
        have str := same_new (o := .tup (acc ++ [.ref t])) ntr
        have s5 := (sm.trans st).trans ((sl.trans sp).trans str)
        have h5t : Rd (upd (upd (upd (upd H1 t (.tup [.non])) l (.lst [.ref t])) p (.lst (acc ++ [.ref t]))) tr (.tup (acc ++ [.ref t]))) t (.tup [.non]) := same_rd ((sl.trans sp).trans str) (.inl upd_same)
        have s15 := st.trans ((sl.trans sp).trans str)
        have h5r : Rd (upd (upd (upd (upd H1 t (.tup [.non])) l (.lst [.ref t])) p (.lst (acc ++ [.ref t]))) tr (.tup (acc ++ [.ref t]))) tr (.tup (acc ++ [.ref t])) := .inl upd_same
        have n5t : ∀ {B : Addr → Prop}, TB B H → ¬ B t := fun tb => tb_off (tb_same sm tb) nt
        have n5r : ∀ {B : Addr → Prop}, TB B H → ¬ B tr := fun tb => tb_off (tb_same (sm.trans (st.trans (sl.trans sp))) tb) ntr
        generalize upd (upd (upd (upd H1 t (.tup [.non])) l (.lst [.ref t])) p (.lst (acc ++ [.ref t]))) tr (.tup (acc ++ [.ref t])) = G5 at *
        refine ⟨by show 1 ≤ sizeLine; decide, fun f1 nf1 => ?_⟩
        have s6 := same_new (o := .tup [.bl false]) nf1
        refine ⟨_, rfl, _, _, rfl, rfl, f1, (n : Int) - 1, _, rfl, rfl, .inl upd_same, List.cons_ne_nil _ _, by omega, by omega, by show 1 ≤ 1000; decide, fun q H7 s7 hq wq => ?_⟩
        rw [show (List.replicate ((n : Int) - 1).toNat [V.bl false]).flatten = (List.replicate (n - 1) false).map V.bl by rw [show ((n : Int) - 1).toNat = n - 1 by omega]; simp] at hq
        refine ⟨by show 1 ≤ sizeLine; decide, fun u nu => ?_⟩
        have s8 := same_new (o := .tup [.bl true]) nu
        refine ⟨q, u, _, _, rfl, rfl, same_rd s8 hq, .inl upd_same, sz_of (by rw [List.length_map, List.length_replicate, List.length_singleton]; omega), fun q2 H9 s9 hq2 w2 => ?_⟩
        refine ⟨by show 3 ≤ sizeLine; decide, fun z nz => ?_⟩
        have sz := same_new (o := .tup [.int 1, .ref tr, .ref q2]) nz
        have s59 := (s6.trans s7).trans ((s8.trans s9).trans sz)
        refine k _ (.ref z) (s5.trans s59) fun B tb => ?_
        have tb5 := tb_same s5 tb
        have tb6 := tb_same s6 tb5
        have tb7 := tb_same s7 tb6
        have nq := nb_of tb6 (tb_off tb5 nf1) wq
        have nq2 := nb_of2 (tb_same s8 tb7) nq (tb_off tb7 nu) w2
        have nz' := tb_off (tb_same (s8.trans s9) tb7) nz
        have hA := (hB B tb).weak (B' := B) (fun b hb => .inl hb)
        have er : (rsLong n false).map rowDt = (List.range (n - 1)).map lrow ++ [rowDt [none]] := by
          unfold rsLong
          rw [List.map_append, List.map_map]
          rfl
        rw [show ((n : Int) - 1).toNat = n - 1 by omega] at hA
        refine .tup nz' (.inl upd_same) (.cons (.int _) (.cons (.tup (n5r tb) (same_rd s59 h5r) ?_) (.cons (.tup nq2 (same_rd sz hq2) ?_) .nil)))
        · rw [er]
          exact (same_all (s15.trans s59) hA).append (.cons (.tup (n5t tb) (same_rd s59 h5t) (.cons .non .nil)) .nil)
        · have := dt_cs (B := B) (K := K) (H := upd H9 z (.tup [.int 1, .ref tr, .ref q2])) (fun x => Dt.bl x) (esLong n)
          unfold esLong at this ⊢
          rw [List.map_append] at this
          exact this
end
/-! ### machines, their words and what states are the same -/
abbrev Rws := List (List (Option Nat))
def nx (rs : Rws) (s c : Nat) : Option Nat := (rs.getD s []).getD c none
def acc (rs : Rws) (es : List Bool) : List Nat → Nat → Bool
  | [], s => es.getD s false
  | c :: w, s => match nx rs s c with
    | none => false
    | some t => acc rs es w t
def Live (rs : Rws) (es : List Bool) (s : Nat) : Prop := ∃ w, acc rs es w s = true
/-- state s of one machine has the words of state t of another one -/
def Eqv (rs : Rws) (es : List Bool) (rs' : Rws) (es' : List Bool) (s t : Nat) : Prop := ∀ w, acc rs es w s = acc rs' es' w t
theorem Eqv.refl {rs : Rws} {es : List Bool} (s : Nat) : Eqv rs es rs es s s := fun _ => rfl
theorem Eqv.symm {rs rs' : Rws} {es es' : List Bool} {s t : Nat} (h : Eqv rs es rs' es' s t) : Eqv rs' es' rs es t s := fun w => (h w).symm
theorem Eqv.trans {rs rs' rs2 : Rws} {es es' es2 : List Bool} {s t u : Nat} (h : Eqv rs es rs' es' s t) (g : Eqv rs' es' rs2 es2 t u) : Eqv rs es rs2 es2 s u := fun w => (h w).trans (g w)
theorem Eqv.live {rs rs' : Rws} {es es' : List Bool} {s t : Nat} (h : Eqv rs es rs' es' s t) (l : Live rs es s) : Live rs' es' t := by
  obtain ⟨w, hw⟩ := l
  exact ⟨w, by rw [← h w]; exact hw⟩
theorem acc_cons {rs : Rws} {es : List Bool} {s c t : Nat} {w : List Nat} (h : nx rs s c = some t) : acc rs es (c :: w) s = acc rs es w t := by
  show (match nx rs s c with | none => false | some t => acc rs es w t) = _
  rw [h]
theorem acc_none {rs : Rws} {es : List Bool} {s c : Nat} {w : List Nat} (h : nx rs s c = none) : acc rs es (c :: w) s = false := by
  show (match nx rs s c with | none => false | some t => acc rs es w t) = _
  rw [h]
/-- a way on that leads to words -/
def Way (rs : Rws) (es : List Bool) (s c t : Nat) : Prop := nx rs s c = some t ∧ Live rs es t
theorem Eqv.way {rs rs' : Rws} {es es' : List Bool} {s s' c t : Nat} (h : Eqv rs es rs' es' s s') (w : Way rs es s c t) : ∃ t', Way rs' es' s' c t' ∧ Eqv rs es rs' es' t t' := by
  obtain ⟨e, v, hv⟩ := w
  have h1 := h (c :: v)
  rw [acc_cons e, hv] at h1
  cases e' : nx rs' s' c with
  | none =>
    rw [acc_none e'] at h1
    cases h1
  | some t' =>
    rw [acc_cons e'] at h1
    refine ⟨t', ⟨e', v, h1.symm⟩, fun u => ?_⟩
    have h2 := h (c :: u)
    rw [acc_cons e, acc_cons e'] at h2
    exact h2
/-- the smallest machine, numbered by the first words; ps: which states of the machine stand for its own -/
structure Canon (rs : Rws) (es : List Bool) (L : Nat) (ps : List Nat) (out : Rws) (oe : List Bool) : Prop where
  lo : out.length = ps.length
  le : oe.length = ps.length
  zero : ps[0]? = some 0
  live : ∀ p ∈ ps, Live rs es p
  one : ∀ (i j p q : Nat), ps[i]? = some p → ps[j]? = some q → Eqv rs es rs es p q → i = j
  wide : ∀ r ∈ out, r.length = L
  ends : ∀ (i p : Nat), ps[i]? = some p → oe[i]? = some (es.getD p false)
  some_ : ∀ (i p c j : Nat), ps[i]? = some p → nx out i c = some j → ∃ t q, Way rs es p c t ∧ ps[j]? = some q ∧ Eqv rs es rs es t q
  none_ : ∀ (i p c t : Nat), ps[i]? = some p → c < L → nx out i c = none → ¬ Way rs es p c t
  over : ∀ (p c t : Nat), p ∈ ps → Way rs es p c t → c < L
  ord : ∀ (j : Nat), 1 ≤ j → j < ps.length → ∃ (i c : Nat), i < j ∧ nx out i c = some j ∧ ∀ (i' c' j' : Nat), nx out i' c' = some j' → j ≤ j' → i < i' ∨ (i = i' ∧ c ≤ c')
section
variable {rs rs' : Rws} {es es' : List Bool} {L : Nat} {ps ps' : List Nat} {out out' : Rws} {oe oe' : List Bool}
theorem Canon.go (C : Canon rs es L ps out oe) {i p c t : Nat} (hp : ps[i]? = some p) (w : Way rs es p c t) : ∃ j q, nx out i c = some j ∧ ps[j]? = some q ∧ Eqv rs es rs es t q := by
  have hc := C.over p c t (List.mem_of_getElem? hp) w
  cases e : nx out i c with
  | none => exact absurd w (C.none_ i p c t hp hc e)
  | some j =>
    obtain ⟨t', q, w', hq, he⟩ := C.some_ i p c j hp e
    have : t' = t := Option.some.inj (w'.1.symm.trans w.1)
    subst this
    exact ⟨j, q, rfl, hq, he⟩
theorem canon_same (C : Canon rs es L ps out oe) (C' : Canon rs' es' L ps' out' oe') (h0 : Eqv rs es rs' es' 0 0) : ∀ (j p : Nat), ps[j]? = some p → ∃ p', ps'[j]? = some p' ∧ Eqv rs es rs' es' p p' := by
  intro j
  induction j using Nat.strongRecOn with
  | ind j ih =>
    intro p hp
    by_cases z : j = 0
    · subst z
      have : p = 0 := Option.some.inj (hp.symm.trans C.zero)
      subst this
      exact ⟨0, C'.zero, h0⟩
    · have hj := (List.getElem?_eq_some_iff.mp hp).1
      obtain ⟨i, c, hij, hic, hmin⟩ := C.ord j (by omega) hj
      obtain ⟨pi, hpi⟩ : ∃ pi, ps[i]? = some pi := ⟨_, List.getElem?_eq_getElem (show i < ps.length by omega)⟩
      obtain ⟨t, q, w, hq, he⟩ := C.some_ i pi c j hpi hic
      have : q = p := Option.some.inj (hq.symm.trans hp)
      subst this
      obtain ⟨pi', hpi', hei⟩ := ih i hij pi hpi
      obtain ⟨t', w', het⟩ := hei.way w
      obtain ⟨j', q', hic', hq', he'⟩ := C'.go hpi' w'
      have key : Eqv rs es rs' es' q q' := he.symm.trans (het.trans he')
      have : j' = j := by
        rcases Nat.lt_trichotomy j' j with l | l | l
        · obtain ⟨p2, hp2⟩ : ∃ p2, ps[j']? = some p2 := ⟨_, List.getElem?_eq_getElem (show j' < ps.length by omega)⟩
          obtain ⟨q2, hq2, e2⟩ := ih j' l p2 hp2
          have : q2 = q' := Option.some.inj (hq2.symm.trans hq')
          subst this
          exact C.one _ _ _ _ hp2 hp (e2.trans key.symm)
        · exact l
        · have hj' := (List.getElem?_eq_some_iff.mp hq').1
          obtain ⟨i2, c2, hi2, h2, hm2⟩ := C'.ord j (by omega) (by omega)
          have lt := hm2 i c j' hic' (by omega)
          obtain ⟨p2, hp2⟩ : ∃ p2, ps[i2]? = some p2 := ⟨_, List.getElem?_eq_getElem (show i2 < ps.length by omega)⟩
          obtain ⟨p2', hp2', e2⟩ := ih i2 hi2 p2 hp2
          obtain ⟨t2', q2', w2', hq2', he2'⟩ := C'.some_ i2 p2' c2 j hp2' h2
          obtain ⟨t2, w2, het2⟩ := e2.symm.way w2'
          obtain ⟨j2, q2, hic2, hq2, he2⟩ := C.go hp2 w2
          have l2 : j2 < j := by
            rcases Nat.lt_or_ge j2 j with g | g
            · exact g
            · have g2 := hmin i2 c2 j2 hic2 g
              have ne : ¬ (i2 = i ∧ c2 = c) := by
                rintro ⟨rfl, rfl⟩
                rw [hic'] at h2
                have := Option.some.inj h2
                omega
              omega
          obtain ⟨q3, hq3, e3⟩ := ih j2 l2 q2 hq2
          have e4 : Eqv rs' es' rs' es' q3 q2' := e3.symm.trans (he2.symm.trans (het2.symm.trans he2'))
          have := C'.one _ _ _ _ hq3 hq2' e4
          omega
      subst this
      exact ⟨q', hq', key⟩
theorem canon_len (C : Canon rs es L ps out oe) (C' : Canon rs' es' L ps' out' oe') (h0 : Eqv rs es rs' es' 0 0) : ps.length ≤ ps'.length := by
  rcases Nat.lt_or_ge ps'.length ps.length with h | h
  · obtain ⟨p', hp', _⟩ := canon_same C C' h0 ps'.length _ (List.getElem?_eq_getElem h)
    have := (List.getElem?_eq_some_iff.mp hp').1
    omega
  · exact h
theorem canon_nx (C : Canon rs es L ps out oe) (C' : Canon rs' es' L ps' out' oe') (h0 : Eqv rs es rs' es' 0 0) {i c j : Nat} (hi : i < ps.length) (h : nx out i c = some j) : nx out' i c = some j := by
  obtain ⟨p, hp⟩ : ∃ p, ps[i]? = some p := ⟨_, List.getElem?_eq_getElem hi⟩
  obtain ⟨p', hp', e⟩ := canon_same C C' h0 i p hp
  obtain ⟨t, q, w, hq, he⟩ := C.some_ i p c j hp h
  obtain ⟨t', w', het⟩ := e.way w
  obtain ⟨j', q', hj', hq', he'⟩ := C'.go hp' w'
  obtain ⟨q2, hq2, e2⟩ := canon_same C C' h0 j q hq
  have := C'.one _ _ _ _ hq2 hq' (e2.symm.trans (he.symm.trans (het.trans he')))
  rw [this]
  exact hj'
theorem nx_in {rs : Rws} {s c : Nat} (hs : s < rs.length) (hc : c < rs[s].length) : nx rs s c = rs[s][c] := by
  have e : rs.getD s [] = rs[s] := by rw [List.getD_eq_getElem?_getD, List.getElem?_eq_getElem hs, Option.getD_some]
  unfold nx
  rw [e, List.getD_eq_getElem?_getD, List.getElem?_eq_getElem hc, Option.getD_some]
/-- two such machines of the same words are one -/
theorem canon_eq (C : Canon rs es L ps out oe) (C' : Canon rs' es' L ps' out' oe') (h0 : Eqv rs es rs' es' 0 0) : out = out' ∧ oe = oe' := by
  have hl : ps.length = ps'.length := Nat.le_antisymm (canon_len C C' h0) (canon_len C' C h0.symm)
  have lo := C.lo
  have lo' := C'.lo
  have le := C.le
  have le' := C'.le
  refine ⟨List.ext_getElem (by omega) fun i h1 h2 => List.ext_getElem ?_ fun c g1 g2 => ?_, List.ext_getElem (by omega) fun i h1 h2 => ?_⟩
  · rw [C.wide _ (List.getElem_mem h1), C'.wide _ (List.getElem_mem h2)]
  · rw [← nx_in h1 g1, ← nx_in h2 g2]
    cases e : nx out i c with
    | none =>
      cases e' : nx out' i c with
      | none => rfl
      | some j =>
        have := canon_nx C' C h0.symm (by omega) e'
        rw [e] at this
        cases this
    | some j => exact (canon_nx C C' h0 (by omega) e).symm
  · obtain ⟨p, hp⟩ : ∃ p, ps[i]? = some p := ⟨_, List.getElem?_eq_getElem (show i < ps.length by omega)⟩
    obtain ⟨p', hp', e⟩ := canon_same C C' h0 i p hp
    have a := C.ends i p hp
    have b := C'.ends i p' hp'
    rw [List.getElem?_eq_getElem h1] at a
    rw [List.getElem?_eq_getElem h2] at b
    rw [Option.some.inj a, Option.some.inj b]
    exact e []
/-- the words of the smallest machine -/
theorem canon_acc (C : Canon rs es L ps out oe) : ∀ (w : List Nat) (i p : Nat), ps[i]? = some p → acc out oe w i = acc rs es w p
  | [], i, p, hp => by
    show oe.getD i false = es.getD p false
    rw [List.getD_eq_getElem?_getD, C.ends i p hp]
    rfl
  | c :: w, i, p, hp => by
    cases e : nx out i c with
    | some j =>
      obtain ⟨t, q, wy, hq, he⟩ := C.some_ i p c j hp e
      rw [acc_cons e, acc_cons wy.1, canon_acc C w j q hq, he w]
    | none =>
      rw [acc_none e]
      cases e' : acc rs es (c :: w) p with
      | false => rfl
      | true =>
        cases e2 : nx rs p c with
        | none =>
          rw [acc_none e2] at e'
          cases e'
        | some t =>
          rw [acc_cons e2] at e'
          obtain ⟨j, _, hj, _⟩ := C.go hp ⟨e2, w, e'⟩
          rw [e] at hj
          cases hj
theorem canon_eqv (C : Canon rs es L ps out oe) : Eqv out oe rs es 0 0 := fun w => canon_acc C w 0 0 C.zero
end
/-! ### lots of states, numbered -/
structure PB (rs : Rws) (es : List Bool) (L : Nat) (bl : Nat → Option Nat) : Prop where
  wide : ∀ r ∈ rs, r.length = L
  tgt : ∀ r ∈ rs, ∀ t, some t ∈ r → t < rs.length
  inn : ∀ s b, bl s = some b → s < rs.length ∧ Live rs es s
  same : ∀ s t b, bl s = some b → (bl t = some b ↔ ((∃ b', bl t = some b') ∧ Eqv rs es rs es s t))
  on : ∀ s b c t, bl s = some b → Way rs es s c t → ∃ b', bl t = some b'
section
variable {rs : Rws} {es : List Bool} {L : Nat} {bl : Nat → Option Nat}
theorem nx_lt {rs : Rws} {L s c t : Nat} (wide : ∀ r ∈ rs, r.length = L) (h : nx rs s c = some t) : s < rs.length ∧ c < L ∧ ∃ r ∈ rs, some t ∈ r := by
  unfold nx at h
  rw [List.getD_eq_getElem?_getD, List.getD_eq_getElem?_getD] at h
  cases e : rs[s]? with
  | none =>
    rw [e] at h
    cases h
  | some r =>
    rw [e, Option.getD_some] at h
    have hr := List.mem_of_getElem? e
    cases e2 : r[c]? with
    | none =>
      rw [e2] at h
      cases h
    | some o =>
      rw [e2, Option.getD_some] at h
      subst h
      have h1 := (List.getElem?_eq_some_iff.mp e2).1
      rw [wide r hr] at h1
      exact ⟨(List.getElem?_eq_some_iff.mp e).1, h1, r, hr, List.mem_of_getElem? e2⟩
/-- what is there of the table while state after state is numbered: done has the rows that are whole, row the one that is being made -/
structure NI (rs : Rws) (L : Nat) (bl : Nat → Option Nat) (picked nums : List Nat) (done : Rws) (row : List (Option Nat)) : Prop where
  bls : picked.map bl = nums.map some
  nd : nums.Nodup
  zero : picked[0]? = some 0
  lt : done.length ≤ picked.length
  wide : ∀ r ∈ done, r.length = L
  yes : ∀ (i c j : Nat), nx (done ++ [row]) i c = some j → ∃ p t b, picked[i]? = some p ∧ nx rs p c = some t ∧ bl t = some b ∧ nums[j]? = some b
  no : ∀ (i c p t : Nat), (i < done.length ∧ c < L) ∨ (i = done.length ∧ c < row.length) → nx (done ++ [row]) i c = none → picked[i]? = some p → nx rs p c = some t → bl t = none
  ord : ∀ (j : Nat), 1 ≤ j → j < picked.length → ∃ (i c : Nat), i < j ∧ nx (done ++ [row]) i c = some j ∧ ∀ (i' c' j' : Nat), nx (done ++ [row]) i' c' = some j' → j ≤ j' → i < i' ∨ (i = i' ∧ c ≤ c')
theorem out_none {done : Rws} {row : List (Option Nat)} {i : Nat} (l : done.length < i) : (done ++ [row])[i]? = none := List.getElem?_eq_none (by rw [List.length_append, List.length_singleton]; omega)
theorem nx_over {done : Rws} {row : List (Option Nat)} {i c j : Nat} (h : nx (done ++ [row]) i c = some j) : i < done.length ∨ (i = done.length ∧ c < row.length) := by
  unfold nx at h
  rw [List.getD_eq_getElem?_getD, List.getD_eq_getElem?_getD] at h
  rcases Nat.lt_trichotomy i done.length with l | l | l
  · exact .inl l
  · right
    subst l
    refine ⟨rfl, ?_⟩
    rw [List.getElem?_append_right (Nat.le_refl _), Nat.sub_self, List.getElem?_cons_zero, Option.getD_some] at h
    rcases Nat.lt_or_ge c row.length with g | g
    · exact g
    · rw [List.getElem?_eq_none g] at h
      cases h
  · rw [out_none l] at h
    cases h
theorem nx_more {done : Rws} {row : List (Option Nat)} {e : Option Nat} {i c : Nat} : nx (done ++ [row ++ [e]]) i c = if i = done.length ∧ c = row.length then e else nx (done ++ [row]) i c := by
  unfold nx
  rw [List.getD_eq_getElem?_getD, List.getD_eq_getElem?_getD, List.getD_eq_getElem?_getD, List.getD_eq_getElem?_getD]
  rcases Nat.lt_trichotomy i done.length with l | l | l
  · rw [if_neg (by omega), List.getElem?_append_left l, List.getElem?_append_left l]
  · subst l
    rw [List.getElem?_append_right (Nat.le_refl _), List.getElem?_append_right (Nat.le_refl _), Nat.sub_self, List.getElem?_cons_zero, List.getElem?_cons_zero, Option.getD_some, Option.getD_some]
    rcases Nat.lt_trichotomy c row.length with g | g | g
    · rw [if_neg (by omega), List.getElem?_append_left g]
    · subst g
      rw [if_pos ⟨rfl, rfl⟩, List.getElem?_append_right (Nat.le_refl _), Nat.sub_self, List.getElem?_cons_zero, Option.getD_some]
    · rw [if_neg (by omega), List.getElem?_eq_none (by rw [List.length_append, List.length_singleton]; omega), List.getElem?_eq_none (by omega)]
  · rw [if_neg (by omega), out_none l, out_none l]
theorem nx_new {done : Rws} {i c : Nat} : nx (done ++ [[]]) i c = nx done i c := by
  unfold nx
  rw [List.getD_eq_getElem?_getD, List.getD_eq_getElem?_getD, List.getD_eq_getElem?_getD, List.getD_eq_getElem?_getD]
  rcases Nat.lt_trichotomy i done.length with l | l | l
  · rw [List.getElem?_append_left l]
  · subst l
    rw [List.getElem?_append_right (Nat.le_refl _), Nat.sub_self, List.getElem?_cons_zero, List.getElem?_eq_none (Nat.le_refl _)]
    rfl
  · rw [out_none l, List.getElem?_eq_none (show done.length ≤ i by omega)]
variable {picked nums : List Nat} {done : Rws} {row : List (Option Nat)}
theorem NI.len (h : NI rs L bl picked nums done row) : picked.length = nums.length := by
  have := congrArg List.length h.bls
  rwa [List.length_map, List.length_map] at this
theorem NI.at_ (h : NI rs L bl picked nums done row) {i p : Nat} (e : picked[i]? = some p) : ∃ b, nums[i]? = some b ∧ bl p = some b := by
  have := congrArg (fun x : List (Option Nat) => x[i]?) h.bls
  simp only [List.getElem?_map, e, Option.map_some] at this
  cases e2 : nums[i]? with
  | none =>
    rw [e2] at this
    cases this
  | some b =>
    rw [e2] at this
    exact ⟨b, rfl, Option.some.inj this⟩
theorem ni_start {b0 : Nat} (h : bl 0 = some b0) : NI rs L bl [0] [b0] [] [] where
  bls := by show [bl 0] = _; rw [h]; rfl
  nd := List.nodup_cons.mpr ⟨List.not_mem_nil, List.nodup_nil⟩
  zero := rfl
  lt := Nat.zero_le _
  wide := fun r hr => absurd hr List.not_mem_nil
  yes := fun i c j h => by
    rcases nx_over h with g | ⟨_, g⟩
    · exact absurd g (Nat.not_lt_zero _)
    · exact absurd g (Nat.not_lt_zero _)
  no := fun i c p t h => by
    rcases h with ⟨g, _⟩ | ⟨_, g⟩
    · exact absurd g (Nat.not_lt_zero _)
    · exact absurd g (Nat.not_lt_zero _)
  ord := fun j h1 h2 => by
    have : j < 1 := h2
    omega
/-- a place of a row that leads to no lot -/
theorem NI.none_ (h : NI rs L bl picked nums done row) (hd : ∀ (p t : Nat), picked[done.length]? = some p → nx rs p row.length = some t → bl t = none) : NI rs L bl picked nums done (row ++ [none]) where
  bls := h.bls
  nd := h.nd
  zero := h.zero
  lt := h.lt
  wide := h.wide
  yes := fun i c j q => by
    rw [nx_more] at q
    split at q
    · cases q
    · exact h.yes i c j q
  no := fun i c p t hi q hp ht => by
    by_cases z : i = done.length ∧ c = row.length
    · obtain ⟨rfl, rfl⟩ := z
      exact hd p t hp ht
    · rw [nx_more, if_neg z] at q
      refine h.no i c p t ?_ q hp ht
      rw [List.length_append, List.length_singleton] at hi
      omega
  ord := fun j h1 h2 => by
    obtain ⟨i, c, g1, g2, g3⟩ := h.ord j h1 h2
    have g4 := nx_over g2
    refine ⟨i, c, g1, by rw [nx_more, if_neg (by omega)]; exact g2, fun i' c' j' q hj => ?_⟩
    rw [nx_more] at q
    split at q
    · cases q
    · exact g3 i' c' j' q hj
theorem NI.some_ (h : NI rs L bl picked nums done row) {p t b j : Nat} (hp : picked[done.length]? = some p) (ht : nx rs p row.length = some t) (hb : bl t = some b) (hj : nums[j]? = some b) : NI rs L bl picked nums done (row ++ [some j]) where
  bls := h.bls
  nd := h.nd
  zero := h.zero
  lt := h.lt
  wide := h.wide
  yes := fun i c j' q => by
    by_cases z : i = done.length ∧ c = row.length
    · obtain ⟨rfl, rfl⟩ := z
      rw [nx_more, if_pos ⟨rfl, rfl⟩] at q
      cases q
      exact ⟨p, t, b, hp, ht, hb, hj⟩
    · rw [nx_more, if_neg z] at q
      exact h.yes i c j' q
  no := fun i c p' t' hi q hp' ht' => by
    by_cases z : i = done.length ∧ c = row.length
    · rw [nx_more, if_pos z] at q
      cases q
    · rw [nx_more, if_neg z] at q
      refine h.no i c p' t' ?_ q hp' ht'
      rw [List.length_append, List.length_singleton] at hi
      omega
  ord := fun j1 h1 h2 => by
    obtain ⟨i, c, g1, g2, g3⟩ := h.ord j1 h1 h2
    have g4 := nx_over g2
    refine ⟨i, c, g1, by rw [nx_more, if_neg (by omega)]; exact g2, fun i' c' j' q hj' => ?_⟩
    by_cases z : i' = done.length ∧ c' = row.length
    · omega
    · rw [nx_more, if_neg z] at q
      exact g3 i' c' j' q hj'
theorem NI.fresh (h : NI rs L bl picked nums done row) {p t b : Nat} (hp : picked[done.length]? = some p) (ht : nx rs p row.length = some t) (hb : bl t = some b) (hn : b ∉ nums) : NI rs L bl (picked ++ [t]) (nums ++ [b]) done (row ++ [some picked.length]) where
  bls := by rw [List.map_append, List.map_append, h.bls]; show _ ++ [bl t] = _; rw [hb]; rfl
  nd := by
    rw [List.nodup_append]
    refine ⟨h.nd, List.nodup_cons.mpr ⟨List.not_mem_nil, List.nodup_nil⟩, fun x hx y hy => ?_⟩
    rw [List.mem_singleton.mp hy]
    exact fun e => hn (e ▸ hx)
  zero := by
    have := (List.getElem?_eq_some_iff.mp h.zero).1
    rw [List.getElem?_append_left this]
    exact h.zero
  lt := by
    have := h.lt
    rw [List.length_append]
    omega
  wide := h.wide
  yes := fun i c j' q => by
    have hl := h.len
    by_cases z : i = done.length ∧ c = row.length
    · obtain ⟨rfl, rfl⟩ := z
      rw [nx_more, if_pos ⟨rfl, rfl⟩] at q
      cases q
      exact ⟨p, t, b, by rw [List.getElem?_append_left (List.getElem?_eq_some_iff.mp hp).1]; exact hp, ht, hb, by rw [List.getElem?_append_right (by omega), hl, Nat.sub_self]; rfl⟩
    · rw [nx_more, if_neg z] at q
      obtain ⟨p', t', b', e1, e2, e3, e4⟩ := h.yes i c j' q
      exact ⟨p', t', b', by rw [List.getElem?_append_left (List.getElem?_eq_some_iff.mp e1).1]; exact e1, e2, e3, by rw [List.getElem?_append_left (List.getElem?_eq_some_iff.mp e4).1]; exact e4⟩
  no := fun i c p' t' hi q hp' ht' => by
    have hd := (List.getElem?_eq_some_iff.mp hp).1
    by_cases z : i = done.length ∧ c = row.length
    · rw [nx_more, if_pos z] at q
      cases q
    · rw [nx_more, if_neg z] at q
      rw [List.length_append, List.length_singleton] at hi
      refine h.no i c p' t' (by omega) q ?_ ht'
      rw [List.getElem?_append_left (by omega)] at hp'
      exact hp'
  ord := fun j1 h1 h2 => by
    have hd := (List.getElem?_eq_some_iff.mp hp).1
    have hl := h.len
    rw [List.length_append, List.length_singleton] at h2
    by_cases y : j1 < picked.length
    · obtain ⟨i, c, g1, g2, g3⟩ := h.ord j1 h1 y
      have g4 := nx_over g2
      refine ⟨i, c, g1, by rw [nx_more, if_neg (by omega)]; exact g2, fun i' c' j' q hj' => ?_⟩
      by_cases z : i' = done.length ∧ c' = row.length
      · omega
      · rw [nx_more, if_neg z] at q
        exact g3 i' c' j' q hj'
    · have : j1 = picked.length := by omega
      subst this
      refine ⟨done.length, row.length, hd, by rw [nx_more, if_pos ⟨rfl, rfl⟩], fun i' c' j' q hj' => ?_⟩
      by_cases z : i' = done.length ∧ c' = row.length
      · omega
      · rw [nx_more, if_neg z] at q
        obtain ⟨_, _, _, _, _, _, e4⟩ := h.yes i' c' j' q
        have := (List.getElem?_eq_some_iff.mp e4).1
        omega
/-- a whole row -/
theorem NI.whole (h : NI rs L bl picked nums done row) (hl : row.length = L) (hd : done.length < picked.length) : NI rs L bl picked nums (done ++ [row]) [] where
  bls := h.bls
  nd := h.nd
  zero := h.zero
  lt := by
    rw [List.length_append, List.length_singleton]
    exact hd
  wide := fun r hr => by
    rcases List.mem_append.mp hr with hr | hr
    · exact h.wide r hr
    · rw [List.mem_singleton.mp hr]
      exact hl
  yes := fun i c j q => by
    rw [nx_new] at q
    exact h.yes i c j q
  no := fun i c p t hi q hp ht => by
    rw [nx_new] at q
    rw [List.length_append, List.length_singleton] at hi
    refine h.no i c p t ?_ q hp ht
    rcases hi with ⟨g1, g2⟩ | ⟨_, g⟩
    · by_cases z : i = done.length
      · right
        omega
      · left
        omega
    · exact absurd g (Nat.not_lt_zero _)
  ord := fun j h1 h2 => by
    obtain ⟨i, c, g1, g2, g3⟩ := h.ord j h1 h2
    refine ⟨i, c, g1, by rw [nx_new]; exact g2, fun i' c' j' q hj => ?_⟩
    rw [nx_new] at q
    exact g3 i' c' j' q hj
theorem nodup_at {xs : List Nat} (h : xs.Nodup) {i j b : Nat} (h1 : xs[i]? = some b) (h2 : xs[j]? = some b) : i = j := by
  have l1 := (List.getElem?_eq_some_iff.mp h1).1
  exact (List.getElem?_inj l1 h).mp (h1.trans h2.symm)
/-- all rows made: the smallest machine -/
theorem NI.canon (h : NI rs L bl picked nums done []) (B : PB rs es L bl) (hd : done.length = picked.length) : Canon rs es L picked done (picked.map fun p => es.getD p false) where
  lo := hd
  le := List.length_map _
  zero := h.zero
  live := fun p hp => by
    obtain ⟨i, hi⟩ := List.mem_iff_getElem?.mp hp
    obtain ⟨b, _, hb⟩ := h.at_ hi
    exact (B.inn p b hb).2
  one := fun i j p q hp hq e => by
    obtain ⟨b, h1, h2⟩ := h.at_ hp
    obtain ⟨b', h3, h4⟩ := h.at_ hq
    have := (B.same p q b h2).mpr ⟨⟨b', h4⟩, e⟩
    rw [h4] at this
    have := Option.some.inj this
    subst this
    exact nodup_at h.nd h1 h3
  wide := h.wide
  ends := fun i p hp => by
    rw [List.getElem?_map, hp]
    rfl
  some_ := fun i p c j hp hj => by
    rw [← nx_new] at hj
    obtain ⟨p', t, b, e1, e2, e3, e4⟩ := h.yes i c j hj
    have : p' = p := Option.some.inj (e1.symm.trans hp)
    subst this
    have hjl := (List.getElem?_eq_some_iff.mp e4).1
    rw [← h.len] at hjl
    obtain ⟨b', f1, f2⟩ := h.at_ (List.getElem?_eq_getElem hjl)
    have : b' = b := Option.some.inj (f1.symm.trans e4)
    subst this
    exact ⟨t, _, ⟨e2, (B.inn t b' e3).2⟩, List.getElem?_eq_getElem hjl, ((B.same t _ b' e3).mp f2).2⟩
  none_ := fun i p c t hp hc hn w => by
    rw [← nx_new] at hn
    have hi := (List.getElem?_eq_some_iff.mp hp).1
    have := h.no i c p t (.inl ⟨by omega, hc⟩) hn hp w.1
    obtain ⟨b, _, hb⟩ := h.at_ hp
    obtain ⟨b', hb'⟩ := B.on p b c t hb w
    rw [this] at hb'
    cases hb'
  over := fun p c t _ w => (nx_lt B.wide w.1).2.1
  ord := fun j h1 h2 => by
    obtain ⟨i, c, g1, g2, g3⟩ := h.ord j h1 h2
    rw [nx_new] at g2
    refine ⟨i, c, g1, g2, fun i' c' j' q hj => ?_⟩
    rw [← nx_new] at q
    exact g3 i' c' j' q hj
end
/-! ### lots that are split: the lists that hold them -/
theorem cnt_in : ∀ (xs : List Nat), xs.Nodup → ∀ ys : List Nat, ys.Nodup → (∀ y ∈ ys, y ∈ xs) → (xs.filter fun x => decide (x ∈ ys)).length = ys.length
  | [], _, ys, _, h => by
    cases ys with
    | nil => rfl
    | cons y ys => exact absurd (h y List.mem_cons_self) List.not_mem_nil
  | x :: xs, nd, ys, ndy, h => by
    obtain ⟨n1, n2⟩ := List.nodup_cons.mp nd
    by_cases hx : x ∈ ys
    · have e : xs.filter (fun z => decide (z ∈ ys)) = xs.filter (fun z => decide (z ∈ ys.erase x)) := List.filter_congr fun z hz => by
        have zx : z ≠ x := fun e => n1 (e ▸ hz)
        rw [decide_eq_decide]
        exact (List.mem_erase_of_ne zx).symm
      have ih := cnt_in xs n2 (ys.erase x) (ndy.erase x) fun y hy => by
        have h1 := h y (List.mem_of_mem_erase hy)
        rcases List.mem_cons.mp h1 with rfl | h1
        · exact absurd hy (ndy.not_mem_erase)
        · exact h1
      rw [List.filter_cons, if_pos (decide_eq_true hx), List.length_cons, e, ih, List.length_erase_of_mem hx]
      have := List.length_pos_of_mem hx
      omega
    · rw [List.filter_cons, if_neg (by rw [decide_eq_true_eq]; exact hx)]
      exact cnt_in xs n2 ys ndy fun y hy => by
        rcases List.mem_cons.mp (h y hy) with rfl | h1
        · exact absurd hy hx
        · exact h1
theorem cnt_split (p : Nat → Bool) : ∀ xs : List Nat, (xs.filter p).length + (xs.filter fun x => !(p x)).length = xs.length
  | [] => rfl
  | x :: xs => by
    have ih := cnt_split p xs
    rw [List.filter_cons, List.filter_cons]
    cases p x
    · rw [if_neg (by decide), if_pos (by decide), List.length_cons, List.length_cons]
      omega
    · rw [if_pos (by decide), if_neg (by decide), List.length_cons, List.length_cons]
      omega
theorem cnt_out {xs ys : List Nat} (nx : xs.Nodup) (ny : ys.Nodup) (h : ∀ y ∈ ys, y ∈ xs) : (xs.filter fun x => !(decide (x ∈ ys))).length + ys.length = xs.length := by
  have h1 := cnt_in xs nx ys ny h
  have h2 := cnt_split (fun x => decide (x ∈ ys)) xs
  omega
theorem cnt_all {xs ys : List Nat} (nx : xs.Nodup) (ny : ys.Nodup) (h : ∀ y ∈ ys, y ∈ xs) (l : xs.length ≤ ys.length) : ∀ x ∈ xs, x ∈ ys := fun x hx => by
  have h1 := cnt_out nx ny h
  have h2 : xs.filter (fun x => !(decide (x ∈ ys))) = [] := List.eq_nil_of_length_eq_zero (by omega)
  by_cases z : x ∈ ys
  · exact z
  · have : x ∈ xs.filter (fun x => !(decide (x ∈ ys))) := List.mem_filter.mpr ⟨hx, by rw [decide_eq_false z]; rfl⟩
    rw [h2] at this
    exact absurd this List.not_mem_nil
def bv (block : List (Option Nat)) (s : Nat) : Option Nat := block.getD s none
def isB (block : List (Option Nat)) (b s : Nat) : Bool := decide (bv block s = some b)
/-- the lists go along with one another -/
structure RI (n T : Nat) (block : List (Option Nat)) (mem : List (List Nat)) (sizes : List Nat) : Prop where
  lb : block.length = n
  ms : mem.length = sizes.length
  lt : ∀ s b, bv block s = some b → b < mem.length
  sub : ∀ s b, bv block s = some b → s ∈ mem.getD b []
  nd : ∀ b, (mem.getD b []).Nodup
  szs : ∀ b, b < mem.length → sizes.getD b 0 = ((mem.getD b []).filter (isB block b)).length
  pos : ∀ z ∈ sizes, 1 ≤ z
  sum : sizes.sum = T
  inn : ∀ b s, s ∈ mem.getD b [] → s < n
theorem sum_ge : ∀ {zs : List Nat}, (∀ z ∈ zs, 1 ≤ z) → zs.length ≤ zs.sum
  | [], _ => Nat.le_refl _
  | z :: zs, h => by
    have h1 := sum_ge fun y hy => h y (List.mem_cons_of_mem z hy)
    have h2 := h z List.mem_cons_self
    rw [List.sum_cons, List.length_cons]
    omega
theorem RI.many {n T : Nat} {block : List (Option Nat)} {mem : List (List Nat)} {sizes : List Nat} (h : RI n T block mem sizes) : mem.length ≤ T := by
  rw [h.ms, ← h.sum]
  exact sum_ge h.pos
/-- each of the moved gets the new number -/
def mark (m : Nat) (block : List (Option Nat)) (moved : List Nat) : List (Option Nat) := moved.foldl (fun b s => b.set s (some m)) block
theorem mark_len (m : Nat) : ∀ (moved : List Nat) (block : List (Option Nat)), (mark m block moved).length = block.length
  | [], _ => rfl
  | s :: moved, block => by
    show (mark m (block.set s (some m)) moved).length = _
    rw [mark_len m moved, List.length_set]
theorem bv_set {block : List (Option Nat)} {s t : Nat} {v : Option Nat} (h : s < block.length) : bv (block.set s v) t = if t = s then v else bv block t := by
  unfold bv
  rw [List.getD_eq_getElem?_getD, List.getD_eq_getElem?_getD, List.getElem?_set]
  by_cases e : s = t
  · subst e
    rw [if_pos rfl, if_pos h, if_pos rfl]
    rfl
  · rw [if_neg e, if_neg (fun z => e z.symm)]
theorem bv_mark (m : Nat) : ∀ (moved : List Nat) (block : List (Option Nat)), (∀ s ∈ moved, s < block.length) → ∀ t, bv (mark m block moved) t = if t ∈ moved then some m else bv block t
  | [], _, _, t => by
    rw [if_neg List.not_mem_nil]
    rfl
  | s :: moved, block, h, t => by
    show bv (mark m (block.set s (some m)) moved) t = _
    have hs := h s List.mem_cons_self
    rw [bv_mark m moved _ (fun z hz => by rw [List.length_set]; exact h z (List.mem_cons_of_mem s hz)) t, bv_set hs]
    by_cases e1 : t ∈ moved
    · rw [if_pos e1, if_pos (List.mem_cons_of_mem s e1)]
    · rw [if_neg e1]
      by_cases e2 : t = s
      · rw [if_pos e2, if_pos (by rw [e2]; exact List.mem_cons_self)]
      · rw [if_neg e2, if_neg (by rw [List.mem_cons]; exact fun q => q.elim e2 e1)]
theorem bv_lt {block : List (Option Nat)} {s b : Nat} (h : bv block s = some b) : s < block.length := by
  unfold bv at h
  rw [List.getD_eq_getElem?_getD] at h
  rcases Nat.lt_or_ge s block.length with l | l
  · exact l
  · rw [List.getElem?_eq_none l] at h
    cases h
section
variable {n T : Nat} {block : List (Option Nat)} {mem : List (List Nat)} {sizes : List Nat}
theorem getD_at {α : Type} {xs : List α} {i : Nat} {d : α} (h : i < xs.length) : xs.getD i d = xs[i] := by
  rw [List.getD_eq_getElem?_getD, List.getElem?_eq_getElem h]
  rfl
theorem sum_set : ∀ {zs : List Nat} {i v : Nat} (h : i < zs.length), (zs.set i v).sum + zs[i] = zs.sum + v
  | z :: zs, 0, v, _ => by
    rw [List.set_cons_zero, List.sum_cons, List.sum_cons, List.getElem_cons_zero]
    omega
  | z :: zs, i + 1, v, h => by
    have h' : i < zs.length := by
      rw [List.length_cons] at h
      omega
    have := sum_set (v := v) h'
    rw [List.set_cons_succ, List.sum_cons, List.sum_cons, List.getElem_cons_succ]
    omega
theorem RI.szs' (h : RI n T block mem sizes) {b : Nat} (hb : b < mem.length) (hb' : b < sizes.length) : sizes[b] = ((mem.getD b []).filter (isB block b)).length := by
  rw [← h.szs b hb, getD_at hb']
/-- a part of a lot gets a number of its own -/
theorem RI.move (h : RI n T block mem sizes) {old : Nat} {moved : List Nat} (ho : old < mem.length) (nd : moved.Nodup) (hm : ∀ s ∈ moved, bv block s = some old) (h1 : 1 ≤ moved.length) (h2 : moved.length < sizes.getD old 0) :
    RI n T (mark mem.length block moved) (mem ++ [moved]) ((sizes ++ [moved.length]).set old (sizes.getD old 0 - moved.length)) := by
  have hms := h.ms
  have hos : old < sizes.length := by omega
  have hin : ∀ s ∈ moved, s < block.length := fun s hs => bv_lt (hm s hs)
  have bvm := bv_mark mem.length moved block hin
  have gm : ∀ b, b < mem.length → (mem ++ [moved]).getD b [] = mem.getD b [] := fun b hb => by
    rw [List.getD_eq_getElem?_getD, List.getElem?_append_left hb, List.getD_eq_getElem?_getD]
  have gn : (mem ++ [moved]).getD mem.length [] = moved := by
    rw [List.getD_eq_getElem?_getD, List.getElem?_append_right (Nat.le_refl _), Nat.sub_self]
    rfl
  have hz := getD_at (d := 0) hos
  have gs : (sizes ++ [moved.length])[old]'(by rw [List.length_append]; omega) = sizes[old] := List.getElem_append_left hos
  refine ⟨?_, ?_, fun s b e => ?_, fun s b e => ?_, fun b => ?_, fun b hb => ?_, fun z hz' => ?_, ?_, fun b s hs => ?_⟩
  · rw [mark_len, h.lb]
  · rw [List.length_append, List.length_set, List.length_append, hms]
    rfl
  · rw [bvm] at e
    rw [List.length_append, List.length_singleton]
    split at e
    · have := Option.some.inj e
      omega
    · have := h.lt s b e
      omega
  · rw [bvm] at e
    split at e
    · have := Option.some.inj e
      subst this
      rw [gn]
      assumption
    · rw [gm b (h.lt s b e)]
      exact h.sub s b e
  · rcases Nat.lt_trichotomy b mem.length with l | l | l
    · rw [gm b l]
      exact h.nd b
    · rw [l, gn]
      exact nd
    · rw [List.getD_eq_getElem?_getD, List.getElem?_eq_none (by rw [List.length_append, List.length_singleton]; omega)]
      exact List.nodup_nil
  · rw [List.length_append, List.length_singleton] at hb
    by_cases e1 : b = mem.length
    · rw [e1, gn, List.filter_eq_self.mpr (fun s hs => by unfold isB; rw [bvm, if_pos hs]; exact decide_eq_true rfl), List.getD_eq_getElem?_getD, List.getElem?_set_ne (by omega), List.getElem?_append_right (by omega), hms, Nat.sub_self]
      rfl
    · have hb1 : b < mem.length := by omega
      rw [gm b hb1]
      by_cases e2 : b = old
      · subst e2
        have e3 : (mem.getD b []).filter (isB (mark mem.length block moved) b) = ((mem.getD b []).filter (isB block b)).filter fun x => !(decide (x ∈ moved)) := by
          rw [List.filter_filter]
          refine List.filter_congr fun s hs => ?_
          unfold isB
          rw [bvm]
          by_cases z : s ∈ moved
          · rw [if_pos z, decide_eq_true z]
            exact decide_eq_false (fun q => e1 (Option.some.inj q).symm)
          · rw [if_neg z, decide_eq_false z]
            rfl
        have e4 := cnt_out ((h.nd b).filter (isB block b)) nd fun y hy => List.mem_filter.mpr ⟨h.sub y b (hm y hy), decide_eq_true (hm y hy)⟩
        have e5 := h.szs b hb1
        rw [e3, List.getD_eq_getElem?_getD, List.getElem?_set_self (by rw [List.length_append]; omega), Option.getD_some]
        omega
      · have e3 : (mem.getD b []).filter (isB (mark mem.length block moved) b) = (mem.getD b []).filter (isB block b) := List.filter_congr fun s hs => by
          unfold isB
          rw [bvm]
          by_cases z : s ∈ moved
          · rw [if_pos z, decide_eq_false (fun q => e1 (Option.some.inj q).symm), decide_eq_false (fun q => e2 (Option.some.inj (q.symm.trans (hm s z))))]
          · rw [if_neg z]
        rw [e3, ← h.szs b hb1, List.getD_eq_getElem?_getD, List.getElem?_set_ne (fun q => e2 q.symm), List.getElem?_append_left (by omega), List.getD_eq_getElem?_getD]
  · rcases List.mem_or_eq_of_mem_set hz' with q | q
    · rcases List.mem_append.mp q with q | q
      · exact h.pos z q
      · rw [List.mem_singleton.mp q]
        exact h1
    · omega
  · have e1 := sum_set (zs := sizes ++ [moved.length]) (v := sizes.getD old 0 - moved.length) (show old < (sizes ++ [moved.length]).length by rw [List.length_append]; omega)
    rw [gs, List.sum_append] at e1
    have e2 := h.sum
    have e3 : [moved.length].sum = moved.length := by simp
    omega
  · rcases Nat.lt_trichotomy b mem.length with l | l | l
    · rw [gm b l] at hs
      exact h.inn b s hs
    · rw [l, gn] at hs
      rw [← h.lb]
      exact hin s hs
    · rw [List.getD_eq_getElem?_getD, List.getElem?_eq_none (by rw [List.length_append, List.length_singleton]; omega)] at hs
      exact absurd hs List.not_mem_nil
/-- those that went away from a lot are dropped from its list -/
theorem RI.clean (h : RI n T block mem sizes) {b : Nat} (hb : b < mem.length) : RI n T block (mem.set b ((mem.getD b []).filter (isB block b))) sizes := by
  have g : ∀ c, (mem.set b ((mem.getD b []).filter (isB block b))).getD c [] = if c = b then (mem.getD b []).filter (isB block b) else mem.getD c [] := fun c => by
    rw [List.getD_eq_getElem?_getD]
    by_cases e : c = b
    · rw [e, List.getElem?_set_self hb, if_pos rfl]
      rfl
    · rw [List.getElem?_set_ne (fun z => e z.symm), if_neg e, List.getD_eq_getElem?_getD]
  refine ⟨h.lb, by rw [List.length_set]; exact h.ms, fun s c e => by rw [List.length_set]; exact h.lt s c e, fun s c e => ?_, fun c => ?_, fun c hc => ?_, h.pos, h.sum, fun c s hs => ?_⟩
  · rw [g]
    split
    · rename_i q
      rw [q] at e
      exact List.mem_filter.mpr ⟨h.sub s b e, decide_eq_true e⟩
    · exact h.sub s c e
  · rw [g]
    split
    · exact (h.nd b).filter _
    · exact h.nd c
  · rw [List.length_set] at hc
    rw [h.szs c hc, g]
    split
    · rename_i q
      rw [q, List.filter_filter]
      simp
    · rfl
  · rw [g] at hs
    split at hs
    · exact h.inn b s (List.mem_filter.mp hs).1
    · exact h.inn c s hs
end
/-! ### splitting, without the lists -/
/-- in S just one of the two -/
def Oddly (S : Nat → Prop) (p q : Nat) : Prop := (S p ∧ ¬ S q) ∨ (¬ S p ∧ S q)
/-- two of one lot that c leads to unlike lots: one of these waits, or c has still to be looked at -/
def Inv (rs : Rws) (bl : Nat → Option Nat) (wt : Nat → Prop) (S : Nat → Prop) (c0 : Nat) : Prop :=
  ∀ (s t b c p q bp bq : Nat), bl s = some b → bl t = some b → nx rs s c = some p → nx rs t c = some q → bl p = some bp → bl q = some bq → bp ≠ bq → wt bp ∨ wt bq ∨ (c0 ≤ c ∧ Oddly S p q)
/-- states with the same words are in one lot -/
def Sound (rs : Rws) (es : List Bool) (bl : Nat → Option Nat) : Prop := ∀ (s t b b' : Nat), bl s = some b → bl t = some b' → Eqv rs es rs es s t → b = b'
/-- two of one lot end alike, and are led to lots alike -/
def Alike (rs : Rws) (es : List Bool) (bl : Nat → Option Nat) : Prop := ∀ (s t b : Nat), bl s = some b → bl t = some b → es.getD s false = es.getD t false ∧ ∀ c p b', nx rs s c = some p → bl p = some b' → ∃ q b2, nx rs t c = some q ∧ bl q = some b2
/-- bl' is bl but for the moved, which get m -/
structure Moved (bl bl' : Nat → Option Nat) (old m : Nat) (M : Nat → Prop) : Prop where
  all : ∀ s, M s → bl s = some old
  new : ∀ s, bl s ≠ some m
  yes : ∀ s, M s → bl' s = some m
  no : ∀ s, ¬ M s → bl' s = bl s
section
variable {rs : Rws} {es : List Bool} {bl bl' : Nat → Option Nat} {wt wt' S M : Nat → Prop} {old m c0 : Nat}
theorem Moved.of (h : Moved bl bl' old m M) {s b : Nat} (e : bl' s = some b) : ∃ b0, bl s = some b0 ∧ ((M s ∧ b0 = old ∧ b = m) ∨ (¬ M s ∧ b0 = b ∧ b ≠ m)) := by
  by_cases z : M s
  · have := h.yes s z
    rw [this] at e
    exact ⟨old, h.all s z, .inl ⟨z, rfl, (Option.some.inj e).symm⟩⟩
  · rw [h.no s z] at e
    exact ⟨b, e, .inr ⟨z, rfl, fun q => h.new s (q ▸ e)⟩⟩
theorem Moved.dom (h : Moved bl bl' old m M) (s : Nat) : (∃ b, bl' s = some b) ↔ ∃ b, bl s = some b := by
  by_cases z : M s
  · exact ⟨fun _ => ⟨_, h.all s z⟩, fun _ => ⟨_, h.yes s z⟩⟩
  · rw [h.no s z]
theorem Moved.one (h : Moved bl bl' old m M) {s t b : Nat} (e : bl' s = some b) (f : bl' t = some b) : ∃ b0, bl s = some b0 ∧ bl t = some b0 ∧ (M s ↔ M t) := by
  obtain ⟨b1, h1, g1⟩ := h.of e
  obtain ⟨b2, h2, g2⟩ := h.of f
  rcases g1 with ⟨m1, x1, y1⟩ | ⟨m1, x1, y1⟩
  · rcases g2 with ⟨m2, x2, y2⟩ | ⟨m2, x2, y2⟩
    · exact ⟨old, x1 ▸ h1, x2 ▸ h2, ⟨fun _ => m2, fun _ => m1⟩⟩
    · exact absurd y1 y2
  · rcases g2 with ⟨m2, x2, y2⟩ | ⟨m2, x2, y2⟩
    · exact absurd y2 y1
    · exact ⟨b, x1 ▸ h1, x2 ▸ h2, ⟨fun q => absurd q m1, fun q => absurd q m2⟩⟩
theorem Inv.move (h : Inv rs bl wt S c0) (mv : Moved bl bl' old m M) (w1 : wt old → wt' old ∧ wt' m) (w2 : wt' old ∨ wt' m) (w3 : ∀ b, b ≠ old → b ≠ m → wt b → wt' b) (w4 : ¬ wt m) : Inv rs bl' wt' S c0 := by
  intro s t b c p q bp bq es et hp hq ep eq ne
  obtain ⟨b0, h1, h2, _⟩ := mv.one es et
  obtain ⟨b1, h3, g3⟩ := mv.of ep
  obtain ⟨b2, h4, g4⟩ := mv.of eq
  have up : ∀ {y z x : Nat}, wt y → ((M x ∧ y = old ∧ z = m) ∨ (¬ M x ∧ y = z ∧ z ≠ m)) → wt' z := fun {y z x} hw g => by
    rcases g with ⟨_, e1, e2⟩ | ⟨_, e1, e2⟩
    · rw [e2]
      exact (w1 (e1 ▸ hw)).2
    · rw [← e1]
      by_cases q : y = old
      · rw [q]
        exact (w1 (q ▸ hw)).1
      · exact w3 _ q (by rw [e1]; exact e2) hw
  by_cases z : b1 = b2
  · have key : wt' bp ∨ wt' bq := by
      rcases g3 with ⟨m1, x1, y1⟩ | ⟨m1, x1, y1⟩
      · rcases g4 with ⟨m2, x2, y2⟩ | ⟨m2, x2, y2⟩
        · exact absurd (y1.trans y2.symm) ne
        · rw [y1, ← x2, ← z, x1]
          exact w2.symm
      · rcases g4 with ⟨m2, x2, y2⟩ | ⟨m2, x2, y2⟩
        · rw [y2, ← x1, z, x2]
          exact w2
        · exact absurd (x1.symm.trans (z.trans x2)) ne
    rcases key with k | k
    · exact .inl k
    · exact .inr (.inl k)
  · rcases h s t b0 c p q b1 b2 h1 h2 hp hq h3 h4 z with k | k | k
    · exact .inl (up k g3)
    · exact .inr (.inl (up k g4))
    · exact .inr (.inr k)
theorem Inv.start {x : Nat} {L : Nat} {S0 : Nat → Prop} (h : Inv rs bl wt S0 L) (wide : ∀ r ∈ rs, r.length = L) (hS : ∀ s, S s ↔ bl s = some x) (hw : ∀ b, wt b → b ≠ x → wt' b) : Inv rs bl wt' S 0 := by
  intro s t b c p q bp bq es et hp hq ep eq ne
  by_cases z1 : bp = x
  · refine .inr (.inr ⟨Nat.zero_le _, .inl ⟨(hS p).mpr (z1 ▸ ep), fun k => ?_⟩⟩)
    have := (hS q).mp k
    rw [eq] at this
    exact ne (z1.trans (Option.some.inj this).symm)
  · by_cases z2 : bq = x
    · refine .inr (.inr ⟨Nat.zero_le _, .inr ⟨fun k => ?_, (hS q).mpr (z2 ▸ eq)⟩⟩)
      have := (hS p).mp k
      rw [ep] at this
      exact z1 (Option.some.inj this)
    · rcases h s t b c p q bp bq es et hp hq ep eq ne with k | k | k
      · exact .inl (hw _ k z1)
      · exact .inr (.inl (hw _ k z2))
      · have := (nx_lt wide hp).2.1
        omega
/-- no two of one lot are told apart by being led into S -/
def Sep (bl : Nat → Option Nat) (M : Nat → Prop) : Prop := ∀ (s t b : Nat), bl s = some b → bl t = some b → (M s ↔ M t)
theorem Inv.letter (h : Inv rs bl wt S c0) (hM : ∀ (s p b b' : Nat), bl s = some b → nx rs s c0 = some p → bl p = some b' → (M s ↔ S p)) (sep : Sep bl M) : Inv rs bl wt S (c0 + 1) := by
  intro s t b c p q bp bq es et hp hq ep eq ne
  rcases h s t b c p q bp bq es et hp hq ep eq ne with k | k | ⟨k1, k2⟩
  · exact .inl k
  · exact .inr (.inl k)
  · by_cases z : c = c0
    · subst z
      have e1 := hM s p b bp es hp ep
      have e2 := hM t q b bq et hq eq
      have e3 := sep s t b es et
      exfalso
      rcases k2 with ⟨k, k'⟩ | ⟨k, k'⟩
      · exact k' (e2.mp (e3.mp (e1.mpr k)))
      · exact k (e1.mp (e3.mpr (e2.mpr k')))
    · exact .inr (.inr ⟨by omega, k2⟩)
/-- a lot of which no two ever were the same, cut by what is the same for the same -/
theorem Sound.move (h : Sound rs es bl) (mv : Moved bl bl' old m M) (hM : ∀ (s t : Nat), bl s = some old → bl t = some old → Eqv rs es rs es s t → M s → M t) : Sound rs es bl' := by
  intro s t b b' es' et e
  obtain ⟨b1, h1, g1⟩ := mv.of es'
  obtain ⟨b2, h2, g2⟩ := mv.of et
  have eb := h s t b1 b2 h1 h2 e
  rcases g1 with ⟨m1, x1, y1⟩ | ⟨m1, x1, y1⟩
  · rcases g2 with ⟨m2, x2, y2⟩ | ⟨m2, x2, y2⟩
    · exact y1.trans y2.symm
    · exact absurd (hM s t (by rw [h1, x1]) (by rw [h2, ← eb, x1]) e m1) m2
  · rcases g2 with ⟨m2, x2, y2⟩ | ⟨m2, x2, y2⟩
    · exact absurd (hM t s (by rw [h2, x2]) (by rw [h1, eb, x2]) e.symm m2) m1
    · exact x1.symm.trans (eb.trans x2)
theorem Alike.move (h : Alike rs es bl) (mv : Moved bl bl' old m M) : Alike rs es bl' := by
  intro s t b e1 e2
  obtain ⟨b0, h1, h2, _⟩ := mv.one e1 e2
  obtain ⟨k1, k2⟩ := h s t b0 h1 h2
  refine ⟨k1, fun c p b' hp hb => ?_⟩
  obtain ⟨b3, hb3⟩ := (mv.dom p).mp ⟨b', hb⟩
  obtain ⟨q, b4, hq, hb4⟩ := k2 c p b3 hp hb3
  obtain ⟨b5, hb5⟩ := (mv.dom q).mpr ⟨b4, hb4⟩
  exact ⟨q, b5, hq, hb5⟩
/-- nothing waits: two of one lot have the same words -/
theorem inv_done {S0 : Nat → Prop} {L : Nat} (h : Inv rs bl wt S0 L) (wide : ∀ r ∈ rs, r.length = L) (al : Alike rs es bl) (nw : ∀ b, ¬ wt b) (on : ∀ (s b c t : Nat), bl s = some b → Way rs es s c t → ∃ b', bl t = some b') : ∀ (w : List Nat) (s t b : Nat), bl s = some b → bl t = some b → acc rs es w s = true → acc rs es w t = true
  | [], s, t, b, hs, ht, e => by
    show es.getD t false = true
    rw [← (al s t b hs ht).1]
    exact e
  | c :: w, s, t, b, hs, ht, e => by
    cases ep : nx rs s c with
    | none =>
      rw [acc_none ep] at e
      cases e
    | some p =>
      rw [acc_cons ep] at e
      obtain ⟨bp, hbp⟩ := on s b c p hs ⟨ep, w, e⟩
      obtain ⟨q, bq, eq, hbq⟩ := (al s t b hs ht).2 c p bp ep hbp
      rw [acc_cons eq]
      by_cases z : bp = bq
      · exact inv_done h wide al nw on w p q bp hbp (z ▸ hbq) e
      · rcases h s t b c p q bp bq hs ht ep eq hbp hbq z with k | k | ⟨k, _⟩
        · exact absurd k (nw _)
        · exact absurd k (nw _)
        · have := (nx_lt wide ep).2.1
          omega
/-- so the lots are right -/
theorem pb_done {S0 : Nat → Prop} {L : Nat} (h : Inv rs bl wt S0 L) (wide : ∀ r ∈ rs, r.length = L) (tgt : ∀ r ∈ rs, ∀ t, some t ∈ r → t < rs.length) (al : Alike rs es bl) (so : Sound rs es bl) (nw : ∀ b, ¬ wt b) (inn : ∀ (s b : Nat), bl s = some b → s < rs.length ∧ Live rs es s)
    (on : ∀ (s b c t : Nat), bl s = some b → Way rs es s c t → ∃ b', bl t = some b') : PB rs es L bl where
  wide := wide
  tgt := tgt
  inn := inn
  same := fun s t b hs => by
    refine ⟨fun ht => ⟨⟨b, ht⟩, fun w => ?_⟩, fun ⟨⟨b', hb'⟩, e⟩ => ?_⟩
    · have h1 := inv_done h wide al nw on w s t b hs ht
      have h2 := inv_done h wide al nw on w t s b ht hs
      cases e1 : acc rs es w s with
      | true => exact (h1 e1).symm
      | false =>
        cases e2 : acc rs es w t with
        | false => rfl
        | true =>
          rw [h2 e2] at e1
          cases e1
    · rw [so s t b b' hs hb' e]
      exact hb'
  on := on
end
/-! ### splitting, with the lists -/
def wv (wait : List Bool) (b : Nat) : Prop := wait.getD b false = true
structure TI (rs : Rws) (es : List Bool) (R : Nat → Prop) (T : Nat) (block : List (Option Nat)) (mem : List (List Nat)) (sizes : List Nat) (wait : List Bool) (queue : List Nat) (k : Int) (S : Nat → Prop) (c0 : Nat) : Prop where
  ri : RI rs.length T block mem sizes
  wl : wait.length = mem.length
  qn : queue.Nodup
  qw : ∀ b, b ∈ queue ↔ wv wait b
  ql : (queue.length : Int) = mem.length + k
  inv : Inv rs (bv block) (wv wait) S c0
  so : Sound rs es (bv block)
  al : Alike rs es (bv block)
  dom : ∀ s, (∃ b, bv block s = some b) ↔ (R s ∧ Live rs es s)
/-- what was touched, by lots -/
structure TG (P0 : Nat → Option Nat) (touched : List (Nat × List Nat)) (srcs : List Nat) : Prop where
  nd : (touched.map Prod.fst).Nodup
  els : ∀ k l, (k, l) ∈ touched → l = srcs.filter (fun s => decide (P0 s = some k)) ∧ l ≠ []
  all : ∀ s ∈ srcs, ∀ k, P0 s = some k → k ∈ touched.map Prod.fst
structure MI (P0 : Nat → Option Nat) (touched : List (Nat × List Nat)) (srcs : List Nat) (i : Nat) (bl : Nat → Option Nat) : Prop where
  ref : ∀ (s t b : Nat), bl s = some b → bl t = some b → P0 s = P0 t
  sep : ∀ (s t b k : Nat), bl s = some b → bl t = some b → P0 s = some k → (∀ (j : Nat) (l : List Nat), i ≤ j → touched[j]? ≠ some (k, l)) → (s ∈ srcs ↔ t ∈ srcs)
  rest : ∀ (j k : Nat) (l : List Nat), i ≤ j → touched[j]? = some (k, l) → ∀ s, P0 s = some k ↔ bl s = some k
section
variable {P0 bl : Nat → Option Nat} {touched : List (Nat × List Nat)} {srcs : List Nat}
theorem tg_start : TG P0 [] [] := ⟨List.nodup_nil, fun _ _ h => absurd h List.not_mem_nil, fun _ h => absurd h List.not_mem_nil⟩
/-- a first one of its lot -/
theorem TG.fresh (h : TG P0 touched srcs) {s k : Nat} (hs : P0 s = some k) (hk : k ∉ touched.map Prod.fst) : TG P0 (touched ++ [(k, [s])]) (srcs ++ [s]) where
  nd := by
    rw [List.map_append, List.nodup_append]
    refine ⟨h.nd, List.nodup_cons.mpr ⟨List.not_mem_nil, List.nodup_nil⟩, fun x hx y hy => ?_⟩
    rw [List.mem_singleton.mp hy]
    exact fun e => hk ((show x = k from e) ▸ hx)
  els := fun k' l hm => by
    rw [List.filter_append]
    rcases List.mem_append.mp hm with hm | hm
    · obtain ⟨e, ne⟩ := h.els k' l hm
      have : k' ≠ k := fun z => hk (List.mem_map.mpr ⟨(k', l), hm, z⟩)
      rw [List.filter_cons, if_neg (by rw [decide_eq_true_eq, hs]; exact fun z => this (Option.some.inj z).symm), List.filter_nil, List.append_nil]
      exact ⟨e, ne⟩
    · cases List.mem_singleton.mp hm
      have e : srcs.filter (fun s => decide (P0 s = some k)) = [] := List.filter_eq_nil_iff.mpr fun x hx z => hk (h.all x hx k (of_decide_eq_true z))
      rw [e, List.filter_cons, if_pos (decide_eq_true hs), List.filter_nil]
      exact ⟨rfl, List.cons_ne_nil _ _⟩
  all := fun x hx k' e => by
    rw [List.map_append]
    rcases List.mem_append.mp hx with hx | hx
    · exact List.mem_append.mpr (.inl (h.all x hx k' e))
    · rw [List.mem_singleton.mp hx, hs] at e
      cases e
      exact List.mem_append.mpr (.inr List.mem_cons_self)
/-- one more of a lot that was touched -/
theorem TG.more (h : TG P0 touched srcs) {s k i : Nat} {l : List Nat} (hs : P0 s = some k) (hi : touched[i]? = some (k, l)) : TG P0 (touched.set i (k, l ++ [s])) (srcs ++ [s]) where
  nd := by
    have : (touched.set i (k, l ++ [s])).map Prod.fst = touched.map Prod.fst := by
      rw [List.map_set]
      have hl := (List.getElem?_eq_some_iff.mp hi).1
      refine List.ext_getElem? fun j => ?_
      rw [List.getElem?_set]
      split
      · rename_i e
        subst e
        rw [if_pos (by rw [List.length_map]; exact hl), List.getElem?_map, hi]
        rfl
      · rfl
    rw [this]
    exact h.nd
  els := fun k' l' hm => by
    have hl := (List.getElem?_eq_some_iff.mp hi).1
    have one : ∀ j x, touched[j]? = some (k, x) → j = i := fun j x hj => by
      have lj := (List.getElem?_eq_some_iff.mp hj).1
      have := (List.getElem?_inj (by rw [List.length_map]; exact lj) h.nd).mp (show (touched.map Prod.fst)[j]? = (touched.map Prod.fst)[i]? by rw [List.getElem?_map, List.getElem?_map, hj, hi]; rfl)
      exact this
    obtain ⟨e0, n0⟩ := h.els k l (List.mem_of_getElem? hi)
    rw [List.filter_append]
    obtain ⟨j, hj⟩ := List.mem_iff_getElem?.mp hm
    rw [List.getElem?_set] at hj
    split at hj
    · cases hj
      rw [List.filter_cons, if_pos (decide_eq_true hs), List.filter_nil, ← e0]
      exact ⟨rfl, fun z => by cases List.append_eq_nil_iff.mp z with | intro _ z2 => cases z2⟩
    · rename_i ne
      have hk : k' ≠ k := fun z => ne (one j l' (z ▸ hj)).symm
      obtain ⟨e1, n1⟩ := h.els k' l' (List.mem_of_getElem? hj)
      rw [List.filter_cons, if_neg (by rw [decide_eq_true_eq, hs]; exact fun z => hk (Option.some.inj z).symm), List.filter_nil, List.append_nil]
      exact ⟨e1, n1⟩
  all := fun x hx k' e => by
    have hl := (List.getElem?_eq_some_iff.mp hi).1
    have eq : (touched.set i (k, l ++ [s])).map Prod.fst = touched.map Prod.fst := by
      rw [List.map_set]
      refine List.ext_getElem? fun j => ?_
      rw [List.getElem?_set]
      split
      · rename_i e
        subst e
        rw [if_pos (by rw [List.length_map]; exact hl), List.getElem?_map, hi]
        rfl
      · rfl
    rw [eq]
    rcases List.mem_append.mp hx with hx | hx
    · exact h.all x hx k' e
    · rw [List.mem_singleton.mp hx, hs] at e
      cases e
      exact List.mem_map.mpr ⟨(k, l), List.mem_of_getElem? hi, rfl⟩
theorem mi_start (g : TG P0 touched srcs) (dom : ∀ s ∈ srcs, ∃ k, P0 s = some k) : MI P0 touched srcs 0 P0 where
  ref := fun s t b h1 h2 => h1.trans h2.symm
  sep := fun s t b k h1 h2 h3 no => by
    have nk : k ∉ touched.map Prod.fst := fun q => by
      obtain ⟨⟨k', l⟩, hm, e⟩ := List.mem_map.mp q
      obtain ⟨j, hj⟩ := List.mem_iff_getElem?.mp hm
      have e' : k' = k := e
      subst e'
      exact no j l (Nat.zero_le _) hj
    have ne : ∀ x, P0 x = some k → x ∉ srcs := fun x hx hm => nk (g.all x hm k hx)
    have : P0 t = some k := by rw [h2, ← h1, h3]
    exact ⟨fun q => absurd q (ne s h3), fun q => absurd q (ne t this)⟩
  rest := fun _ _ _ _ _ _ => Iff.rfl
theorem keys_ne (g : TG P0 touched srcs) {i j k k' : Nat} {l l' : List Nat} (hi : touched[i]? = some (k, l)) (hj : touched[j]? = some (k', l')) (ne : i ≠ j) : k ≠ k' := fun e => by
  subst e
  have li := (List.getElem?_eq_some_iff.mp hi).1
  exact ne ((List.getElem?_inj (by rw [List.length_map]; exact li) g.nd).mp (show (touched.map Prod.fst)[i]? = (touched.map Prod.fst)[j]? by rw [List.getElem?_map, List.getElem?_map, hi, hj]; rfl))
/-- a lot of which all were touched stays -/
theorem MI.stay (h : MI P0 touched srcs i bl) (g : TG P0 touched srcs) {old : Nat} {l : List Nat} (hi : touched[i]? = some (old, l)) (full : ∀ s, bl s = some old → s ∈ srcs) : MI P0 touched srcs (i + 1) bl where
  ref := h.ref
  sep := fun s t b k h1 h2 h3 no => by
    by_cases z : k = old
    · subst z
      have r := h.rest i k l (Nat.le_refl _) hi
      have h4 : P0 t = some k := by rw [← h.ref s t b h1 h2, h3]
      exact ⟨fun _ => full t ((r t).mp h4), fun _ => full s ((r s).mp h3)⟩
    · refine h.sep s t b k h1 h2 h3 fun j l' hj e => ?_
      by_cases y : j = i
      · subst y
        rw [hi] at e
        cases e
        exact z rfl
      · exact no j l' (by omega) e
  rest := fun j k l' hj => h.rest j k l' (by omega)
/-- a lot of which some were touched is cut -/
theorem MI.cut {bl' : Nat → Option Nat} {m : Nat} (h : MI P0 touched srcs i bl) (g : TG P0 touched srcs) {old : Nat} {l : List Nat} (hi : touched[i]? = some (old, l)) (mv : Moved bl bl' old m (· ∈ l)) (hm : ∀ (j k : Nat) (l' : List Nat), i ≤ j → touched[j]? = some (k, l') → k ≠ m) : MI P0 touched srcs (i + 1) bl' where
  ref := fun s t b h1 h2 => by
    obtain ⟨b0, e1, e2, _⟩ := mv.one h1 h2
    exact h.ref s t b0 e1 e2
  sep := fun s t b k h1 h2 h3 no => by
    obtain ⟨b0, e1, e2, e3⟩ := mv.one h1 h2
    by_cases z : k = old
    · subst z
      have h4 : P0 t = some k := by rw [← h.ref s t b0 e1 e2, h3]
      have el := (g.els k l (List.mem_of_getElem? hi)).1
      have me : ∀ x, P0 x = some k → (x ∈ srcs ↔ x ∈ l) := fun x hx => by
        rw [el, List.mem_filter]
        exact ⟨fun q => ⟨q, decide_eq_true hx⟩, fun q => q.1⟩
      rw [me s h3, me t h4]
      exact e3
    · refine h.sep s t b0 k e1 e2 h3 fun j l' hj e => ?_
      by_cases y : j = i
      · subst y
        rw [hi] at e
        cases e
        exact z rfl
      · exact no j l' (by omega) e
  rest := fun j k l' hj e s => by
    have hk := keys_ne g hi e (by omega)
    have r := h.rest j k l' (by omega) e s
    rw [r]
    by_cases z : s ∈ l
    · rw [mv.all s z, mv.yes s z]
      exact ⟨fun q => absurd (Option.some.inj q) hk, fun q => absurd (Option.some.inj q).symm (hm j k l' (by omega) e)⟩
    · rw [mv.no s z]
theorem MI.done (h : MI P0 touched srcs touched.length bl) (dom : ∀ s b, bl s = some b → ∃ k, P0 s = some k) : Sep bl (· ∈ srcs) := fun s t b h1 h2 => by
  obtain ⟨k, hk⟩ := dom s b h1
  refine h.sep s t b k h1 h2 hk fun j l hj e => ?_
  have := (List.getElem?_eq_some_iff.mp e).1
  omega
end
section
variable {rs : Rws} {es : List Bool} {R : Nat → Prop} {T : Nat} {block : List (Option Nat)} {mem : List (List Nat)} {sizes : List Nat} {wait : List Bool} {queue : List Nat} {k : Int} {S : Nat → Prop} {c0 : Nat}
theorem moved_mark (h : RI rs.length T block mem sizes) {old : Nat} {l : List Nat} (hl : ∀ s ∈ l, bv block s = some old) : Moved (bv block) (bv (mark mem.length block l)) old mem.length (· ∈ l) := by
  have b := bv_mark mem.length l block fun s hs => bv_lt (hl s hs)
  refine ⟨hl, fun s e => ?_, fun s hs => ?_, fun s hs => ?_⟩
  · have := h.lt s _ e
    omega
  · rw [b, if_pos hs]
  · rw [b, if_neg hs]
theorem wv_lt {b : Nat} (h : wv wait b) : b < wait.length := by
  unfold wv at h
  rw [List.getD_eq_getElem?_getD] at h
  rcases Nat.lt_or_ge b wait.length with l | l
  · exact l
  · rw [List.getElem?_eq_none l] at h
    cases h
theorem wv_set {c : Nat} (hc : c ≤ wait.length) (b : Nat) : wv ((wait ++ [false]).set c true) b ↔ b = c ∨ wv wait b := by
  unfold wv
  rw [List.getD_eq_getElem?_getD, List.getD_eq_getElem?_getD, List.getElem?_set]
  by_cases e : c = b
  · subst e
    rw [if_pos rfl, if_pos (by rw [List.length_append, List.length_singleton]; omega)]
    exact ⟨fun _ => .inl rfl, fun _ => rfl⟩
  · rw [if_neg e]
    have : (wait ++ [false])[b]?.getD false = wait[b]?.getD false := by
      rcases Nat.lt_trichotomy b wait.length with l | l | l
      · rw [List.getElem?_append_left l]
      · subst l
        rw [List.getElem?_append_right (Nat.le_refl _), Nat.sub_self, List.getElem?_eq_none (Nat.le_refl _)]
        rfl
      · rw [List.getElem?_eq_none (by rw [List.length_append, List.length_singleton]; omega), List.getElem?_eq_none (by omega)]
    rw [this]
    exact ⟨.inr, fun q => q.resolve_left fun z => e z.symm⟩
/-- a cut, and one of both that waits -/
theorem TI.cut (h : TI rs es R T block mem sizes wait queue k S c0) {old c : Nat} {l : List Nat} (ho : old < mem.length) (nd : l.Nodup) (hl : ∀ s ∈ l, bv block s = some old) (h1 : 1 ≤ l.length) (h2 : l.length < sizes.getD old 0)
    (hM : ∀ (s t : Nat), bv block s = some old → bv block t = some old → Eqv rs es rs es s t → s ∈ l → t ∈ l) (hc : c = mem.length ∨ (c = old ∧ ¬ wv wait old)) :
    TI rs es R T (mark mem.length block l) (mem ++ [l]) ((sizes ++ [l.length]).set old (sizes.getD old 0 - l.length)) ((wait ++ [false]).set c true) (queue ++ [c]) k S c0 := by
  have mv := moved_mark h.ri hl
  have wl := h.wl
  have cl : c ≤ wait.length := by omega
  have nm : ¬ wv wait mem.length := fun q => by
    have := wv_lt q
    omega
  have nc : ¬ wv wait c := by
    rcases hc with rfl | ⟨rfl, q⟩
    · exact nm
    · exact q
  have ws := wv_set cl
  refine ⟨h.ri.move ho nd hl h1 h2, ?_, ?_, fun b => ?_, ?_, h.inv.move mv (fun q => ?_) ?_ (fun b _ _ q => (ws b).mpr (.inr q)) nm, h.so.move mv hM, h.al.move mv, fun s => ?_⟩
  · rw [List.length_set, List.length_append, List.length_append, wl]
    rfl
  · rw [List.nodup_append]
    refine ⟨h.qn, List.nodup_cons.mpr ⟨List.not_mem_nil, List.nodup_nil⟩, fun x hx y hy e => ?_⟩
    rw [List.mem_singleton.mp hy] at e
    subst e
    exact nc ((h.qw x).mp hx)
  · rw [ws, List.mem_append, h.qw, List.mem_singleton]
    exact or_comm
  · have := h.ql
    rw [List.length_append, List.length_append, List.length_singleton, List.length_singleton]
    omega
  · refine ⟨(ws old).mpr (.inr q), (ws _).mpr (.inl ?_)⟩
    rcases hc with e | ⟨_, e⟩
    · exact e.symm
    · exact absurd q e
  · rcases hc with e | ⟨e, _⟩
    · exact .inr ((ws _).mpr (.inl e.symm))
    · exact .inl ((ws _).mpr (.inl e.symm))
  · rw [mv.dom, h.dom]
/-- a lot that waits is taken -/
theorem TI.take {x L : Nat} {S0 : Nat → Prop} (h : TI rs es R T block mem sizes wait (queue ++ [x]) k S0 L) (wide : ∀ r ∈ rs, r.length = L) (hx : x < mem.length) : TI rs es R T block (mem.set x ((mem.getD x []).filter (isB block x))) sizes (wait.set x false) queue (k - 1) (fun s => bv block s = some x) 0 := by
  have wl := h.wl
  have ws : ∀ b, wv (wait.set x false) b ↔ (b ≠ x ∧ wv wait b) := fun b => by
    unfold wv
    rw [List.getD_eq_getElem?_getD, List.getD_eq_getElem?_getD, List.getElem?_set]
    by_cases e : x = b
    · subst e
      rw [if_pos rfl, if_pos (by omega)]
      exact ⟨(fun q => by cases q), fun q => absurd rfl q.1⟩
    · rw [if_neg e]
      exact ⟨fun q => ⟨fun z => e z.symm, q⟩, fun q => q.2⟩
  obtain ⟨n1, n2, n3⟩ := List.nodup_append.mp h.qn
  refine ⟨h.ri.clean hx, by rw [List.length_set, List.length_set]; exact wl, n1, fun b => ?_, ?_, h.inv.start wide (fun _ => Iff.rfl) fun b q z => (ws b).mpr ⟨z, q⟩, h.so, h.al, h.dom⟩
  · have := h.qw b
    rw [List.mem_append, List.mem_singleton] at this
    rw [ws, ← this]
    exact ⟨fun q => ⟨fun z => n3 b q x List.mem_cons_self z, .inl q⟩, fun q => q.2.resolve_right q.1⟩
  · have := h.ql
    rw [List.length_append, List.length_singleton] at this
    rw [List.length_set]
    omega
theorem TI.letter (h : TI rs es R T block mem sizes wait queue k S c0) {srcs : List Nat} (hM : ∀ (s p b b' : Nat), bv block s = some b → nx rs s c0 = some p → bv block p = some b' → (s ∈ srcs ↔ S p)) (sep : Sep (bv block) (· ∈ srcs)) : TI rs es R T block mem sizes wait queue k S (c0 + 1) :=
  ⟨h.ri, h.wl, h.qn, h.qw, h.ql, h.inv.letter hM sep, h.so, h.al, h.dom⟩
theorem TI.done {L : Nat} (h : TI rs es R T block mem sizes wait [] k S L) (wide : ∀ r ∈ rs, r.length = L) (tgt : ∀ r ∈ rs, ∀ t, some t ∈ r → t < rs.length) (rl : ∀ s, R s → s < rs.length) (ron : ∀ s c t, R s → nx rs s c = some t → R t) : PB rs es L (bv block) := by
  refine pb_done h.inv wide tgt h.al h.so (fun b q => ?_) (fun s b e => ?_) fun s b c t e w => ?_
  · exact absurd ((h.qw b).mpr q) List.not_mem_nil
  · have := (h.dom s).mp ⟨b, e⟩
    exact ⟨rl s this.1, this.2⟩
  · have := (h.dom s).mp ⟨b, e⟩
    exact (h.dom t).mpr ⟨ron s c t this.1 w.1, w.2⟩
end
/-! ### the first lots -/
def b2n (b : Bool) : Nat := if b = true then 1 else 0
def signOf (a : Nat) (xs : List Bool) : Nat := xs.foldl (fun a b => 2 * a + b2n b) a
theorem b2n_le (b : Bool) : b2n b ≤ 1 := by
  cases b <;> decide
theorem b2n_inj {a b : Bool} (h : b2n a = b2n b) : a = b := by
  cases a <;> cases b
  · rfl
  · exact absurd h (by decide)
  · exact absurd h (by decide)
  · rfl
theorem sign_inj : ∀ {xs ys : List Bool} {a b : Nat}, xs.length = ys.length → signOf a xs = signOf b ys → a = b ∧ xs = ys
  | [], [], _, _, _, h => ⟨h, rfl⟩
  | [], _ :: _, _, _, l, _ => by cases l
  | _ :: _, [], _, _, l, _ => by cases l
  | x :: xs, y :: ys, a, b, l, h => by
    obtain ⟨h1, h2⟩ := sign_inj (xs := xs) (ys := ys) (a := 2 * a + b2n x) (b := 2 * b + b2n y) (Nat.succ.inj l) h
    have lx := b2n_le x
    have ly := b2n_le y
    have hx : b2n x = b2n y := by omega
    exact ⟨by omega, by rw [b2n_inj hx, h2]⟩
def lvO (lv : Nat → Bool) : Option Nat → Bool
  | none => false
  | some t => lv t
def bitsOf (rs : Rws) (lv : Nat → Bool) (s : Nat) : List Bool := (rs.getD s []).map (lvO lv)
def sgS (rs : Rws) (es : List Bool) (lv : Nat → Bool) (s : Nat) : Nat := signOf (b2n (es.getD s false)) (bitsOf rs lv s)
/-- states put into lots by their signs -/
structure FB (n : Nat) (sg : Nat → Nat) (ds : List Nat) (block : List (Option Nat)) (nums : List Nat) (mem : List (List Nat)) : Prop where
  lb : block.length = n
  bl : ∀ (s b : Nat), bv block s = some b ↔ (s ∈ ds ∧ nums[b]? = some (sg s))
  lm : mem.length = nums.length
  nd : nums.Nodup
  nds : ds.Nodup
  ms : ∀ (b g : Nat), nums[b]? = some g → mem[b]? = some (ds.filter fun s => decide (sg s = g))
  ne : ∀ (b g : Nat), nums[b]? = some g → ∃ s ∈ ds, sg s = g
  al : ∀ s ∈ ds, sg s ∈ nums
  sum : (mem.map List.length).sum = ds.length
section
variable {n : Nat} {sg : Nat → Nat} {ds : List Nat} {block : List (Option Nat)} {nums : List Nat} {mem : List (List Nat)}
theorem fb_start : FB n sg [] (List.replicate n none) [] [] := by
  refine ⟨List.length_replicate, fun s b => ⟨fun h => ?_, fun h => absurd h.1 List.not_mem_nil⟩, rfl, List.nodup_nil, List.nodup_nil, (fun b g h => by cases h), (fun b g h => by cases h), fun s h => absurd h List.not_mem_nil, rfl⟩
  unfold bv at h
  rw [List.getD_eq_getElem?_getD, List.getElem?_replicate] at h
  split at h <;> cases h
theorem FB.fresh (h : FB n sg ds block nums mem) {s : Nat} (hs : s < n) (hd : s ∉ ds) (hn : sg s ∉ nums) : FB n sg (ds ++ [s]) (block.set s (some mem.length)) (nums ++ [sg s]) (mem ++ [[s]]) where
  lb := by rw [List.length_set]; exact h.lb
  bl := fun t b => by
    rw [bv_set (by rw [h.lb]; exact hs)]
    by_cases e : t = s
    · rw [if_pos e, e]
      constructor
      · intro q
        have := Option.some.inj q
        subst this
        exact ⟨List.mem_append.mpr (.inr List.mem_cons_self), by rw [h.lm, List.getElem?_append_right (Nat.le_refl _), Nat.sub_self]; rfl⟩
      · rintro ⟨_, q⟩
        rcases Nat.lt_or_ge b nums.length with l | l
        · rw [List.getElem?_append_left l] at q
          exact absurd (List.mem_of_getElem? q) hn
        · have := (List.getElem?_eq_some_iff.mp q).1
          rw [List.length_append, List.length_singleton] at this
          rw [h.lm]
          exact congrArg some (by omega)
    · rw [if_neg e, h.bl]
      constructor
      · rintro ⟨q1, q2⟩
        exact ⟨List.mem_append.mpr (.inl q1), by rw [List.getElem?_append_left (List.getElem?_eq_some_iff.mp q2).1]; exact q2⟩
      · rintro ⟨q1, q2⟩
        have q1 := (List.mem_append.mp q1).resolve_right fun z => e (List.mem_singleton.mp z)
        refine ⟨q1, ?_⟩
        rcases Nat.lt_or_ge b nums.length with l | l
        · rw [List.getElem?_append_left l] at q2
          exact q2
        · have h1 := (List.getElem?_eq_some_iff.mp q2).1
          rw [List.length_append, List.length_singleton] at h1
          rw [List.getElem?_append_right l, show b - nums.length = 0 by omega] at q2
          have h2 : sg s = sg t := Option.some.inj q2
          exact absurd (h2 ▸ h.al t q1) hn
  lm := by rw [List.length_append, List.length_append, h.lm]; rfl
  nd := by
    rw [List.nodup_append]
    refine ⟨h.nd, List.nodup_cons.mpr ⟨List.not_mem_nil, List.nodup_nil⟩, fun x hx y hy e => ?_⟩
    rw [List.mem_singleton.mp hy] at e
    exact hn (e ▸ hx)
  nds := by
    rw [List.nodup_append]
    refine ⟨h.nds, List.nodup_cons.mpr ⟨List.not_mem_nil, List.nodup_nil⟩, fun x hx y hy e => ?_⟩
    rw [List.mem_singleton.mp hy] at e
    exact hd (e ▸ hx)
  ms := fun b g q => by
    rw [List.filter_append]
    rcases Nat.lt_or_ge b nums.length with l | l
    · rw [List.getElem?_append_left l] at q
      rw [List.getElem?_append_left (by rw [h.lm]; exact l), h.ms b g q, List.filter_cons, if_neg (by rw [decide_eq_true_eq]; exact fun z => hn (z ▸ List.mem_of_getElem? q)), List.filter_nil, List.append_nil]
    · have h1 := (List.getElem?_eq_some_iff.mp q).1
      rw [List.length_append, List.length_singleton] at h1
      rw [List.getElem?_append_right l, show b - nums.length = 0 by omega] at q
      have h2 : sg s = g := Option.some.inj q
      subst h2
      have h3 : ds.filter (fun t => decide (sg t = sg s)) = [] := List.filter_eq_nil_iff.mpr fun x hx z => hn (of_decide_eq_true z ▸ h.al x hx)
      rw [h3, List.getElem?_append_right (by rw [h.lm]; exact l), show b - mem.length = 0 by rw [h.lm]; omega, List.filter_cons, if_pos (decide_eq_true rfl)]
      rfl
  ne := fun b g q => by
    rcases Nat.lt_or_ge b nums.length with l | l
    · rw [List.getElem?_append_left l] at q
      obtain ⟨x, hx, e⟩ := h.ne b g q
      exact ⟨x, List.mem_append.mpr (.inl hx), e⟩
    · have h1 := (List.getElem?_eq_some_iff.mp q).1
      rw [List.length_append, List.length_singleton] at h1
      rw [List.getElem?_append_right l, show b - nums.length = 0 by omega] at q
      exact ⟨s, List.mem_append.mpr (.inr List.mem_cons_self), Option.some.inj q⟩
  al := fun t ht => by
    rcases List.mem_append.mp ht with ht | ht
    · exact List.mem_append.mpr (.inl (h.al t ht))
    · rw [List.mem_singleton.mp ht]
      exact List.mem_append.mpr (.inr List.mem_cons_self)
  sum := by
    rw [List.map_append, List.sum_append, h.sum, List.length_append]
    simp
theorem FB.more (h : FB n sg ds block nums mem) {s b : Nat} (hs : s < n) (hd : s ∉ ds) (hb : nums[b]? = some (sg s)) : FB n sg (ds ++ [s]) (block.set s (some b)) nums (mem.set b (mem.getD b [] ++ [s])) where
  lb := by rw [List.length_set]; exact h.lb
  bl := fun t b' => by
    rw [bv_set (by rw [h.lb]; exact hs)]
    by_cases e : t = s
    · rw [if_pos e, e]
      constructor
      · intro q
        have := Option.some.inj q
        subst this
        exact ⟨List.mem_append.mpr (.inr List.mem_cons_self), hb⟩
      · rintro ⟨_, q⟩
        exact congrArg some (nodup_at h.nd hb q)
    · rw [if_neg e, h.bl]
      exact ⟨fun q => ⟨List.mem_append.mpr (.inl q.1), q.2⟩, fun q => ⟨(List.mem_append.mp q.1).resolve_right fun z => e (List.mem_singleton.mp z), q.2⟩⟩
  lm := by rw [List.length_set, h.lm]
  nd := h.nd
  nds := by
    rw [List.nodup_append]
    refine ⟨h.nds, List.nodup_cons.mpr ⟨List.not_mem_nil, List.nodup_nil⟩, fun x hx y hy e => ?_⟩
    rw [List.mem_singleton.mp hy] at e
    exact hd (e ▸ hx)
  ms := fun b' g q => by
    have lb := (List.getElem?_eq_some_iff.mp hb).1
    rw [List.filter_append, List.getElem?_set]
    by_cases e : b = b'
    · subst e
      have hg : sg s = g := Option.some.inj (hb.symm.trans q)
      subst hg
      rw [if_pos rfl, if_pos (by rw [h.lm]; exact lb), List.getD_eq_getElem?_getD, h.ms b _ hb, List.filter_cons, if_pos (decide_eq_true rfl)]
      rfl
    · rw [if_neg e, h.ms b' g q, List.filter_cons, if_neg (by rw [decide_eq_true_eq]; exact fun z => e (nodup_at h.nd hb (z ▸ q))), List.filter_nil, List.append_nil]
  ne := fun b' g q => by
    obtain ⟨x, hx, e⟩ := h.ne b' g q
    exact ⟨x, List.mem_append.mpr (.inl hx), e⟩
  al := fun t ht => by
    rcases List.mem_append.mp ht with ht | ht
    · exact h.al t ht
    · rw [List.mem_singleton.mp ht]
      exact List.mem_of_getElem? hb
  sum := by
    have lb := (List.getElem?_eq_some_iff.mp hb).1
    have lm := h.lm
    have l1 : b < (mem.map List.length).length := by rw [List.length_map, lm]; exact lb
    have h1 := sum_set (zs := mem.map List.length) (v := (mem.getD b [] ++ [s]).length) l1
    have h2 := h.sum
    have h3 : (mem.map List.length)[b] = (mem.getD b []).length := by
      rw [List.getElem_map, getD_at (by omega)]
    have e1 : (mem.getD b [] ++ [s]).length = (mem.getD b []).length + 1 := by rw [List.length_append]; rfl
    have e2 : (ds ++ [s]).length = ds.length + 1 := by rw [List.length_append]; rfl
    rw [List.map_set, e2]
    omega
theorem range_wv {m b : Nat} : wv (List.replicate m true) b ↔ b < m := by
  unfold wv
  rw [List.getD_eq_getElem?_getD, List.getElem?_replicate]
  by_cases h : b < m
  · rw [if_pos h]
    exact ⟨fun _ => h, fun _ => rfl⟩
  · rw [if_neg h]
    exact ⟨(fun q => by cases q), fun q => absurd q h⟩
theorem bits_len {rs : Rws} {L : Nat} (wide : ∀ r ∈ rs, r.length = L) (lv : Nat → Bool) {s : Nat} (hs : s < rs.length) : (bitsOf rs lv s).length = L := by
  unfold bitsOf
  rw [List.length_map, getD_at hs]
  exact wide _ (List.getElem_mem hs)
theorem bits_at {rs : Rws} {lv : Nat → Bool} {s c : Nat} : (bitsOf rs lv s).getD c false = lvO lv (nx rs s c) := by
  unfold bitsOf nx
  rw [List.getD_eq_getElem?_getD, List.getElem?_map, List.getD_eq_getElem?_getD (l := rs.getD s [])]
  cases (rs.getD s [])[c]? with
  | none => rfl
  | some o => rfl
/-- the lots by signs start the splitting -/
theorem FB.ti {rs : Rws} {es : List Bool} {L : Nat} {R : Nat → Prop} {lv : Nat → Bool} (h : FB rs.length (sgS rs es lv) ds block nums mem) (wide : ∀ r ∈ rs, r.length = L) (hd : ∀ s, s ∈ ds ↔ (R s ∧ Live rs es s)) (rl : ∀ s, R s → s < rs.length) (ron : ∀ s c t, R s → nx rs s c = some t → R t)
    (hlv : ∀ t, R t → (lv t = true ↔ Live rs es t)) (S : Nat → Prop) : TI rs es R ds.length block mem (mem.map List.length) (List.replicate mem.length true) (List.range mem.length) 0 S L := by
  have lm := h.lm
  have dm : ∀ s b, bv block s = some b → R s := fun s b e => ((hd s).mp ((h.bl s b).mp e).1).1
  have numb : ∀ {b}, b < mem.length → ∃ g, nums[b]? = some g := fun hb => ⟨_, List.getElem?_eq_getElem (by omega)⟩
  have mb : ∀ b g, nums[b]? = some g → mem.getD b [] = ds.filter fun s => decide (sgS rs es lv s = g) := fun b g e => by
    rw [List.getD_eq_getElem?_getD, h.ms b g e]
    rfl
  refine ⟨⟨h.lb, (List.length_map _).symm, fun s b e => ?_, fun s b e => ?_, fun b => ?_, fun b hb => ?_, fun z hz => ?_, h.sum, fun b s hs => ?_⟩, List.length_replicate, List.nodup_range, fun b => ?_, ?_, ?_, ?_, ?_, fun s => ?_⟩
  · rw [lm]
    exact (List.getElem?_eq_some_iff.mp ((h.bl s b).mp e).2).1
  · obtain ⟨h1, h2⟩ := (h.bl s b).mp e
    rw [mb b _ h2]
    exact List.mem_filter.mpr ⟨h1, decide_eq_true rfl⟩
  · rcases Nat.lt_or_ge b mem.length with l | l
    · obtain ⟨g, e⟩ := numb l
      rw [mb b g e]
      exact h.nds.filter _
    · rw [List.getD_eq_getElem?_getD, List.getElem?_eq_none l]
      exact List.nodup_nil
  · obtain ⟨g, e⟩ := numb hb
    have e1 : (mem.map List.length).getD b 0 = (mem.getD b []).length := by
      rw [List.getD_eq_getElem?_getD, List.getElem?_map, List.getD_eq_getElem?_getD, List.getElem?_eq_getElem hb]
      rfl
    rw [e1, List.filter_eq_self.mpr fun s hs => ?_]
    rw [mb b g e] at hs
    obtain ⟨h1, h2⟩ := List.mem_filter.mp hs
    exact decide_eq_true ((h.bl s b).mpr ⟨h1, by rw [of_decide_eq_true h2]; exact e⟩)
  · obtain ⟨xs, hx, rfl⟩ := List.mem_map.mp hz
    obtain ⟨b, hb⟩ := List.mem_iff_getElem?.mp hx
    obtain ⟨g, e⟩ := numb (List.getElem?_eq_some_iff.mp hb).1
    obtain ⟨s, hs, es⟩ := h.ne b g e
    rw [h.ms b g e] at hb
    rw [← Option.some.inj hb]
    exact List.length_pos_of_mem (List.mem_filter.mpr ⟨hs, decide_eq_true es⟩)
  · rcases Nat.lt_or_ge b mem.length with l | l
    · obtain ⟨g, e⟩ := numb l
      rw [mb b g e] at hs
      exact rl s ((hd s).mp (List.mem_filter.mp hs).1).1
    · rw [List.getD_eq_getElem?_getD, List.getElem?_eq_none l] at hs
      exact absurd hs List.not_mem_nil
  · rw [List.mem_range, range_wv]
  · rw [List.length_range]
    omega
  · intro s t b c p q bp bq _ _ _ _ ep _ _
    left
    rw [range_wv, lm]
    exact (List.getElem?_eq_some_iff.mp ((h.bl p bp).mp ep).2).1
  · intro s t b b' e1 e2 e
    obtain ⟨h1, h2⟩ := (h.bl s b).mp e1
    obtain ⟨h3, h4⟩ := (h.bl t b').mp e2
    have hs := (hd s).mp h1
    have ht := (hd t).mp h3
    have hb : bitsOf rs lv s = bitsOf rs lv t := by
      refine List.ext_getElem (by rw [bits_len wide lv (rl s hs.1), bits_len wide lv (rl t ht.1)]) fun c g1 g2 => ?_
      have a1 : (bitsOf rs lv s).getD c false = (bitsOf rs lv s)[c] := getD_at g1
      have a2 : (bitsOf rs lv t).getD c false = (bitsOf rs lv t)[c] := getD_at g2
      rw [← a1, ← a2, bits_at, bits_at]
      have one : ∀ {s t : Nat}, R s → R t → Eqv rs es rs es s t → lvO lv (nx rs s c) = true → lvO lv (nx rs t c) = true := fun {s t} r1 r2 e k => by
        cases ep : nx rs s c with
        | none =>
          rw [ep] at k
          cases k
        | some p =>
          rw [ep] at k
          obtain ⟨q, w, _⟩ := e.way ⟨ep, (hlv p (ron s c p r1 ep)).mp k⟩
          rw [w.1]
          exact (hlv q (ron t c q r2 w.1)).mpr w.2
      cases k1 : lvO lv (nx rs s c) with
      | true => exact (one hs.1 ht.1 e k1).symm
      | false =>
        cases k2 : lvO lv (nx rs t c) with
        | false => rfl
        | true =>
          rw [one ht.1 hs.1 e.symm k2] at k1
          cases k1
    have e0 : es.getD s false = es.getD t false := e []
    have : sgS rs es lv s = sgS rs es lv t := by
      unfold sgS
      rw [hb, e0]
    rw [this] at h2
    exact nodup_at h.nd h2 h4
  · intro s t b e1 e2
    obtain ⟨h1, h2⟩ := (h.bl s b).mp e1
    obtain ⟨h3, h4⟩ := (h.bl t b).mp e2
    have hs := (hd s).mp h1
    have ht := (hd t).mp h3
    have eg : sgS rs es lv s = sgS rs es lv t := Option.some.inj (h2.symm.trans h4)
    obtain ⟨g1, g2⟩ := sign_inj (by rw [bits_len wide lv (rl s hs.1), bits_len wide lv (rl t ht.1)]) eg
    refine ⟨b2n_inj g1, fun c p b' hp hb => ?_⟩
    have hl := (hd p).mp ((h.bl p b').mp hb).1
    have k : lvO lv (nx rs t c) = true := by
      rw [← bits_at, ← g2, bits_at, hp]
      exact (hlv p hl.1).mpr hl.2
    cases eq : nx rs t c with
    | none =>
      rw [eq] at k
      cases k
    | some q =>
      rw [eq] at k
      have rq := ron t c q ht.1 eq
      have hq := (hd q).mpr ⟨rq, (hlv q rq).mp k⟩
      obtain ⟨i, hi⟩ := List.mem_iff_getElem?.mp (h.al q hq)
      exact ⟨q, i, rfl, (h.bl q i).mpr ⟨hq, hi⟩⟩
  · rw [← hd]
    constructor
    · rintro ⟨b, e⟩
      exact ((h.bl s b).mp e).1
    · intro hs
      obtain ⟨i, hi⟩ := List.mem_iff_getElem?.mp (h.al s hs)
      exact ⟨i, (h.bl s i).mpr ⟨hs, hi⟩⟩
end
/-! ### the law's own smallest machine -/
section
variable {rs : Rws} {es : List Bool} {L : Nat}
/-- the states from which words end, when nothing is added any more -/
theorem open_done {F : Nat → Prop} (tgt : ∀ r ∈ rs, ∀ t, some t ∈ r → t < rs.length) (wide : ∀ r ∈ rs, r.length = L) (so : ∀ s, F s → Live rs es s) (en : ∀ s, s < rs.length → es.getD s false = true → F s) (cl : ∀ s c t, s < rs.length → nx rs s c = some t → F t → F s) : ∀ s, s < rs.length → (F s ↔ Live rs es s) := by
  have key : ∀ (w : List Nat) (s : Nat), s < rs.length → acc rs es w s = true → F s := by
    intro w
    induction w with
    | nil => exact fun s hs e => en s hs e
    | cons c w ih =>
      intro s hs e
      cases ep : nx rs s c with
      | none =>
        rw [acc_none ep] at e
        cases e
      | some t =>
        rw [acc_cons ep] at e
        obtain ⟨_, _, r, hr, ht⟩ := nx_lt wide ep
        exact cl s c t hs ep (ih t (tgt r hr t ht) e)
  exact fun s hs => ⟨so s, fun ⟨w, hw⟩ => key w s hs hw⟩
theorem live_end {s : Nat} (h : es.getD s false = true) : Live rs es s := ⟨[], h⟩
theorem live_on {s c t : Nat} (h : nx rs s c = some t) (l : Live rs es t) : Live rs es s := by
  obtain ⟨w, hw⟩ := l
  exact ⟨c :: w, by rw [acc_cons h]; exact hw⟩
/-- a target that lives, if there is one -/
def Lvs (rs : Rws) (es : List Bool) : Option Nat → Prop
  | none => False
  | some t => Live rs es t
/-- pairs told apart by what is told apart already -/
structure Apart (rs : Rws) (es : List Bool) (H : Nat → Nat → Prop) (a b : Nat) : Prop where
  it : es.getD a false ≠ es.getD b false ∨ ∃ c, ¬ (Lvs rs es (nx rs a c) ↔ Lvs rs es (nx rs b c)) ∨ ∃ p q, nx rs a c = some p ∧ nx rs b c = some q ∧ Live rs es p ∧ H p q
theorem Apart.no {H : Nat → Nat → Prop} {a b : Nat} (h : Apart rs es H a b) (so : ∀ p q, H p q → ¬ Eqv rs es rs es p q) : ¬ Eqv rs es rs es a b := fun e => by
  have one : ∀ {a b c : Nat}, Eqv rs es rs es a b → Lvs rs es (nx rs a c) → Lvs rs es (nx rs b c) := fun {a b c} e h => by
    cases ep : nx rs a c with
    | none =>
      rw [ep] at h
      exact h.elim
    | some p =>
      rw [ep] at h
      obtain ⟨q, w, _⟩ := e.way ⟨ep, h⟩
      rw [w.1]
      exact w.2
  rcases h.it with h | ⟨c, h | ⟨p, q, h1, h2, h3, h4⟩⟩
  · exact h (e [])
  · exact h ⟨one e, one e.symm⟩
  · obtain ⟨q', w, e'⟩ := e.way ⟨h1, h3⟩
    have : q' = q := Option.some.inj (w.1.symm.trans h2)
    subst this
    exact so p q' h4 e'
theorem held_done {H : Nat → Nat → Prop} {D : Nat → Prop} (wy : ∀ s c t, D s → Way rs es s c t → D t) (cl : ∀ a b, D a → D b → Apart rs es H a b → H a b) : ∀ (a b : Nat), D a → D b → ¬ H a b → Eqv rs es rs es a b := by
  have key : ∀ (w : List Nat) (a b : Nat), D a → D b → ¬ H a b → acc rs es w a = true → acc rs es w b = true := by
    intro w
    induction w with
    | nil =>
      intro a b ha hb n e
      show es.getD b false = true
      have e : es.getD a false = true := e
      cases q : es.getD b false with
      | true => rfl
      | false => exact absurd (cl a b ha hb ⟨.inl (by rw [e, q]; decide)⟩) n
    | cons c w ih =>
      intro a b ha hb n e
      cases ep : nx rs a c with
      | none =>
        rw [acc_none ep] at e
        cases e
      | some p =>
        rw [acc_cons ep] at e
        have lp : Live rs es p := ⟨w, e⟩
        have lq : Lvs rs es (nx rs b c) := by
          have : Lvs rs es (nx rs a c) ↔ Lvs rs es (nx rs b c) := Classical.byContradiction fun z => n (cl a b ha hb ⟨.inr ⟨c, .inl z⟩⟩)
          exact this.mp (by rw [ep]; exact lp)
        cases eq : nx rs b c with
        | none =>
          rw [eq] at lq
          exact lq.elim
        | some q =>
          rw [eq] at lq
          rw [acc_cons eq]
          exact ih p q (wy a c p ha ⟨ep, lp⟩) (wy b c q hb ⟨eq, lq⟩) (fun z => n (cl a b ha hb ⟨.inr ⟨c, .inr ⟨p, q, ep, eq, lp, z⟩⟩⟩)) e
  have sym : ∀ a b, Apart rs es (fun x y => H y x) a b → Apart rs es H b a := fun a b h => by
    refine ⟨?_⟩
    rcases h.it with h | ⟨c, h | ⟨p, q, h1, h2, h3, h4⟩⟩
    · exact .inl fun z => h z.symm
    · exact .inr ⟨c, .inl fun z => h z.symm⟩
    · by_cases y : Lvs rs es (nx rs a c) ↔ Lvs rs es (nx rs b c)
      · exact .inr ⟨c, .inr ⟨q, p, h2, h1, by have := y.mp (by rw [h1]; exact h3); rw [h2] at this; exact this, h4⟩⟩
      · exact .inr ⟨c, .inl fun z => y z.symm⟩
  intro a b ha hb n w
  have h1 := key w a b ha hb n
  cases e1 : acc rs es w a with
  | true => exact (h1 e1).symm
  | false =>
    cases e2 : acc rs es w b with
    | false => rfl
    | true =>
      -- the other way round: what is not held of (a, b) leads alike as well
      exfalso
      have key2 : ∀ (w : List Nat) (a b : Nat), D a → D b → ¬ H a b → acc rs es w b = true → acc rs es w a = true := by
        intro w
        induction w with
        | nil =>
          intro a b ha hb n e
          show es.getD a false = true
          have e : es.getD b false = true := e
          cases q : es.getD a false with
          | true => rfl
          | false => exact absurd (cl a b ha hb ⟨.inl (by rw [e, q]; decide)⟩) n
        | cons c w ih =>
          intro a b ha hb n e
          cases ep : nx rs b c with
          | none =>
            rw [acc_none ep] at e
            cases e
          | some p =>
            rw [acc_cons ep] at e
            have lp : Live rs es p := ⟨w, e⟩
            have lq : Lvs rs es (nx rs a c) := by
              have : Lvs rs es (nx rs a c) ↔ Lvs rs es (nx rs b c) := Classical.byContradiction fun z => n (cl a b ha hb ⟨.inr ⟨c, .inl z⟩⟩)
              exact this.mpr (by rw [ep]; exact lp)
            cases eq : nx rs a c with
            | none =>
              rw [eq] at lq
              exact lq.elim
            | some q =>
              rw [eq] at lq
              rw [acc_cons eq]
              exact ih q p (wy a c q ha ⟨eq, lq⟩) (wy b c p hb ⟨ep, lp⟩) (fun z => n (cl a b ha hb ⟨.inr ⟨c, .inr ⟨q, p, eq, ep, lq, z⟩⟩⟩)) e
      rw [key2 w a b ha hb n e2] at e1
      cases e1
/-- the first of each lot among the states that are met -/
structure HD (rs : Rws) (es : List Bool) (P : Nat → Nat) (seen heads : List Nat) : Prop where
  up : heads.Pairwise fun a b => P a < P b
  mem : ∀ h ∈ heads, h ∈ seen
  one : ∀ (i j h h' : Nat), heads[i]? = some h → heads[j]? = some h' → Eqv rs es rs es h h' → i = j
  first : ∀ s ∈ seen, ∃ h ∈ heads, Eqv rs es rs es h s ∧ P h ≤ P s
variable {P : Nat → Nat} {seen heads : List Nat}
theorem hd_start : HD rs es P [] [] := ⟨List.Pairwise.nil, fun _ h => absurd h List.not_mem_nil, (fun _ _ _ _ h => by cases h), fun _ h => absurd h List.not_mem_nil⟩
theorem HD.old (h : HD rs es P seen heads) {s x : Nat} (hs : ∀ t ∈ seen, P t < P s) (hx : x ∈ heads) (e : Eqv rs es rs es x s) : HD rs es P (seen ++ [s]) heads :=
  ⟨h.up, fun y hy => List.mem_append.mpr (.inl (h.mem y hy)), h.one, fun t ht => by
    rcases List.mem_append.mp ht with ht | ht
    · exact h.first t ht
    · rw [List.mem_singleton.mp ht]
      exact ⟨x, hx, e, Nat.le_of_lt (hs x (h.mem x hx))⟩⟩
theorem HD.new (h : HD rs es P seen heads) {s : Nat} (hs : ∀ t ∈ seen, P t < P s) (no : ∀ x ∈ heads, ¬ Eqv rs es rs es x s) : HD rs es P (seen ++ [s]) (heads ++ [s]) := by
  refine ⟨List.pairwise_append.mpr ⟨h.up, List.pairwise_singleton _ _, fun a ha b hb => ?_⟩, fun y hy => ?_, fun i j a b ha hb e => ?_, fun t ht => ?_⟩
  · rw [List.mem_singleton.mp hb]
    exact hs a (h.mem a ha)
  · rcases List.mem_append.mp hy with hy | hy
    · exact List.mem_append.mpr (.inl (h.mem y hy))
    · exact List.mem_append.mpr (.inr hy)
  · have out : ∀ {i a : Nat}, (heads ++ [s])[i]? = some a → (heads[i]? = some a) ∨ (i = heads.length ∧ a = s) := fun {i a} q => by
      rcases Nat.lt_or_ge i heads.length with l | l
      · rw [List.getElem?_append_left l] at q
        exact .inl q
      · have l2 := (List.getElem?_eq_some_iff.mp q).1
        rw [List.length_append, List.length_singleton] at l2
        rw [List.getElem?_append_right l, show i - heads.length = 0 by omega] at q
        exact .inr ⟨by omega, (Option.some.inj q).symm⟩
    rcases out ha with qa | ⟨ia, ea⟩
    · rcases out hb with qb | ⟨ib, eb⟩
      · exact h.one i j a b qa qb e
      · rw [eb] at e
        exact absurd e (no a (List.mem_of_getElem? qa))
    · rcases out hb with qb | ⟨ib, _⟩
      · rw [ea] at e
        exact absurd e.symm (no b (List.mem_of_getElem? qb))
      · omega
  · rcases List.mem_append.mp ht with ht | ht
    · obtain ⟨x, hx, e, l⟩ := h.first t ht
      exact ⟨x, List.mem_append.mpr (.inl hx), e, l⟩
    · rw [List.mem_singleton.mp ht]
      exact ⟨s, List.mem_append.mpr (.inr List.mem_cons_self), Eqv.refl s, Nat.le_refl _⟩
theorem idx_at {found : List Nat} (nd : found.Nodup) {i s : Nat} (h : found[i]? = some s) : found.idxOf s = i := by
  have hm := List.mem_of_getElem? h
  have hl := List.idxOf_lt_length_of_mem hm
  exact nodup_at nd (by rw [List.getElem?_eq_getElem hl, List.getElem_idxOf hl]) h
theorem at_idx {found : List Nat} {s : Nat} (h : s ∈ found) : found[found.idxOf s]? = some s := by
  have hl := List.idxOf_lt_length_of_mem h
  rw [List.getElem?_eq_getElem hl, List.getElem_idxOf hl]
theorem pair_lt {P : Nat → Nat} {heads : List Nat} (h : heads.Pairwise fun a b => P a < P b) {i j a b : Nat} (hi : heads[i]? = some a) (hj : heads[j]? = some b) (l : i < j) : P a < P b := by
  have l1 := List.getElem?_eq_some_iff.mp hi
  have l2 := List.getElem?_eq_some_iff.mp hj
  have := List.pairwise_iff_getElem.mp h i j l1.1 l2.1 l
  rw [l1.2, l2.2] at this
  exact this
/-- the law's machine is the smallest one -/
theorem least_canon {found : List Nat} {done out : Rws} {oe : List Bool} (wide : ∀ r ∈ rs, r.length = L) (ni : NI rs L some found found done []) (hd : done.length = found.length) (lv0 : Live rs es 0)
    (hs : ∀ s, s ∈ seen ↔ (s ∈ found ∧ Live rs es s)) (hh : HD rs es (fun s => found.idxOf s) seen heads) (lo : out.length = heads.length) (ow : ∀ r ∈ out, r.length = L) (oe_ : oe = heads.map fun p => es.getD p false)
    (some_ : ∀ (i p c j : Nat), heads[i]? = some p → nx out i c = some j → ∃ t q, Way rs es p c t ∧ heads[j]? = some q ∧ Eqv rs es rs es t q) (none_ : ∀ (i p c t : Nat), heads[i]? = some p → c < L → nx out i c = none → ¬ Way rs es p c t) : Canon rs es L heads out oe := by
  have nd := ni.nd
  have m0 : 0 ∈ found := List.mem_of_getElem? ni.zero
  have z0 : found.idxOf 0 = 0 := idx_at nd ni.zero
  have edge : ∀ {p c t : Nat}, p ∈ found → nx rs p c = some t → nx done (found.idxOf p) c = some (found.idxOf t) ∧ t ∈ found := fun {p c t} hp ht => by
    have hip := at_idx hp
    have hil := (List.getElem?_eq_some_iff.mp hip).1
    have hc := (nx_lt wide ht).2.1
    cases e : nx done (found.idxOf p) c with
    | none => exact absurd (ni.no _ c p t (.inl ⟨by omega, hc⟩) (by rw [nx_new]; exact e) hip ht) (fun z => by cases z)
    | some j =>
      obtain ⟨p', t', b, e1, e2, e3, e4⟩ := ni.yes _ c j (by rw [nx_new]; exact e)
      have : p' = p := Option.some.inj (e1.symm.trans hip)
      subst this
      have : t' = t := Option.some.inj (e2.symm.trans ht)
      subst this
      have : t' = b := Option.some.inj e3
      subst this
      exact ⟨congrArg some (idx_at nd e4).symm, List.mem_of_getElem? e4⟩
  have inH : ∀ {i h : Nat}, heads[i]? = some h → h ∈ found ∧ Live rs es h := fun e => (hs _).mp (hh.mem _ (List.mem_of_getElem? e))
  refine ⟨lo, by rw [oe_, List.length_map], ?_, fun p hp => ((hs p).mp (hh.mem p hp)).2, hh.one, ow, fun i p hp => ?_, some_, none_, fun p c t _ w => (nx_lt wide w.1).2.1, fun j h1 h2 => ?_⟩
  · obtain ⟨h, hm, _, hl⟩ := hh.first 0 ((hs 0).mpr ⟨m0, lv0⟩)
    have hl : found.idxOf h ≤ found.idxOf 0 := hl
    rw [z0] at hl
    have hf := at_idx ((hs h).mp (hh.mem h hm)).1
    rw [show found.idxOf h = 0 by omega, ni.zero] at hf
    have : 0 = h := Option.some.inj hf
    subst this
    obtain ⟨i, hi⟩ := List.mem_iff_getElem?.mp hm
    by_cases y : i = 0
    · subst y
      exact hi
    · have l := (List.getElem?_eq_some_iff.mp hi).1
      have := pair_lt hh.up (List.getElem?_eq_getElem (show 0 < heads.length by omega)) hi (by omega)
      have : found.idxOf heads[0] < found.idxOf 0 := this
      omega
  · rw [oe_, List.getElem?_map, hp]
    rfl
  · have hj := List.getElem?_eq_getElem h2
    obtain ⟨fj, lj⟩ := inH hj
    have pj := at_idx fj
    have jl := (List.getElem?_eq_some_iff.mp pj).1
    have jpos : 1 ≤ found.idxOf heads[j] := by
      have := pair_lt hh.up (List.getElem?_eq_getElem (show 0 < heads.length by omega)) hj (by omega)
      have : found.idxOf heads[0] < found.idxOf heads[j] := this
      omega
    obtain ⟨p, c, hp, hpc, hmin⟩ := ni.ord _ jpos jl
    rw [nx_new] at hpc
    obtain ⟨P0, t, b, e1, e2, e3, e4⟩ := ni.yes p c _ (by rw [nx_new]; exact hpc)
    have e3 : t = b := Option.some.inj e3
    subst e3
    have : t = heads[j] := Option.some.inj (e4.symm.trans pj)
    subst this
    have fP := List.mem_of_getElem? e1
    have lP : Live rs es P0 := live_on e2 lj
    obtain ⟨h, hm, he, hle⟩ := hh.first P0 ((hs P0).mpr ⟨fP, lP⟩)
    have hle : found.idxOf h ≤ found.idxOf P0 := hle
    rw [idx_at nd e1] at hle
    obtain ⟨i, hi⟩ := List.mem_iff_getElem?.mp hm
    obtain ⟨fh, lh⟩ := inH hi
    obtain ⟨t', w', et⟩ := he.symm.way ⟨e2, lj⟩
    obtain ⟨d', ft'⟩ := edge fh w'.1
    -- the first of its lot stands no earlier
    have firstOf : ∀ {x y : Nat} {i : Nat}, heads[i]? = some x → y ∈ found → Live rs es y → Eqv rs es rs es y x → found.idxOf x ≤ found.idxOf y := fun {x y i} hx fy ly e => by
      obtain ⟨z, hz, ez, lz⟩ := hh.first y ((hs y).mpr ⟨fy, ly⟩)
      obtain ⟨i2, hi2⟩ := List.mem_iff_getElem?.mp hz
      have := hh.one i2 i z x hi2 hx (ez.trans e)
      subst this
      have : z = x := Option.some.inj (hi2.symm.trans hx)
      subst this
      exact lz
    have ge := firstOf hj ft' w'.2 et.symm
    have g2 := hmin _ c _ (by rw [nx_new]; exact d') ge
    have eqp : p = found.idxOf h := by omega
    have P0h : P0 = h := by
      have := at_idx fh
      rw [← eqp] at this
      exact Option.some.inj (e1.symm.trans this)
    subst P0h
    have ij : i < j := by
      rcases Nat.lt_trichotomy i j with l | l | l
      · exact l
      · subst l
        have : P0 = heads[i] := Option.some.inj (hi.symm.trans hj)
        rw [← this] at hp
        omega
      · have := pair_lt hh.up hj hi l
        have : found.idxOf heads[j] < found.idxOf P0 := this
        omega
    have oc := (nx_lt wide e2).2.1
    have val : nx out i c = some j := by
      cases e : nx out i c with
      | none => exact absurd ⟨e2, lj⟩ (none_ i P0 c _ hi oc e)
      | some j2 =>
        obtain ⟨t2, q, w2, hq, he2⟩ := some_ i P0 c j2 hi e
        have : t2 = heads[j] := Option.some.inj (w2.1.symm.trans e2)
        subst this
        rw [hh.one j2 j q heads[j] hq hj he2.symm]
    refine ⟨i, c, ij, val, fun i' c' j' hv hj' => ?_⟩
    have il : i' < heads.length := by
      have := (nx_lt ow hv).1
      omega
    have hi' := List.getElem?_eq_getElem il
    obtain ⟨t2, q, w2, hq, he2⟩ := some_ i' _ c' j' hi' hv
    obtain ⟨fi', _⟩ := inH hi'
    obtain ⟨d2, ft2⟩ := edge fi' w2.1
    have g3 := firstOf hq ft2 w2.2 he2
    have g4 : found.idxOf heads[j] ≤ found.idxOf q := by
      rcases Nat.lt_or_ge j j' with l | l
      · exact Nat.le_of_lt (pair_lt hh.up hj hq l)
      · have : j' = j := by omega
        subst this
        have : q = heads[j'] := Option.some.inj (hq.symm.trans hj)
        rw [this]
        exact Nat.le_refl _
    have g5 := hmin _ c' _ (by rw [nx_new]; exact d2) (Nat.le_trans g4 g3)
    rw [eqp] at g5
    rcases Nat.lt_trichotomy i i' with l | l | l
    · exact .inl l
    · subst l
      have : P0 = heads[i] := Option.some.inj (hi.symm.trans hi')
      rw [← this] at g5
      exact .inr ⟨rfl, by omega⟩
    · have := pair_lt hh.up hi' hi l
      have : found.idxOf heads[i'] < found.idxOf P0 := this
      omega
end
/-! ### what the smallest machine is, and machines of the same words -/
def Smallest (rs : Rws) (es : List Bool) (L : Nat) (out : Rws) (oe : List Bool) : Prop := (∃ ps, Canon rs es L ps out oe) ∨ (¬ Live rs es 0 ∧ out = [List.replicate L none] ∧ oe = [false])
theorem canon_live {rs : Rws} {es : List Bool} {L : Nat} {ps : List Nat} {out : Rws} {oe : List Bool} (C : Canon rs es L ps out oe) : Live rs es 0 := C.live 0 (List.mem_of_getElem? C.zero)
theorem smallest_eq {rs rs' : Rws} {es es' : List Bool} {L : Nat} {out out' : Rws} {oe oe' : List Bool} (h : Smallest rs es L out oe) (g : Smallest rs' es' L out' oe') (e : Eqv rs es rs' es' 0 0) : out = out' ∧ oe = oe' := by
  rcases h with ⟨ps, C⟩ | ⟨n, rfl, rfl⟩
  · rcases g with ⟨ps', C'⟩ | ⟨n', _, _⟩
    · exact canon_eq C C' e
    · exact absurd (e.live (canon_live C)) n'
  · rcases g with ⟨ps', C'⟩ | ⟨n', rfl, rfl⟩
    · exact absurd (e.symm.live (canon_live C')) n
    · exact ⟨rfl, rfl⟩
theorem nx_none_row {L c : Nat} : nx [List.replicate L none] 0 c = none := by
  unfold nx
  show (List.replicate L none).getD c none = none
  rw [List.getD_eq_getElem?_getD, List.getElem?_replicate]
  split <;> rfl
theorem smallest_eqv {rs : Rws} {es : List Bool} {L : Nat} {out : Rws} {oe : List Bool} (h : Smallest rs es L out oe) : Eqv out oe rs es 0 0 := by
  rcases h with ⟨ps, C⟩ | ⟨n, rfl, rfl⟩
  · exact canon_eqv C
  · intro w
    have e1 : acc rs es w 0 = false := by
      cases e : acc rs es w 0 with
      | false => rfl
      | true => exact absurd ⟨w, e⟩ n
    rw [e1]
    cases w with
    | nil => rfl
    | cons c w => exact acc_none nx_none_row
/-- one machine goes along with another one -/
theorem sim {rs rs' : Rws} {es es' : List Bool} (Rel : Nat → Nat → Prop) (h : ∀ s' s, Rel s' s → es'.getD s' false = es.getD s false ∧ ∀ c, (∃ t' t, nx rs' s' c = some t' ∧ nx rs s c = some t ∧ Rel t' t) ∨ (nx rs s c = none ∧ ∀ w, acc rs' es' (c :: w) s' = false)) : ∀ (w : List Nat) (s' s : Nat), Rel s' s → acc rs' es' w s' = acc rs es w s
  | [], s', s, r => (h s' s r).1
  | c :: w, s', s, r => by
    rcases (h s' s r).2 c with ⟨t', t, e1, e2, r'⟩ | ⟨e1, e2⟩
    · rw [acc_cons e1, acc_cons e2]
      exact sim Rel h w t' t r'
    · rw [e2 w, acc_none e1]
theorem nx_map {α : Type} {xs : List α} {f : α → List (Option Nat)} {s c : Nat} {x : α} (h : xs[s]? = some x) : nx (xs.map f) s c = (f x).getD c none := by
  have e : (xs.map f).getD s [] = f x := by
    rw [List.getD_eq_getElem?_getD, List.getElem?_map, h]
    rfl
  unfold nx
  rw [e]
theorem nx_ge {rs : Rws} {s c : Nat} (h : rs.length ≤ s) : nx rs s c = none := by
  have e : rs.getD s [] = [] := by
    rw [List.getD_eq_getElem?_getD, List.getElem?_eq_none h]
    rfl
  unfold nx
  rw [e]
  rfl
/-- each state twice: s and s + n go where s goes, to either of the two -/
structure Dbl (rs rs' : Rws) (es es' : List Bool) : Prop where
  len : rs'.length = rs.length + rs.length
  el : es.length = rs.length
  ee : es' = es ++ es
  go : ∀ (s s' c : Nat), s < rs.length → (s' = s ∨ s' = s + rs.length) → (nx rs s c = none ∧ nx rs' s' c = none) ∨ ∃ t, nx rs s c = some t ∧ (nx rs' s' c = some t ∨ nx rs' s' c = some (t + rs.length))
theorem dbl_eqv {rs rs' : Rws} {es es' : List Bool} (h : Dbl rs rs' es es') (tgt : ∀ s c t, nx rs s c = some t → t < rs.length) (h1 : 1 ≤ rs.length) : Eqv rs' es' rs es 0 0 := fun w => by
  refine sim (fun s' s => s < rs.length ∧ (s' = s ∨ s' = s + rs.length)) (fun s' s hr => ?_) w 0 0 ⟨h1, .inl rfl⟩
  obtain ⟨hs, e⟩ := hr
  refine ⟨?_, fun c => ?_⟩
  · rw [h.ee, List.getD_eq_getElem?_getD, List.getD_eq_getElem?_getD]
    have el := h.el
    rcases e with e | e
    · rw [e, List.getElem?_append_left (by omega)]
    · rw [e, List.getElem?_append_right (by omega), el, Nat.add_sub_cancel]
  · rcases h.go s s' c hs e with ⟨e1, e2⟩ | ⟨t, e1, e2⟩
    · exact .inr ⟨e1, fun w => acc_none e2⟩
    · rcases e2 with e2 | e2
      · exact .inl ⟨_, _, e2, e1, tgt s c t e1, .inl rfl⟩
      · exact .inl ⟨_, _, e2, e1, tgt s c t e1, .inr rfl⟩
/-- some ways more, to a state without words -/
structure Mor (rs rs' : Rws) (es es' : List Bool) : Prop where
  el : es.length = rs.length
  es : ∀ s, s < rs.length → es'.getD s false = es.getD s false
  dead : es'.getD rs.length false = false ∧ ∀ c t, nx rs' rs.length c = some t → t = rs.length
  go : ∀ (s c : Nat), s < rs.length → (nx rs s c = none ∧ (nx rs' s c = none ∨ nx rs' s c = some rs.length)) ∨ ∃ t, nx rs s c = some t ∧ nx rs' s c = some t
theorem mor_eqv {rs rs' : Rws} {es es' : List Bool} (h : Mor rs rs' es es') (tgt : ∀ s c t, nx rs s c = some t → t < rs.length) (h1 : 1 ≤ rs.length) : Eqv rs' es' rs es 0 0 := fun w => by
  have dead : ∀ w, acc rs' es' w rs.length = false := by
    intro w
    induction w with
    | nil => exact h.dead.1
    | cons c w ih =>
      cases e : nx rs' rs.length c with
      | none => exact acc_none e
      | some t =>
        have := h.dead.2 c t e
        subst this
        rw [acc_cons e]
        exact ih
  refine sim (fun s' s => s < rs.length ∧ s' = s) (fun s' s hr => ?_) w 0 0 ⟨h1, rfl⟩
  obtain ⟨hs, rfl⟩ := hr
  refine ⟨h.es s' hs, fun c => ?_⟩
  rcases h.go s' c hs with ⟨e1, e2⟩ | ⟨t, e1, e2⟩
  · refine .inr ⟨e1, fun w => ?_⟩
    rcases e2 with e2 | e2
    · exact acc_none e2
    · rw [acc_cons e2]
      exact dead w
  · exact .inl ⟨t, t, e2, e1, tgt s' c t e1, rfl⟩
/-- the states in another order -/
structure Mix (rs rs' : Rws) (es es' : List Bool) (order : List Nat) : Prop where
  ol : order.length = rs.length
  zero : order[0]? = some 0
  es : es' = order.map fun s => es.getD s false
  go : ∀ (i s c : Nat), order[i]? = some s → (nx rs s c = none ∧ nx rs' i c = none) ∨ ∃ t j, nx rs s c = some t ∧ nx rs' i c = some j ∧ order[j]? = some t
theorem mix_eqv {rs rs' : Rws} {es es' : List Bool} {order : List Nat} (h : Mix rs rs' es es' order) : Eqv rs' es' rs es 0 0 := fun w => by
  refine sim (fun s' s => order[s']? = some s) (fun s' s hr => ?_) w 0 0 h.zero
  refine ⟨?_, fun c => ?_⟩
  · rw [h.es, List.getD_eq_getElem?_getD, List.getElem?_map, hr]
    rfl
  · rcases h.go s' s c hr with ⟨e1, e2⟩ | ⟨t, j, e1, e2, e3⟩
    · exact .inr ⟨e1, fun w => acc_none e2⟩
    · exact .inl ⟨j, t, e2, e1, e3⟩
/-! long rows and rings -/
structure Lng (n : Nat) (ring : Bool) (rs : Rws) (es : List Bool) : Prop where
  pos : 1 ≤ n
  len : rs.length = n
  el : es.length = n
  wide : ∀ r ∈ rs, r.length = 1
  go : ∀ s, s + 1 < n → nx rs s 0 = some (s + 1)
  last : nx rs (n - 1) 0 = if ring = true then some 0 else none
  en : ∀ s, s < n → es.getD s false = decide (s = n - 1)
section
variable {n : Nat} {ring : Bool} {rs : Rws} {es : List Bool}
theorem Lng.reach (h : Lng n ring rs es) : ∀ (k s : Nat), s + k < n → acc rs es (List.replicate k 0) s = decide (s + k = n - 1)
  | 0, s, hs => h.en s hs
  | k + 1, s, hs => by
    rw [List.replicate_succ, acc_cons (h.go s (by omega)), h.reach k (s + 1) (by omega)]
    rw [decide_eq_decide]
    omega
theorem Lng.live (h : Lng n ring rs es) {s : Nat} (hs : s < n) : Live rs es s := ⟨List.replicate (n - 1 - s) 0, by rw [h.reach _ _ (by omega)]; exact decide_eq_true (by omega)⟩
theorem Lng.val (h : Lng n ring rs es) {s c t : Nat} (e : nx rs s c = some t) : c = 0 ∧ s < n ∧ ((s + 1 < n ∧ t = s + 1) ∨ (s = n - 1 ∧ ring = true ∧ t = 0)) := by
  obtain ⟨h1, h2, _⟩ := nx_lt h.wide e
  have hl := h.len
  have : c = 0 := by omega
  subst this
  refine ⟨rfl, by omega, ?_⟩
  by_cases z : s + 1 < n
  · rw [h.go s z] at e
    exact .inl ⟨z, (Option.some.inj e).symm⟩
  · have : s = n - 1 := by omega
    subst this
    rw [h.last] at e
    split at e
    · rename_i r
      exact .inr ⟨rfl, r, (Option.some.inj e).symm⟩
    · cases e
/-- a longer way than to the end: around the ring, or nowhere -/
theorem Lng.past (h : Lng n ring rs es) : ∀ (k s : Nat), s < n → n ≤ s + k → s + k + 1 < n + n → acc rs es (List.replicate k 0) s = false
  | 0, s, hs, h1, _ => absurd h1 (by omega)
  | k + 1, s, hs, h1, h2 => by
    by_cases z : s + 1 < n
    · rw [List.replicate_succ, acc_cons (h.go s z)]
      exact h.past k (s + 1) z (by omega) (by omega)
    · have e : s = n - 1 := by omega
      subst e
      have l := h.last
      by_cases r : ring = true
      · rw [if_pos r] at l
        rw [List.replicate_succ, acc_cons l, h.reach k 0 (by omega)]
        exact decide_eq_false (by omega)
      · rw [if_neg r] at l
        rw [List.replicate_succ, acc_none l]
theorem Lng.canon (h : Lng n ring rs es) : Canon rs es 1 (List.range n) rs es where
  lo := by rw [h.len, List.length_range]
  le := by rw [h.el, List.length_range]
  zero := by rw [List.getElem?_range (show 0 < n from h.pos)]
  live := fun p hp => h.live (List.mem_range.mp hp)
  one := fun i j p q hp hq e => by
    have lp := (List.getElem?_eq_some_iff.mp hp).1
    have lq := (List.getElem?_eq_some_iff.mp hq).1
    rw [List.length_range] at lp lq
    rw [List.getElem?_range lp] at hp
    rw [List.getElem?_range lq] at hq
    cases hp
    cases hq
    have one : ∀ {i j : Nat}, i < n → j < n → Eqv rs es rs es i j → ¬ i < j := fun {i j} lp lq e l => by
      have h1 := e (List.replicate (n - 1 - i) 0)
      rw [h.reach _ _ (by omega), decide_eq_true (by omega), h.past _ _ lq (by omega) (by omega)] at h1
      cases h1
    have a := one lp lq e
    have b := one lq lp e.symm
    omega
  wide := h.wide
  ends := fun i p hp => by
    have lp := (List.getElem?_eq_some_iff.mp hp).1
    rw [List.length_range] at lp
    rw [List.getElem?_range lp] at hp
    cases hp
    rw [List.getD_eq_getElem?_getD, List.getElem?_eq_getElem (by rw [h.el]; exact lp)]
    rfl
  some_ := fun i p c j hp hj => by
    have lp := (List.getElem?_eq_some_iff.mp hp).1
    rw [List.length_range] at lp
    rw [List.getElem?_range lp] at hp
    cases hp
    have lj : j < n := by
      obtain ⟨_, _, q | q⟩ := h.val hj
      · omega
      · have := h.pos
        omega
    exact ⟨j, j, ⟨hj, h.live lj⟩, List.getElem?_range lj, Eqv.refl j⟩
  none_ := fun i p c t hp _ hn w => by
    have lp := (List.getElem?_eq_some_iff.mp hp).1
    rw [List.length_range] at lp
    rw [List.getElem?_range lp] at hp
    cases hp
    have := w.1
    rw [hn] at this
    cases this
  over := fun p c t _ w => (nx_lt h.wide w.1).2.1
  ord := fun j h1 h2 => by
    rw [List.length_range] at h2
    refine ⟨j - 1, 0, by omega, by rw [h.go (j - 1) (by omega)]; exact congrArg some (by omega), fun i' c' j' e hj => ?_⟩
    obtain ⟨rfl, _, q | q⟩ := h.val e
    · by_cases z : j - 1 = i'
      · exact .inr ⟨z, Nat.le_refl _⟩
      · exact .inl (by omega)
    · omega
end
/-! ### rules for lists that HandS has none for -/
section
variable {X : Cx}
def tTruL (K : PySem.W.Frag) (t : TE) : TT := fun σ H Q => t σ H fun x H1 => ∃ a xs, x = .ref a ∧ SqL K H1 a xs ∧ Q (!xs.isEmpty) H1
theorem pt_lstT {e : Expr} {t : TE} (he : PE X e t) (hi : ∀ whole, isTrue e X.env whole = (do let v ← whole; standAt e.pos; holding [v] (truthy v)) := by intro _; rfl) : PT X e (tTruL X.K t) := by
  refine ⟨fun pins s σ H Q I h => ?_⟩
  refine isTrue_plain (thn (he.run pins s σ H _ I h) fun v s1 ⟨x, H1, I1, r1, a, xs, ex, hd, q⟩ => ?_) (hi _)
  subst ex
  cases r1
  obtain ⟨its, rv, pl, hz⟩ := I1.list hd
  have hlen := rv.length
  have hl' := pl.isList
  refine PySem.wpAny_truthy_list hl' (by simp only [List.size_toArray]; have hn := line63; omega) ?_
  have e3 : (!its.toArray.isEmpty) = (!xs.isEmpty) := by
    cases xs <;> cases its <;> first | rfl | (simp at hlen)
  rw [e3]
  exact ⟨H1, I1.tok _, q⟩
/-- o[i] of a list, i from the front -/
def rGetL (K : PySem.W.Frag) : V → V → Hp → VK → Prop := fun o i H Q => ∃ (p : Addr) (xs : List V) (j : Nat) (z : V), o = .ref p ∧ i = .int (j : Int) ∧ SqL K H p xs ∧ xs[j]? = some z ∧ Q z H
theorem pget_list : PGet X (rGetL X.K) := by
  intro pins s σ H o i ov iv Q I ro ri h
  obtain ⟨p, xs, j, z, rfl, rfl, hq, he, q⟩ := h
  cases ro
  obtain ⟨t, rfl⟩ := ri
  obtain ⟨its, r, pl, hz⟩ := I.list hq
  obtain ⟨w, ew, rw'⟩ := r.get he
  have hl := r.length
  have hn := line63
  have hj := (List.getElem?_eq_some_iff.mp he).1
  exact PyProof.Rows.getItem_listL pl.isList (by omega) (by omega) (by simpa using ew) ⟨z, H, I, rw', q⟩
end

section
variable {P : Program} {w : World} {K : PySem.W.Frag} {mg : Str → Option Value} {base : Heap}
theorem scMove : FnScope ["old", "moved", "block", "members", "sizes", "state"] ["old", "moved", "block", "members", "sizes"] (defScope sMove) := ⟨rfl, rfl, rfl, by decide +kernel, rfl, by decide +kernel, by decide +kernel⟩
def spMove (K : PySem.W.Frag) : Sp := fun vs H Q _ => ∃ (mv blk mem szs : Addr) (old : Nat) (moved : List Nat) (block : List (Option Nat)) (ma : List Addr) (sizes : List Nat), vs = [.int (old : Int), .ref mv, .ref blk, .ref mem, .ref szs] ∧
  H mv = some (.lst (moved.map natV)) ∧ H blk = some (.lst (block.map oV)) ∧ H mem = some (.lst (ma.map V.ref)) ∧ H szs = some (.lst (sizes.map natV)) ∧ mv ≠ blk ∧ mv ≠ mem ∧ mv ≠ szs ∧ blk ≠ mem ∧ blk ≠ szs ∧ mem ≠ szs ∧
  (∀ s ∈ moved, s < block.length) ∧ old < sizes.length ∧ moved.length ≤ sizes.getD old 0 ∧ ma.length ≤ 1000 ∧ sizes.length ≤ 1000 ∧
  ∀ H', Keep (fun b => b = blk ∨ b = mem ∨ b = szs) H H' → H' blk = some (.lst ((mark ma.length block moved).map oV)) → H' mem = some (.lst ((ma ++ [mv]).map V.ref)) → H' szs = some (.lst (((sizes ++ [moved.length]).set old (sizes.getD old 0 - moved.length)).map natV)) → Q .non H'
theorem mark_snoc {m s : Nat} {moved : List Nat} {block : List (Option Nat)} : mark m block (moved ++ [s]) = (mark m block moved).set s (some m) := by
  unfold mark
  rw [List.foldl_append]
  rfl
theorem ok_move {f : Addr} {fd : FuncData} (F : Fun K "move" "move" sMove f fd) (T : Mg mg) : FnOk P w K mg base CX0 1 f fd ["old", "moved", "block", "members", "sizes"] (spMove K) := by
  refine F.ok scMove (fun vs H Q E h => ?_) (fun cdv A outer s H vs Q E hr h => ?_)
  · obtain ⟨mv, blk, mem, szs, old, moved, block, ma, sizes, rfl, _⟩ := h
    rfl
  · obtain ⟨mv, blk, mem, szs, old, moved, block, ma, sizes, rfl, h1, h2, h3, h4, n1, n2, n3, n4, n5, n6, hin, ho, hle, hma, hsz, k⟩ := h
    refine ⟨_, (pss_cons (ps_for PassesOwn.never rfl (pi_list (pv 1)) (pg_name (i := 5) scMove.nd rfl (.inl rfl)) (pss_one (ps_asg (pe_callB (r := rLen K) call_len_seq (by rfl) T.len PySem.boot_len (pa_cons (pv 3) pa_nil)) (pg_sub (pv 2) (pv 5) set_list))))
      (pss_cons (ps_expr (pe_bm PySem.F.plainAttrs_list PySem.F.slot_list_append PySem.F.type_list_append mt_append (pv 3) (pa_cons (pv 1) pa_nil)))
      (pss_cons (ps_expr (pe_bm PySem.F.plainAttrs_list PySem.F.slot_list_append PySem.F.type_list_append mt_append (pv 4) (pa_cons (pe_callB (r := rLen K) call_len_seq (by rfl) T.len PySem.boot_len (pa_cons (pv 1) pa_nil)) pa_nil)))
      (pss_one (ps_augS (pv 4) (pv 0) pget_list (pe_callB (r := rLen K) call_len_seq (by rfl) T.len PySem.boot_len (pa_cons (pv 1) pa_nil)) ip_sub set_list))))), ?_⟩
    refine ⟨_, rfl, mv, rfl, ⟨_, SqL.of h1⟩, ?_⟩
    refine for_list (K := K) (a := mv) (xs := moved.map natV) (fun j σ H' => (∃ y5, σ = [some (V.int (old : Int)), some (V.ref mv), some (V.ref blk), some (V.ref mem), some (V.ref szs), y5]) ∧ H' = upd H blk (.lst ((mark ma.length block (moved.take j)).map oV))) ⟨⟨_, rfl⟩, ?_⟩ (fun j σ H' _ q => by rw [q.2]; exact SqL.of (by rw [upd_ne n1]; exact h1)) ?_ ?_
    · exact (L2.upd_self h2).symm
    · rintro j x σ H' hx ⟨⟨y5, rfl⟩, rfl⟩
      obtain ⟨u, hu, rfl⟩ := natV_of hx
      have hub := hin u (List.mem_of_getElem? hu)
      have g3 : (upd H blk (.lst ((mark ma.length block (moved.take j)).map oV))) mem = some (.lst (ma.map V.ref)) := by rw [upd_ne n4.symm]; exact h3
      refine ⟨_, rfl, mem, _, rfl, .inl (SqL.of g3), ?_⟩
      refine ⟨_, rfl, _, rfl, blk, _, (u : Int), u, rfl, rfl, upd_same, Evl.ixN_nat (by rw [List.length_map, mark_len]; exact hub), ?_⟩
      refine ⟨⟨_, rfl⟩, ?_⟩
      rw [upd_upd, List.take_add_one, hu]
      show upd H blk _ = upd H blk (.lst ((mark ma.length block (moved.take j ++ [u])).map oV))
      rw [mark_snoc, List.map_set, List.length_map]
      rfl
    · rintro σ H' ⟨⟨y5, rfl⟩, rfl⟩
      rw [List.length_map, List.take_length]
      have hG : ∃ G, G = upd H blk (.lst ((mark ma.length block moved).map oV)) := ⟨_, rfl⟩
      obtain ⟨G, hG⟩ := hG
      rw [← hG]
      have b1 : G blk = some (.lst ((mark ma.length block moved).map oV)) := by rw [hG, upd_same]
      have b2 : G mem = some (.lst (ma.map V.ref)) := by rw [hG, upd_ne n4.symm]; exact h3
      have b3 : G szs = some (.lst (sizes.map natV)) := by rw [hG, upd_ne n5.symm]; exact h4
      have b4 : G mv = some (.lst (moved.map natV)) := by rw [hG, upd_ne n1]; exact h1
      have kp : Keep (fun b => b = blk ∨ b = mem ∨ b = szs) H G := fun b u nb e => by
        rw [hG, upd_ne (fun z => nb (.inl z))]
        exact e
      clear hG
      refine ⟨_, rfl, .inl ⟨rfl, _, SqL.of b2⟩, _, rfl, mem, _, _, rfl, rfl, b2, small1000 (by rw [List.length_map]; exact hma), ?_⟩
      have c3 : (upd G mem (.lst (ma.map V.ref ++ [V.ref mv]))) szs = some (.lst (sizes.map natV)) := by rw [upd_ne n6.symm]; exact b3
      have c4 : (upd G mem (.lst (ma.map V.ref ++ [V.ref mv]))) mv = some (.lst (moved.map natV)) := by rw [upd_ne n2]; exact b4
      refine ⟨_, rfl, .inl ⟨rfl, _, SqL.of c3⟩, _, rfl, mv, _, rfl, .inl (SqL.of c4), szs, _, _, rfl, rfl, c3, small1000 (by rw [List.length_map]; exact hsz), ?_⟩
      have es : sizes.map natV ++ [V.int ((moved.map natV).length : Int)] = (sizes ++ [moved.length]).map natV := by
        rw [List.map_append, List.length_map]
        rfl
      have hat : (sizes ++ [moved.length])[old]? = some (sizes.getD old 0) := by
        rw [List.getElem?_append_left ho, getD_at ho]
        exact List.getElem?_eq_getElem ho
      refine ⟨_, rfl, _, rfl, szs, _, old, _, rfl, rfl, SqL.of upd_same, by rw [es]; exact natV_get hat, ?_⟩
      refine ⟨_, rfl, mv, _, rfl, .inl (SqL.of (by rw [upd_ne n3]; exact c4)), ?_⟩
      refine ⟨_, _, rfl, rfl, szs, _, (old : Int), old, rfl, rfl, upd_same, Evl.ixN_nat (by rw [es, List.length_map, List.length_append]; omega), ?_⟩
      refine k _ (fun b u nb e => ?_) ?_ ?_ ?_
      · rw [upd_upd, upd_ne (fun z => nb (.inr (.inr z))), upd_ne (fun z => nb (.inr (.inl z)))]
        exact kp b u nb e
      · rw [upd_upd, upd_ne n5, upd_ne n4]
        exact b1
      · rw [upd_upd, upd_ne n6, upd_same, List.map_append]
        rfl
      · rw [upd_same, es, List.map_set]
        rw [show natV (sizes.getD old 0 - moved.length) = V.int ((sizes.getD old 0 : Int) - ((moved.map natV).length : Int)) by rw [List.length_map]; show V.int _ = V.int _; congr 1; omega]
end
section
variable {P : Program} {w : World} {K : PySem.W.Frag} {mg : Str → Option Value} {base : Heap}
theorem scLook : FnScope ["old", "sizes", "waiting", "new", "chosen"] ["old", "sizes", "waiting"] (defScope sLook) := ⟨rfl, rfl, rfl, by decide +kernel, rfl, by decide +kernel, by decide +kernel⟩
def spLook (K : PySem.W.Frag) : Sp := fun vs H Q _ => ∃ (szs wt : Addr) (old : Nat) (sizes : List Nat) (wait : List Bool), vs = [.int (old : Int), .ref szs, .ref wt] ∧ H szs = some (.lst (sizes.map natV)) ∧ H wt = some (.lst (wait.map V.bl)) ∧ szs ≠ wt ∧
  old < wait.length ∧ sizes.length = wait.length + 1 ∧ wait.length ≤ 1000 ∧
  ∀ (H' : Hp) (c : Nat), (c = wait.length ∨ (c = old ∧ ¬ wv wait old)) → Keep (fun b => b = wt) H H' → H' wt = some (.lst (((wait ++ [false]).set c true).map V.bl)) → Q (.int (c : Int)) H'
theorem ok_look {f : Addr} {fd : FuncData} (F : Fun K "look_again" "look_again" sLook f fd) (T : Mg mg) : FnOk P w K mg base CX0 1 f fd ["old", "sizes", "waiting"] (spLook K) := by
  refine F.ok scLook (fun vs H Q E h => ?_) (fun cdv A outer s H vs Q E hr h => ?_)
  · obtain ⟨szs, wt, old, sizes, wait, rfl, _⟩ := h
    rfl
  · obtain ⟨szs, wt, old, sizes, wait, rfl, h1, h2, n1, ho, hl, hw, k⟩ := h
    refine ⟨_, (pss_cons (ps_set (i := 3) scLook.nd rfl (.inl rfl) (pe_callB (r := rLen K) call_len_seq (by rfl) T.len PySem.boot_len (pa_cons (pv 2) pa_nil)))
      (pss_cons (ps_expr (pe_bm PySem.F.plainAttrs_list PySem.F.slot_list_append PySem.F.type_list_append mt_append (pv 2) (pa_cons pe_bl pa_nil)))
      (pss_cons (ps_set (i := 4) scLook.nd rfl (.inl rfl) (pe_ifExp (PW.pt (pw_or (pt_val (pe_ix (r := rIxL K) ix_list (pv 2) (pv 0) (fun _ _ => rfl))) (pw_or1 (pt_cmpR op_le (pe_ix (r := rIxL K) ix_list (pv 1) (pv 3) (fun _ _ => rfl)) (pe_ix (r := rIxL K) ix_list (pv 1) (pv 0) (fun _ _ => rfl)) (nomark _))))) (pv 3) (pv 0)))
      (pss_cons (ps_asg pe_bl (pg_sub (pv 2) (pv 4) set_list))
      (pss_one (ps_ret (pv 4))))))), ?_⟩
    refine ⟨_, rfl, wt, _, rfl, .inl (SqL.of h2), ?_⟩
    refine ⟨_, rfl, .inl ⟨rfl, _, SqL.of h2⟩, wt, _, _, rfl, rfl, h2, small1000 (by rw [List.length_map]; exact hw), ?_⟩
    have ew : wait.map V.bl ++ [V.bl false] = (wait ++ [false]).map V.bl := by
      rw [List.map_append]
      rfl
    rw [ew, List.length_map]
    have g1 : (upd H wt (.lst ((wait ++ [false]).map V.bl))) szs = some (.lst (sizes.map natV)) := by rw [upd_ne n1]; exact h1
    have g2 : (upd H wt (.lst ((wait ++ [false]).map V.bl))) wt = some (.lst ((wait ++ [false]).map V.bl)) := upd_same
    have hwo : ((wait ++ [false]).map V.bl)[old]? = some (.bl (wait.getD old false)) := by
      rw [List.getElem?_map, List.getElem?_append_left ho, getD_at ho, List.getElem?_eq_getElem ho]
      rfl
    have kp : ∀ o, Keep (fun b => b = wt) H (upd (upd H wt (.lst ((wait ++ [false]).map V.bl))) wt o) := fun o b u nb e => by
      rw [upd_ne nb, upd_ne nb]
      exact e
    have fin : ∀ c : Nat, (c = wait.length ∨ (c = old ∧ ¬ wv wait old)) → Q (.int (c : Int)) (upd (upd H wt (.lst ((wait ++ [false]).map V.bl))) wt (.lst (((wait ++ [false]).map V.bl).set c (.bl true)))) := fun c hc => k _ c hc (kp _) (by rw [upd_same, List.map_set])
    have set_ : ∀ c : Nat, c ≤ wait.length → ixN ((wait ++ [false]).map V.bl).length (c : Int) = some c := fun c hc => Evl.ixN_nat (by rw [List.length_map, List.length_append, List.length_singleton]; omega)
    refine ⟨_, rfl, _, rfl, wt, _, (old : Int), _, rfl, rfl, SqL.of g2, atI_nat hwo, _, rfl, ?_⟩
    cases hb : wait.getD old false with
    | true =>
      exact ⟨_, rfl, _, rfl, _, rfl, wt, _, (wait.length : Int), wait.length, rfl, rfl, g2, set_ _ (Nat.le_refl _), _, rfl, fin _ (.inl rfl)⟩
    | false =>
      have nw : ¬ wv wait old := fun q => by
        unfold wv at q
        rw [hb] at q
        cases q
      have s1 : (sizes.map natV)[wait.length]? = some (.int ((sizes.getD wait.length 0 : Nat) : Int)) := natV_get (by rw [getD_at (show wait.length < sizes.length by omega)]; exact List.getElem?_eq_getElem (show wait.length < sizes.length by omega))
      have s2 : (sizes.map natV)[old]? = some (.int ((sizes.getD old 0 : Nat) : Int)) := natV_get (by rw [getD_at (show old < sizes.length by omega)]; exact List.getElem?_eq_getElem (show old < sizes.length by omega))
      refine ⟨_, rfl, _, rfl, szs, _, (wait.length : Int), _, rfl, rfl, SqL.of g1, atI_nat s1, _, rfl, _, rfl, szs, _, (old : Int), _, rfl, rfl, SqL.of g1, atI_nat s2, _, _, rfl, rfl, _, rfl, ite2 (fun _ => ?_) (fun _ => ?_)⟩
      · exact ⟨_, rfl, _, rfl, _, rfl, wt, _, (wait.length : Int), wait.length, rfl, rfl, g2, set_ _ (Nat.le_refl _), _, rfl, fin _ (.inl rfl)⟩
      · exact ⟨_, rfl, _, rfl, _, rfl, wt, _, (old : Int), old, rfl, rfl, g2, set_ _ (by omega), _, rfl, fin _ (.inr ⟨rfl, nw⟩)⟩
end
/-! ### lists that a comprehension makes -/
def NInv {α : Type} (f : α → V) (xs : List α) (H : Hp) (D : Addr) (i : Nat) (H' : Hp) : Prop := Same H H' ∧ H' D = some (.lst ((xs.take i).map f))
theorem nstart {α : Type} {f : α → V} {xs : List α} {H : Hp} {D : Addr} (hD : H D = none) : NInv f xs H D 0 (upd H D (.lst [])) := ⟨same_new hD, upd_same⟩
theorem nturn {α : Type} {f : α → V} {xs : List α} {H H' H'' : Hp} {D : Addr} {i : Nat} {x : α} (hz : xs.length < sizeLine) (hD : H D = none) (hx : xs[i]? = some x) (p : NInv f xs H D i H') (s2 : Same H' H'') :
    ∃ acc, H'' D = some (.lst acc) ∧ acc.length < sizeLine ∧ NInv f xs H D (i + 1) (upd H'' D (.lst (acc ++ [f x]))) := by
  obtain ⟨sm, hl⟩ := p
  refine ⟨_, s2 _ _ hl, ?_, fun b o q => ?_, ?_⟩
  · rw [List.length_map, List.length_take]
    omega
  · rw [upd_ne (ne_of_none q hD)]
    exact s2 _ _ (sm _ _ q)
  · rw [upd_same, List.take_add_one, hx, List.map_append]
    rfl
theorem nend {α : Type} {f : α → V} {xs : List α} {H H' : Hp} {D : Addr} {n : Nat} (e : n = xs.length) (p : NInv f xs H D n H') : Same H H' ∧ H' D = some (.lst (xs.map f)) := by
  obtain ⟨sm, hl⟩ := p
  rw [e, List.take_length] at hl
  exact ⟨sm, hl⟩
/-! .. by picking some -/
def KInv {α : Type} (t : α → Bool) (f : α → V) (xs : List α) (H : Hp) (D : Addr) (i : Nat) (H' : Hp) : Prop := Same H H' ∧ H' D = some (.lst (((xs.take i).filter t).map f))
theorem kstart {α : Type} {t : α → Bool} {f : α → V} {xs : List α} {H : Hp} {D : Addr} (hD : H D = none) : KInv t f xs H D 0 (upd H D (.lst [])) := ⟨same_new hD, upd_same⟩
theorem kyes {α : Type} {t : α → Bool} {f : α → V} {xs : List α} {H H' H'' : Hp} {D : Addr} {i : Nat} {x : α} (hz : xs.length < sizeLine) (hD : H D = none) (hx : xs[i]? = some x) (ht : t x = true) (p : KInv t f xs H D i H') (s2 : Same H' H'') :
    ∃ acc, H'' D = some (.lst acc) ∧ acc.length < sizeLine ∧ KInv t f xs H D (i + 1) (upd H'' D (.lst (acc ++ [f x]))) := by
  obtain ⟨sm, hl⟩ := p
  refine ⟨_, s2 _ _ hl, ?_, fun b o q => ?_, ?_⟩
  · rw [List.length_map]
    have h1 := List.length_filter_le t (xs.take i)
    rw [List.length_take] at h1
    omega
  · rw [upd_ne (ne_of_none q hD)]
    exact s2 _ _ (sm _ _ q)
  · rw [upd_same, List.take_add_one, hx, List.filter_append, List.map_append]
    show _ = some (HO.lst (_ ++ ([x].filter t).map f))
    rw [List.filter_cons, if_pos ht]
    rfl
theorem kno {α : Type} {t : α → Bool} {f : α → V} {xs : List α} {H H' H'' : Hp} {D : Addr} {i : Nat} {x : α} (hx : xs[i]? = some x) (ht : t x = false) (p : KInv t f xs H D i H') (s2 : Same H' H'') : KInv t f xs H D (i + 1) H'' := by
  obtain ⟨sm, hl⟩ := p
  refine ⟨sm.trans s2, ?_⟩
  rw [s2 _ _ hl, List.take_add_one, hx, List.filter_append, List.map_append]
  show _ = some (HO.lst (_ ++ ([x].filter t).map f))
  rw [List.filter_cons, if_neg (by rw [ht]; exact Bool.false_ne_true)]
  simp
theorem kend {α : Type} {t : α → Bool} {f : α → V} {xs : List α} {H H' : Hp} {D : Addr} {n : Nat} (e : n = xs.length) (p : KInv t f xs H D n H') : Same H H' ∧ H' D = some (.lst ((xs.filter t).map f)) := by
  obtain ⟨sm, hl⟩ := p
  rw [e, List.take_length] at hl
  exact ⟨sm, hl⟩

/-! ### the dict of numbers, by the order in which they came -/
def numKv (k : Nat) : List Nat → List (Key × V)
  | [] => []
  | b :: bs => (.inl (b : Int), .int (k : Int)) :: numKv (k + 1) bs
theorem numKv_len : ∀ (nums : List Nat) (k : Nat), (numKv k nums).length = nums.length
  | [], _ => rfl
  | b :: bs, k => congrArg (· + 1) (numKv_len bs (k + 1))
theorem numKv_snoc : ∀ (nums : List Nat) (k b : Nat), numKv k (nums ++ [b]) = numKv k nums ++ [(.inl (b : Int), .int ((k + nums.length : Nat) : Int))]
  | [], k, b => rfl
  | c :: bs, k, b => by
    show (_ :: numKv (k + 1) (bs ++ [b])) = _ :: (numKv (k + 1) bs ++ _)
    rw [numKv_snoc bs (k + 1) b, List.length_cons, show k + 1 + bs.length = k + (bs.length + 1) by omega]
theorem inl_ne {a b : Nat} (h : a ≠ b) : (Sum.inl (a : Int) : Key) ≠ .inl (b : Int) := fun e => h (by have := Sum.inl.inj e; omega)
theorem numKv_any : ∀ (nums : List Nat) (k b : Nat), b ∉ nums → (numKv k nums).any (fun kv => decide (kv.1 = (.inl (b : Int) : Key))) = false
  | [], _, _, _ => rfl
  | c :: bs, k, b, h => by
    show (decide ((.inl (c : Int) : Key) = .inl (b : Int)) || (numKv (k + 1) bs).any _) = false
    rw [decide_eq_false (inl_ne (a := c) (b := b) fun e => h (by rw [e]; exact List.mem_cons_self)), numKv_any bs (k + 1) b (fun q => h (List.mem_cons_of_mem c q))]
    rfl
theorem numKv_no {nums : List Nat} {k b : Nat} (h : b ∉ nums) : valV (numKv k nums) (.inl (b : Int)) = none := by
  unfold valV
  have := numKv_any nums k b h
  rw [List.any_eq_false] at this
  rw [List.find?_eq_none.mpr fun x hx => this x hx]
  rfl
theorem numKv_at : ∀ (nums : List Nat) (k j b : Nat), nums.Nodup → nums[j]? = some b → valV (numKv k nums) (.inl (b : Int)) = some (.int ((k + j : Nat) : Int))
  | [], _, _, _, _, h => by cases h
  | c :: bs, k, 0, b, _, h => by
    cases h
    unfold valV
    show Option.map _ (List.find? _ ((.inl (c : Int), .int (k : Int)) :: numKv (k + 1) bs)) = _
    rw [List.find?_cons_of_pos (by exact decide_eq_true rfl)]
    rfl
  | c :: bs, k, j + 1, b, nd, h => by
    obtain ⟨n1, n2⟩ := List.nodup_cons.mp nd
    have h' : bs[j]? = some b := h
    have ne : c ≠ b := fun e => n1 (e ▸ List.mem_of_getElem? h')
    have ih := numKv_at bs (k + 1) j b n2 h'
    unfold valV at ih ⊢
    show Option.map _ (List.find? _ ((.inl (c : Int), .int (k : Int)) :: numKv (k + 1) bs)) = _
    rw [List.find?_cons_of_neg (by rw [decide_eq_true_eq]; exact inl_ne ne), ih, show k + 1 + j = k + (j + 1) by omega]
theorem numKv_put {nums : List Nat} {b : Nat} (h : b ∉ nums) : putK (numKv 0 nums) (.inl (b : Int)) (.int ((nums.length : Nat) : Int)) = numKv 0 (nums ++ [b]) := by
  unfold putK
  rw [if_neg (by rw [numKv_any nums 0 b h]; exact Bool.false_ne_true), numKv_snoc, Nat.zero_add]
theorem oV_at {block : List (Option Nat)} {t : Nat} (h : t < block.length) : (block.map oV)[t]? = some (oV (bv block t)) := by
  unfold bv
  rw [List.getElem?_map, getD_at h, List.getElem?_eq_getElem h]
  rfl
theorem keep_store {B : Addr → Prop} {H : Hp} {p : Addr} {o : HO} (hp : B p) : Keep B H (upd H p o) := fun b u nb e => by
  rw [upd_ne (show b ≠ p from fun z => nb (by rw [z]; exact hp))]
  exact e
theorem rd_keep {H : Hp} {a : Addr} {xs : List V} {o : HO} {p : Addr} (h : Rd H a (.tup xs)) (hp : H p = some o) (no : ∀ ys, o ≠ .tup ys) (nf : ∀ ob ys, o ≠ .frz ob (.tup ys)) {u : HO} : Rd (upd H p u) a (.tup xs) := by
  have ne : a ≠ p := fun z => by
    rw [z] at h
    rcases h with h | ⟨ob, h⟩
    · rw [hp] at h
      exact no _ (Option.some.inj h)
    · rw [hp] at h
      exact nf _ _ (Option.some.inj h)
  rcases h with h | ⟨ob, h⟩
  · exact .inl (by rw [upd_ne ne]; exact h)
  · exact .inr ⟨ob, by rw [upd_ne ne]; exact h⟩

section
variable {P : Program} {w : World} {K : PySem.W.Frag} {mg : Str → Option Value} {base : Heap}
theorem scNumbered : FnScope ["rows", "marks", "block", "numbers", "picked", "done", "row", "state", "target", "first"] ["rows", "marks", "block"] (defScope sNumbered) := ⟨rfl, rfl, rfl, by decide +kernel, rfl, by decide +kernel, by decide +kernel⟩
def spNumbered (K : PySem.W.Frag) : Sp := fun vs H Q _ => ∃ (L : Nat) (rs : Rows) (es : List Bool) (m pr pe mk blk : Addr) (rvs : List V) (mks : List Nat) (block : List (Option Nat)) (B : Addr → Prop), vs = [.ref pr, .ref mk, .ref blk] ∧ MOk L rs es ∧ MA H L rs es m pr pe rvs ∧ TB B H ∧
  H mk = some (.lst (mks.map natV)) ∧ mks.length = rs.length ∧ H blk = some (.lst (block.map oV)) ∧ block.length = rs.length ∧ PB rs es L (bv block) ∧ (∃ b, bv block 0 = some b) ∧
  ∀ (H' : Hp) (r p1 p2 : Addr) (picked nums : List Nat) (done : Rws), Same H H' → Rd H' r (.tup [.ref p1, .ref p2]) → Dt B K H' (.ref p1) (.tuple (done.map rowDt)) → Rd H' p2 (.tup ((picked.map fun p => mks.getD p 0).map natV)) → NI rs L (bv block) picked nums done [] → done.length = picked.length → Q (.ref r) H'
theorem ni_lt {rs : Rws} {es : List Bool} {L : Nat} {bl : Nat → Option Nat} {picked nums : List Nat} {done : Rws} {row : List (Option Nat)} (h : NI rs L bl picked nums done row) (B : PB rs es L bl) : (∀ p ∈ picked, p < rs.length) ∧ picked.length ≤ rs.length := by
  have h1 : ∀ p ∈ picked, p < rs.length := fun p hp => by
    obtain ⟨i, hi⟩ := List.mem_iff_getElem?.mp hp
    obtain ⟨b, _, hb⟩ := h.at_ hi
    exact (B.inn p b hb).1
  refine ⟨h1, nodup_len ?_ h1⟩
  refine List.pairwise_iff_getElem.mpr fun i j hi hj l e => ?_
  obtain ⟨b, b1, b2⟩ := h.at_ (List.getElem?_eq_getElem hi)
  obtain ⟨c, c1, c2⟩ := h.at_ (List.getElem?_eq_getElem hj)
  rw [e, c2] at b2
  have := nodup_at h.nd b1 (Option.some.inj b2 ▸ c1)
  omega
theorem ok_numbered {f : Addr} {fd : FuncData} (F : Fun K "numbered" "numbered" sNumbered f fd) (T : Mg mg) : FnOk P w K mg base CX0 1 f fd ["rows", "marks", "block"] (spNumbered K) := by
  refine F.ok scNumbered (fun vs H Q E h => ?_) (fun cdv A outer s H vs Q E hr h => ?_)
  · obtain ⟨L, rs, es, m, pr, pe, mk, blk, rvs, mks, block, B, rfl, _⟩ := h
    rfl
  · obtain ⟨L, rs, es, m, pr, pe, mk, blk, rvs, mks, block, B, rfl, M, MM, tb, hmk, lmk, hblk, lblk, PBk, ⟨b0, hb0⟩, k⟩ := h
    have hu1 := hu_of hr
    have l4 := M.l400
    have l1 := M.l1
    refine ⟨_, (pss_cons (ps_set (i := 3) scNumbered.nd rfl (.inl rfl) (pe_disp (pps_cons (pe_ix (r := rIxL K) ix_list (pv 2) pe_int (fun _ _ => rfl)) pe_int pps_nil) (by rfl) (by rfl) (fun z => by cases z) (by decide)))
      (pss_cons (ps_set (i := 4) scNumbered.nd rfl (.inl rfl) (pe_lst (pa_cons pe_int pa_nil)))
      (pss_cons (ps_set (i := 5) scNumbered.nd rfl (.inl rfl) (pe_lst pa_nil))
      (pss_cons (ps_while PassesOwn.never (pt_cmpR op_lt (pe_callB (r := rLen K) call_len_seq (by rfl) T.len PySem.boot_len (pa_cons (pv 5) pa_nil)) (pe_callB (r := rLen K) call_len_seq (by rfl) T.len PySem.boot_len (pa_cons (pv 4) pa_nil)) (nomark _)) (pss_cons (ps_set (i := 6) scNumbered.nd rfl (.inl rfl) (pe_lst pa_nil))
      (pss_cons (ps_set (i := 7) scNumbered.nd rfl (.inl rfl) (pe_ix (r := rIxL K) ix_list (pv 4) (pe_callB (r := rLen K) call_len_seq (by rfl) T.len PySem.boot_len (pa_cons (pv 5) pa_nil)) (fun _ _ => rfl)))
      (pss_cons (ps_for PassesOwn.never rfl (pi_tup (pe_ix (r := rIxT K) ix_tup (pv 0) (pv 7) (fun _ _ => rfl))) (pg_name (i := 8) scNumbered.nd rfl (.inl rfl)) (pss_cons (ps_if (PW.pt (pw_or (pt_cmp (pc_isN (pv 8))) (pw_or1 (pt_cmp (pc_isN (pe_ix (r := rIxL K) ix_list (pv 2) (pv 8) (fun _ _ => rfl))))))) (pss_cons (ps_expr (pe_bm PySem.F.plainAttrs_list PySem.F.slot_list_append PySem.F.type_list_append mt_append (pv 6) (pa_cons pe_non pa_nil)))
      (pss_one ps_continue)) pss_nil)
      (pss_cons (ps_if (pt_cmp (pc_dnotin hu1 (pe_ix (r := rIxL K) ix_list (pv 2) (pv 8) (fun _ _ => rfl)) (pv 3))) (pss_cons (ps_asg (pe_callB (r := rLen K) call_len_seq (by rfl) T.len PySem.boot_len (pa_cons (pv 4) pa_nil)) (pg_sub (pv 3) (pe_ix (r := rIxL K) ix_list (pv 2) (pv 8) (fun _ _ => rfl)) (set_dict hu1)))
      (pss_one (ps_expr (pe_bm PySem.F.plainAttrs_list PySem.F.slot_list_append PySem.F.type_list_append mt_append (pv 4) (pa_cons (pv 8) pa_nil))))) pss_nil)
      (pss_one (ps_expr (pe_bm PySem.F.plainAttrs_list PySem.F.slot_list_append PySem.F.type_list_append mt_append (pv 6) (pa_cons (pe_dget hu1 (pv 3) (pe_ix (r := rIxL K) ix_list (pv 2) (pv 8) (fun _ _ => rfl)) (fun _ _ => rfl)) pa_nil)))))))
      (pss_one (ps_expr (pe_bm PySem.F.plainAttrs_list PySem.F.slot_list_append PySem.F.type_list_append mt_append (pv 5) (pa_cons (pe_callTy (r := rTup K) call_tuple_of (by rfl) T.tuple PyProof.Rows.boot_tuple (pa_cons (pv 6) pa_nil)) pa_nil))))))))
      (pss_one (ps_ret (pe_tup (pa_cons (pe_callTy (r := rTup K) call_tuple_of (by rfl) T.tuple PyProof.Rows.boot_tuple (pa_cons (pv 5) pa_nil)) (pa_cons (pe_callTy (r := rTup K) call_tuple_of (by rfl) T.tuple PyProof.Rows.boot_tuple (pa_cons (pe_lc (own := [("first", 9)]) (g := gName 9) (tt := tYes) rfl scNumbered.nd (pi_list (pv 4)) (blkOk_by (N := ["rows", "marks", "block", "numbers", "picked", "done", "row", "state", "target", "first"]) (sc := defScope sNumbered) (by decide +kernel)) (fun _ _ _ _ _ => pg_name (i := 9) scNumbered.nd rfl (Or.inl rfl)) (fun _ _ _ _ _ => pts_nil) (fun _ _ _ _ _ => (pe_ix (r := rIxL K) ix_list (pv 1) (pv 9) (fun _ _ => rfl)))) pa_nil)) pa_nil))))))))), ?_⟩
    intro dn hdn
    have s1 := same_new (o := .dK []) hdn
    have hb1 := s1 _ _ hblk
    have e0 : (block.map oV)[0]? = some (.int (b0 : Int)) := by
      rw [oV_at (by omega), hb0]
      rfl
    refine ⟨_, rfl, blk, _, 0, _, rfl, rfl, SqL.of hb1, atI_nat (j := 0) e0, upd_same, [(.inl (b0 : Int), .int 0)], rfl, by show 1 ≤ 15; decide, ?_⟩
    rw [upd_upd]
    have s1 := same_new (o := .dK (mergeK [] [(.inl (b0 : Int), V.int 0)])) hdn
    have hd1 : (upd H dn (.dK (mergeK [] [(.inl (b0 : Int), V.int 0)]))) dn = some (.dK (numKv 0 [b0])) := upd_same
    generalize upd H dn (.dK (mergeK [] [(.inl (b0 : Int), V.int 0)])) = G1 at *
    refine ⟨by show 1 ≤ sizeLine; decide, fun pk hpk => ?_⟩
    have s2 := same_new (o := .lst [.int 0]) hpk
    have hp2 : (upd G1 pk (.lst [.int 0])) pk = some (.lst ([0].map natV)) := upd_same
    have hd2 := s2 _ _ hd1
    generalize upd G1 pk (.lst [.int 0]) = G2 at *
    refine ⟨by show 0 ≤ sizeLine; decide, fun dl hdl => ?_⟩
    have s3 := same_new (o := .lst []) hdl
    have hl3 : (upd G2 dl (.lst [])) dl = some (.lst []) := upd_same
    have hd3 := s3 _ _ hd2
    have hp3 := s3 _ _ hp2
    generalize upd G2 dl (.lst []) = G3 at *
    have s13 := (s1.trans s2).trans s3
    have nkd : pk ≠ dn := fun z => by rw [z, hd1] at hpk; cases hpk
    have nld : dl ≠ dn := fun z => by rw [z, hd2] at hdl; cases hdl
    have nlk : dl ≠ pk := fun z => by rw [z, hp2] at hdl; cases hdl
    have fr : ∀ {b : Addr} {u : HO}, H b = some u → b ≠ dn ∧ b ≠ pk ∧ b ≠ dl := fun {b u} e => ⟨fun z => (by rw [z] at e; rw [e] at hdn; cases hdn), fun z => (by rw [z] at e; rw [s1 _ _ e] at hpk; cases hpk), fun z => (by rw [z] at e; rw [s2 _ _ (s1 _ _ e)] at hdl; cases hdl)⟩
    have tbW : ∀ {H' : Hp}, Same H H' → (∃ o, H' dn = some o) → (∃ o, H' pk = some o) → (∃ o, H' dl = some o) → TB (fun b => B b ∨ b = dn ∨ b = pk ∨ b = dl) H' := fun {H'} sm h1 h2 h3 b z e => by
      rcases z with z | z | z | z
      · exact tb_same sm tb b z e
      · obtain ⟨o, h1⟩ := h1
        rw [z, h1] at e
        cases e
      · obtain ⟨o, h2⟩ := h2
        rw [z, h2] at e
        cases e
      · obtain ⟨o, h3⟩ := h3
        rw [z, h3] at e
        cases e
    refine while_by (fun σ H' => ∃ (picked nums : List Nat) (done : Rws) (dvs : List V) (y6 y7 y8 : Option V), σ = [some (.ref pr), some (.ref mk), some (.ref blk), some (.ref dn), some (.ref pk), some (.ref dl), y6, y7, y8, none] ∧ Same H H' ∧ H' dn = some (.dK (numKv 0 nums)) ∧ H' pk = some (.lst (picked.map natV)) ∧ H' dl = some (.lst dvs) ∧ DtAll (fun b => B b ∨ b = dn ∨ b = pk ∨ b = dl) K H' dvs (done.map rowDt) ∧ NI rs L (bv block) picked nums done [])
      (fun (_ : List (Option V)) (H' : Hp) => match H' dl with
        | some (.lst xs) => 401 - xs.length
        | _ => 0) ⟨[0], [b0], [], [], none, none, none, rfl, s13, hd3, hp3, hl3, .nil, ni_start hb0⟩ ?_ ?_
    · rintro σ H1 ⟨picked, nums, done, dvs, y6, y7, y8, rfl, sm, hd, hp, hl, hdv, ni⟩
      have ldv := hdv.len
      rw [List.length_map] at ldv
      obtain ⟨plt, pln⟩ := ni_lt ni PBk
      refine ⟨_, rfl, dl, _, rfl, .inl (SqL.of hl), _, rfl, pk, _, rfl, .inl (SqL.of hp), _, _, rfl, rfl, _, rfl, ite2 (fun hlt => ?_) fun hlt => ?_⟩
      · have hlt := of_decide_eq_true hlt
        rw [List.length_map] at hlt
        have hdl' : done.length < picked.length := by omega
        refine ⟨by show 0 ≤ sizeLine; decide, fun rw_ hrw => ?_⟩
        have sr := same_new (o := .lst []) hrw
        have hrw1 : (upd H1 rw_ (.lst [])) rw_ = some (.lst (([] : List (Option Nat)).map oV)) := upd_same
        have hu : picked[done.length]? = some picked[done.length] := List.getElem?_eq_getElem hdl'
        have hun := plt _ (List.getElem_mem hdl')
        generalize picked[done.length] = u at *
        have nrd : rw_ ≠ dn := fun z => by rw [z, hd] at hrw; cases hrw
        have nrk : rw_ ≠ pk := fun z => by rw [z, hp] at hrw; cases hrw
        have nrl : rw_ ≠ dl := fun z => by rw [z, hl] at hrw; cases hrw
        have hdv1 := same_all sr (DtAll.off hrw _ _ hdv)
        have hd := sr _ _ hd
        have hp := sr _ _ hp
        have hl0 := hl
        have hl := sr _ _ hl
        have smr := sm.trans sr
        have rwn : ∀ {b : Addr} {u : HO}, H b = some u → b ≠ rw_ := fun {b u} e z => by
          rw [z] at e
          rw [sm _ _ e] at hrw
          cases hrw
        generalize upd H1 rw_ (.lst []) = G4 at *
        refine ⟨_, rfl, _, rfl, dl, _, rfl, .inl (SqL.of hl), pk, _, _, _, rfl, rfl, SqL.of hp, atI_nat (natV_get (by rw [ldv]; exact hu)), ?_⟩
        have hrow : rs[u]? = some rs[u] := List.getElem?_eq_getElem hun
        have hmr := List.getElem_mem hun
        have hnx : ∀ c, nx rs u c = (rs[u]).getD c none := fun c => by
          unfold nx
          rw [getD_at hun]
        generalize rs[u] = row at *
        have MM1 := MM.same smr
        obtain ⟨q, hq1, hq2⟩ := MM1.row u row hrow
        refine ⟨_, rfl, _, rfl, pr, rvs, (u : Int), _, rfl, rfl, .inl MM1.hr, atI_nat hq1, q, rfl, ⟨_, .inl hq2⟩, ?_⟩
        refine for_tup (K := K) (a := q) (xs := row.map oV) (fun j σ H' => (∃ y8, σ = [some (.ref pr), some (.ref mk), some (.ref blk), some (.ref dn), some (.ref pk), some (.ref dl), some (.ref rw_), some (.int (u : Int)), y8, none]) ∧ Same H H' ∧ Rd H' q (.tup (row.map oV)) ∧ ∃ (picked nums : List Nat) (r : List (Option Nat)), H' dn = some (.dK (numKv 0 nums)) ∧ H' pk = some (.lst (picked.map natV)) ∧ H' dl = some (.lst dvs) ∧ H' rw_ = some (.lst (r.map oV)) ∧ r.length = j ∧ picked[done.length]? = some u ∧
            DtAll (fun b => (B b ∨ b = dn ∨ b = pk ∨ b = dl) ∨ b = rw_) K H' dvs (done.map rowDt) ∧ NI rs L (bv block) picked nums done r) ⟨⟨_, rfl⟩, smr, hq2, picked, nums, [], hd, hp, hl, hrw1, rfl, hu, hdv1, ni⟩ (fun j σ H' _ p => .inl p.2.2.1) ?_ ?_
        · rintro j x σ H2 hx ⟨⟨y8, rfl⟩, sm2, hq3, picked, nums, r, hd, hp, hl, hr2, lr, hu, hdv2, ni⟩
          rw [List.getElem?_map] at hx
          obtain ⟨tg, hj, rfl⟩ := Option.map_eq_some_iff.mp hx
          have hjl := (List.getElem?_eq_some_iff.mp hj).1
          have hrl := M.row row hmr
          have L3 := M.L3
          have nxj : nx rs u j = tg := by rw [hnx, List.getD_eq_getElem?_getD, hj]; rfl
          have hb2 := sm2 _ _ hblk
          have app : ∀ (e : Option Nat) (G : Hp) (picked' nums' : List Nat), Same H G → Rd G q (.tup (row.map oV)) → G dn = some (.dK (numKv 0 nums')) → G pk = some (.lst (picked'.map natV)) → G dl = some (.lst dvs) → G rw_ = some (.lst (r.map oV)) → picked'[done.length]? = some u → DtAll (fun b => (B b ∨ b = dn ∨ b = pk ∨ b = dl) ∨ b = rw_) K G dvs (done.map rowDt) → NI rs L (bv block) picked' nums' done (r ++ [e]) →
              (r.map oV).length < sizeLine ∧ Same H (upd G rw_ (.lst (r.map oV ++ [oV e]))) ∧ Rd (upd G rw_ (.lst (r.map oV ++ [oV e]))) q (.tup (row.map oV)) ∧ ∃ (picked nums : List Nat) (r' : List (Option Nat)), (upd G rw_ (.lst (r.map oV ++ [oV e]))) dn = some (.dK (numKv 0 nums)) ∧ (upd G rw_ (.lst (r.map oV ++ [oV e]))) pk = some (.lst (picked.map natV)) ∧ (upd G rw_ (.lst (r.map oV ++ [oV e]))) dl = some (.lst dvs) ∧ (upd G rw_ (.lst (r.map oV ++ [oV e]))) rw_ = some (.lst (r'.map oV)) ∧ r'.length = j + 1 ∧ picked[done.length]? = some u ∧
            DtAll (fun b => (B b ∨ b = dn ∨ b = pk ∨ b = dl) ∨ b = rw_) K (upd G rw_ (.lst (r.map oV ++ [oV e]))) dvs (done.map rowDt) ∧ NI rs L (bv block) picked nums done r' := fun e G picked' nums' a1 a2 a3 a4 a5 a6 a7 a8 a9 => by
            refine ⟨small1000 (by rw [List.length_map]; omega), fun b u z => ?_, rd_keep a2 a6 (fun _ z => by cases z) (fun _ _ z => by cases z), picked', nums', r ++ [e], by rw [upd_ne nrd.symm]; exact a3, by rw [upd_ne nrk.symm]; exact a4, by rw [upd_ne nrl.symm]; exact a5, by rw [upd_same, List.map_append]; rfl, by rw [List.length_append, lr]; rfl, a7, DtAll.keep (keep_store (.inr rfl)) _ _ a8, a9⟩
            rw [upd_ne (rwn z)]
            exact a1 _ _ z
          refine ⟨_, rfl, _, rfl, ?_⟩
          cases tg with
          | none =>
            obtain ⟨c1, c2, c3, c4⟩ := app none H2 picked nums sm2 hq3 hd hp hl hr2 hu hdv2 (ni.none_ fun p t hp' ht => by
              rw [hu] at hp'
              cases hp'
              rw [lr, nxj] at ht
              cases ht)
            exact ⟨_, rfl, .inl ⟨rfl, _, SqL.of hr2⟩, rw_, _, _, rfl, rfl, hr2, c1, ⟨_, rfl⟩, c2, c3, c4⟩
          | some t =>
            have tl := M.tgt row hmr t (List.mem_of_getElem? hj)
            have hbt := oV_at (block := block) (t := t) (by omega)
            refine ⟨_, rfl, _, rfl, blk, _, (t : Int), _, rfl, rfl, SqL.of hb2, atI_nat hbt, ?_⟩
            cases hbv : bv block t with
            | none =>
              obtain ⟨c1, c2, c3, c4⟩ := app none H2 picked nums sm2 hq3 hd hp hl hr2 hu hdv2 (ni.none_ fun p t' hp' ht => by
                rw [hu] at hp'
                cases hp'
                rw [lr, nxj] at ht
                cases ht
                exact hbv)
              exact ⟨_, rfl, _, rfl, .inl ⟨rfl, _, SqL.of hr2⟩, rw_, _, _, rfl, rfl, hr2, c1, ⟨_, rfl⟩, c2, c3, c4⟩
            | some b =>
              have hbt' : (block.map oV)[t]? = some (.int (b : Int)) := by
                rw [hbt, hbv]
                rfl
              have ht' : nx rs u r.length = some t := by rw [lr, nxj]
              have dg : DGet H2 dn (.int (b : Int)) (valV (numKv 0 nums) (.inl (b : Int))) := DGet.k (k := .inl (b : Int)) hd
              refine ⟨_, rfl, _, rfl, _, rfl, blk, _, (t : Int), _, rfl, rfl, SqL.of hb2, atI_nat hbt', _, rfl, dn, _, rfl, dg, _, rfl, ?_⟩
              by_cases hin : b ∈ nums
              · obtain ⟨i, hi⟩ := List.mem_iff_getElem?.mp hin
                have hv := numKv_at nums 0 i b ni.nd hi
                rw [Nat.zero_add] at hv
                rw [hv]
                obtain ⟨c1, c2, c3, c4⟩ := app (some i) H2 picked nums sm2 hq3 hd hp hl hr2 hu hdv2 (ni.some_ hu ht' hbv hi)
                exact ⟨_, rfl, .inl ⟨rfl, _, SqL.of hr2⟩, _, rfl, _, rfl, _, rfl, blk, _, (t : Int), _, rfl, rfl, SqL.of hb2, atI_nat hbt', dn, _, rfl, (by rw [hv] at dg; exact dg), rw_, _, _, rfl, rfl, hr2, c1, ⟨_, rfl⟩, c2, c3, c4⟩
              · rw [numKv_no hin]
                have fb := ni.fresh hu ht' hbv hin
                have lnm := ni.len
                obtain ⟨_, fbl⟩ := ni_lt fb PBk
                rw [List.length_append, List.length_singleton] at fbl
                have nl15 : (numKv 0 nums).length < sizeLine := small1000 (by rw [numKv_len]; omega)
                have dp : DPut H2 dn (.int (b : Int)) (.int ((picked.map natV).length : Int)) (upd H2 dn (.dK (numKv 0 (nums ++ [b])))) := by
                  have := DPut.k (k := .inl (b : Int)) (v := .int ((picked.map natV).length : Int)) hd nl15
                  rw [List.length_map, lnm, numKv_put hin] at this
                  rw [List.length_map, lnm]
                  exact this
                have w1 : ∀ {z : Addr} {o : HO}, z ≠ dn → H2 z = some o → (upd H2 dn (.dK (numKv 0 (nums ++ [b])))) z = some o := fun ne e => by rw [upd_ne ne]; exact e
                have hp1 := w1 nkd hp
                have hl1 := w1 nld hl
                have hr1 := w1 nrd hr2
                have hd1 : (upd H2 dn (.dK (numKv 0 (nums ++ [b])))) dn = some (.dK (numKv 0 (nums ++ [b]))) := upd_same
                have hq1' := rd_keep (u := .dK (numKv 0 (nums ++ [b]))) hq3 hd (fun _ z => by cases z) (fun _ _ z => by cases z)
                have sm1 : Same H (upd H2 dn (.dK (numKv 0 (nums ++ [b])))) := fun z o e => w1 (fr e).1 (sm2 _ _ e)
                have hdv3 := DtAll.keep (keep_store (p := dn) (o := .dK (numKv 0 (nums ++ [b]))) (.inl (.inr (.inl rfl)))) _ _ hdv2
                have hblk1 := sm1 _ _ hblk
                generalize upd H2 dn (.dK (numKv 0 (nums ++ [b]))) = G1 at *
                refine ⟨_, rfl, pk, _, rfl, .inl (SqL.of hp), _, rfl, _, rfl, _, rfl, blk, _, (t : Int), _, rfl, rfl, SqL.of hb2, atI_nat hbt', dn, G1, rfl, dp, ?_⟩
                refine ⟨_, rfl, .inl ⟨rfl, _, SqL.of hp1⟩, _, rfl, pk, _, _, rfl, rfl, hp1, small1000 (by rw [List.length_map]; omega), ?_⟩
                have ep : picked.map natV ++ [V.int (t : Int)] = (picked ++ [t]).map natV := by
                  rw [List.map_append]
                  rfl
                have ep' : picked.map natV ++ [oV (some t)] = (picked ++ [t]).map natV := ep
                rw [ep']
                have w2 : ∀ {z : Addr} {o : HO}, z ≠ pk → G1 z = some o → (upd G1 pk (.lst ((picked ++ [t]).map natV))) z = some o := fun ne e => by rw [upd_ne ne]; exact e
                have hd2 := w2 nkd.symm hd1
                have hl2 := w2 nlk hl1
                have hr3 := w2 nrk hr1
                have hp2 : (upd G1 pk (.lst ((picked ++ [t]).map natV))) pk = some (.lst ((picked ++ [t]).map natV)) := upd_same
                have hq2' := rd_keep (u := .lst ((picked ++ [t]).map natV)) hq1' hp1 (fun _ z => by cases z) (fun _ _ z => by cases z)
                have sm3 : Same H (upd G1 pk (.lst ((picked ++ [t]).map natV))) := fun z o e => w2 (fr e).2.1 (sm1 _ _ e)
                have hdv4 := DtAll.keep (keep_store (p := pk) (o := .lst ((picked ++ [t]).map natV)) (.inl (.inr (.inr (.inl rfl))))) _ _ hdv3
                generalize upd G1 pk (.lst ((picked ++ [t]).map natV)) = G2 at *
                have hv := numKv_at (nums ++ [b]) 0 nums.length b fb.nd (by rw [List.getElem?_append_right (Nat.le_refl _), Nat.sub_self]; rfl)
                rw [Nat.zero_add, ← lnm] at hv
                have dg2 : DGet G2 dn (.int (b : Int)) (valV (numKv 0 (nums ++ [b])) (.inl (b : Int))) := DGet.k (k := .inl (b : Int)) hd2
                rw [hv] at dg2
                obtain ⟨c1, c2, c3, c4⟩ := app (some picked.length) G2 (picked ++ [t]) (nums ++ [b]) sm3 hq2' hd2 hp2 hl2 hr3 (by rw [List.getElem?_append_left (List.getElem?_eq_some_iff.mp hu).1]; exact hu) hdv4 fb
                exact ⟨_, rfl, .inl ⟨rfl, _, SqL.of hr3⟩, _, rfl, _, rfl, _, rfl, blk, _, (t : Int), _, rfl, rfl, SqL.of (sm3 _ _ hblk), atI_nat hbt', dn, _, rfl, dg2, rw_, _, _, rfl, rfl, hr3, c1, ⟨_, rfl⟩, c2, c3, c4⟩
        · rintro σ H2 ⟨⟨y8, rfl⟩, sm2, hq3, picked, nums, r, hd, hp, hl, hr2, lr, hu, hdv2, ni⟩
          rw [List.length_map, M.row row hmr] at lr
          have hlu := (List.getElem?_eq_some_iff.mp hu).1
          obtain ⟨_, pln⟩ := ni_lt ni PBk
          refine ⟨_, rfl, .inl ⟨rfl, _, SqL.of hl⟩, _, rfl, rw_, _, rfl, .inl ⟨SqL.of hr2, fun t nt => ?_⟩⟩
          have st := same_new (o := .tup (r.map oV)) nt
          have hl2 := st _ _ hl
          refine ⟨dl, _, _, rfl, rfl, hl2, small1000 (by omega), ?_⟩
          have tbw := tbW sm2 ⟨_, hd⟩ ⟨_, hp⟩ ⟨_, hl⟩
          have hdv3 : DtAll (fun b => B b ∨ b = dn ∨ b = pk ∨ b = dl) K (upd H2 t (.tup (r.map oV))) (dvs ++ [.ref t]) ((done ++ [r]).map rowDt) := by
            rw [List.map_append]
            exact (same_all st (DtAll.weak (fun b z => .inl z) _ _ hdv2)).append (.cons (.tup (tb_off tbw nt) (.inl upd_same) (dt_cs o_cs r)) .nil)
          refine ⟨⟨picked, nums, done ++ [r], dvs ++ [.ref t], _, _, _, rfl, fun z o e => ?_, ?_, ?_, upd_same, DtAll.keep (keep_store (.inr (.inr (.inr rfl)))) _ _ hdv3, ni.whole lr hlu⟩, ?_⟩
          · rw [upd_ne (fr e).2.2]
            exact st _ _ (sm2 _ _ e)
          · rw [upd_ne nld.symm]
            exact st _ _ hd
          · rw [upd_ne nlk.symm]
            exact st _ _ hp
          · rw [upd_same, hl0]
            show 401 - (dvs ++ [V.ref t]).length < 401 - dvs.length
            rw [List.length_append, List.length_singleton]
            omega
      · have hge : ¬ ((dvs.length : Int) < ((picked.map natV).length : Int)) := fun z => hlt (decide_eq_true z)
        rw [List.length_map] at hge
        have hle := ni.lt
        have heq : done.length = picked.length := by omega
        have tbw := tbW sm ⟨_, hd⟩ ⟨_, hp⟩ ⟨_, hl⟩
        refine ⟨_, rfl, dl, _, rfl, .inl ⟨SqL.of hl, fun t1 nt1 => ?_⟩⟩
        have st1 := same_new (o := .tup dvs) nt1
        have dt1 : Dt B K (upd H1 t1 (.tup dvs)) (.ref t1) (.tuple (done.map rowDt)) := .tup (tb_off (tb_same sm tb) nt1) (.inl upd_same) (same_all st1 (DtAll.weak (fun b z => .inl z) _ _ hdv))
        have hp1 := st1 _ _ hp
        have sm1 := sm.trans st1
        generalize upd H1 t1 (.tup dvs) = G1 at *
        refine ⟨_, rfl, pk, rfl, ⟨_, SqL.of hp1⟩, fun D hD => ?_⟩
        refine lc_list (K := K) (a := pk) (xs := picked.map natV) (NInv (fun p : Nat => natV (mks.getD p 0)) picked G1 D) (nstart hD) (fun i H' _ q => SqL.of (q.1 _ _ hp1)) ?_ ?_
        · rintro i x H3 hx p1
          obtain ⟨u, hu, rfl⟩ := natV_of hx
          have hun := plt u (List.mem_of_getElem? hu)
          have ek : (mks.map natV)[u]? = some (natV (mks.getD u 0)) := natV_get (by rw [getD_at (show u < mks.length by omega)]; exact List.getElem?_eq_getElem (show u < mks.length by omega))
          refine ⟨rfl, _, rfl, _, rfl, mk, _, (u : Int), _, rfl, rfl, SqL.of (p1.1 _ _ (sm1 _ _ hmk)), atI_nat ek, ?_⟩
          exact nturn (f := fun p : Nat => natV (mks.getD p 0)) (small1000 (by omega)) hD hu p1 (Same.refl _)
        · rintro H3 p1
          obtain ⟨s4, hl4⟩ := nend (List.length_map _) p1
          refine ⟨D, _, rfl, .inl ⟨SqL.of hl4, fun t2 nt2 => ?_⟩⟩
          have st2 := same_new (o := .tup (picked.map fun p : Nat => natV (mks.getD p 0))) nt2
          refine ⟨by show 2 ≤ sizeLine; decide, fun r nr => ?_⟩
          have st3 := same_new (o := .tup [.ref t1, .ref t2]) nr
          have s24 := s4.trans (st2.trans st3)
          refine k _ r t1 t2 picked nums done (sm1.trans s24) (.inl upd_same) (same_dt s24 dt1) (same_rd st3 (.inl (by rw [upd_same, List.map_map]; rfl))) ni heq
    · rintro σ H1 Q1 Q2 hQ ⟨x, e1, p0, ys0, e2, e3, y, e4, p, ys, e5, e6, i, j, e7, e8, b, e9, q⟩
      exact ⟨x, e1, p0, ys0, e2, e3, y, e4, p, ys, e5, e6, i, j, e7, e8, b, e9, hQ _ _ q⟩
end
/-! ### the ways backwards, as they lie -/
structure BA (H : Hp) (bf : Addr) (ws : List Addr) (cs : List (List Addr)) (L n : Nat) (f : Nat → Nat → List Nat) : Prop where
  wl : ws.length = L
  cl : cs.length = L
  top : H bf = some (.lst (ws.map V.ref))
  mid : ∀ (c : Nat) (w : Addr) (cc : List Addr), ws[c]? = some w → cs[c]? = some cc → H w = some (.lst (cc.map V.ref)) ∧ cc.length = n
  low : ∀ (c t : Nat) (cc : List Addr) (a : Addr), cs[c]? = some cc → cc[t]? = some a → H a = some (.lst ((f c t).map natV))
/-- which addresses these are -/
def BAd (bf : Addr) (ws : List Addr) (cs : List (List Addr)) (a : Addr) : Prop := a = bf ∨ a ∈ ws ∨ ∃ cc ∈ cs, a ∈ cc
theorem BA.keep {H H' : Hp} {bf : Addr} {ws : List Addr} {cs : List (List Addr)} {L n : Nat} {f : Nat → Nat → List Nat} (h : BA H bf ws cs L n f) {W : Addr → Prop} (k : Keep W H H') (nw : ∀ a, BAd bf ws cs a → ¬ W a) : BA H' bf ws cs L n f where
  wl := h.wl
  cl := h.cl
  top := k _ _ (nw _ (.inl rfl)) h.top
  mid := fun c w cc hw hc => by
    obtain ⟨h1, h2⟩ := h.mid c w cc hw hc
    exact ⟨k _ _ (nw _ (.inr (.inl (List.mem_of_getElem? hw)))) h1, h2⟩
  low := fun c t cc a hc ha => k _ _ (nw _ (.inr (.inr ⟨cc, List.mem_of_getElem? hc, List.mem_of_getElem? ha⟩))) (h.low c t cc a hc ha)
theorem BA.same {H H' : Hp} {bf : Addr} {ws : List Addr} {cs : List (List Addr)} {L n : Nat} {f : Nat → Nat → List Nat} (h : BA H bf ws cs L n f) (s : Same H H') : BA H' bf ws cs L n f := h.keep (W := fun _ => False) (Keep.same s) (fun _ _ z => z)
/-- the cells that are being laid -/
structure Cells (H0 H : Hp) (D : Addr) (as : List Addr) : Prop where
  sm : Same H0 H
  top : H D = some (.lst (as.map V.ref))
  low : ∀ a ∈ as, H a = some (.lst []) ∧ H0 a = none
  nd : as.Nodup
  no : D ∉ as
structure Ways (H0 H : Hp) (D : Addr) (n : Nat) (ws : List Addr) (cs : List (List Addr)) : Prop where
  sm : Same H0 H
  top : H D = some (.lst (ws.map V.ref))
  ln : ws.length = cs.length
  mid : ∀ (c : Nat) (w : Addr) (cc : List Addr), ws[c]? = some w → cs[c]? = some cc → H w = some (.lst (cc.map V.ref)) ∧ cc.length = n
  low : ∀ (cc : List Addr) (a : Addr), cc ∈ cs → a ∈ cc → H a = some (.lst []) ∧ H0 a = none
  fw : ∀ w ∈ ws, H0 w = none
  nd : cs.flatten.Nodup
  nw : ∀ a ∈ cs.flatten, a ∉ ws ∧ a ≠ D
  dw : D ∉ ws
theorem ite_iff {p q : Prop} [Decidable p] [Decidable q] {α : Type} {a b : α} (h : p ↔ q) : (if p then a else b) = if q then a else b := by
  by_cases z : p
  · rw [if_pos z, if_pos (h.mp z)]
  · rw [if_neg z, if_neg (fun y => z (h.mpr y))]
theorem sfree {H H' : Hp} {p : Addr} (s : Same H H') (h : H' p = none) : H p = none := by
  cases e : H p with
  | none => rfl
  | some o =>
    rw [s _ _ e] at h
    cases h
theorem Cells.step {H0 H : Hp} {D a : Addr} {as : List Addr} (h : Cells H0 H D as) (nD : H0 D = none) (na : H a = none) : Cells H0 (upd (upd H a (.lst [])) D (.lst (as.map V.ref ++ [.ref a]))) D (as ++ [a]) := by
  have aD : a ≠ D := fun z => by rw [z, h.top] at na; cases na
  have nas : ∀ x ∈ as, x ≠ a := fun x hx z => by rw [← z, (h.low x hx).1] at na; cases na
  have nad : ∀ x ∈ as, x ≠ D := fun x hx z => h.no (z ▸ hx)
  refine ⟨fun b u e => ?_, by rw [upd_same, List.map_append]; rfl, fun x hx => ?_, ?_, fun q => ?_⟩
  · have h1 := h.sm _ _ e
    rw [upd_ne (ne_of_none e nD), upd_ne (ne_of_none h1 na)]
    exact h1
  · rcases List.mem_append.mp hx with hx | hx
    · obtain ⟨h1, h2⟩ := h.low x hx
      exact ⟨by rw [upd_ne (nad x hx), upd_ne (nas x hx)]; exact h1, h2⟩
    · rw [List.mem_singleton.mp hx]
      exact ⟨by rw [upd_ne aD, upd_same], sfree h.sm na⟩
  · rw [List.nodup_append]
    refine ⟨h.nd, List.nodup_cons.mpr ⟨List.not_mem_nil, List.nodup_nil⟩, fun x hx y hy => ?_⟩
    rw [List.mem_singleton.mp hy]
    exact nas x hx
  · rcases List.mem_append.mp q with q | q
    · exact h.no q
    · exact aD (List.mem_singleton.mp q).symm
theorem Ways.step {H0 H1 H2 : Hp} {D D2 : Addr} {n : Nat} {ws : List Addr} {cs : List (List Addr)} {as : List Addr} (h : Ways H0 H1 D n ws cs) (g : Cells H1 H2 D2 as) (nD : H0 D = none) (nD2 : H1 D2 = none) (hl : as.length = n) :
    Ways H0 (upd H2 D (.lst (ws.map V.ref ++ [.ref D2]))) D n (ws ++ [D2]) (cs ++ [as]) := by
  have dd : D2 ≠ D := fun z => by rw [z, h.top] at nD2; cases nD2
  have wS : ∀ w ∈ ws, ∃ o, H1 w = some o := fun w hw => by
    obtain ⟨c, hc⟩ := List.mem_iff_getElem?.mp hw
    have l := (List.getElem?_eq_some_iff.mp hc).1
    exact ⟨_, (h.mid c w _ hc (List.getElem?_eq_getElem (by rw [← h.ln]; exact l))).1⟩
  have oldS : ∀ a ∈ cs.flatten, H1 a = some (.lst []) := fun a ha => by
    obtain ⟨cc, h1, h2⟩ := List.mem_flatten.mp ha
    exact (h.low cc a h1 h2).1
  have nas : ∀ a ∈ as, a ≠ D := fun a ha z => by
    have := (g.low a ha).2
    rw [z, h.top] at this
    cases this
  have fl : (cs ++ [as]).flatten = cs.flatten ++ as := by simp
  refine ⟨fun b u e => ?_, by rw [upd_same, List.map_append]; rfl, by rw [List.length_append, List.length_append, h.ln]; rfl, fun c w cc hw hc => ?_, fun cc a hcc ha => ?_, fun w hw => ?_, ?_, fun a ha => ?_, fun q => ?_⟩
  · rw [upd_ne (ne_of_none e nD)]
    exact g.sm _ _ (h.sm _ _ e)
  · rcases Nat.lt_or_ge c ws.length with l | l
    · rw [List.getElem?_append_left l] at hw
      rw [List.getElem?_append_left (by rw [← h.ln]; exact l)] at hc
      obtain ⟨h1, h2⟩ := h.mid c w cc hw hc
      exact ⟨by rw [upd_ne (show w ≠ D from fun z => h.dw (by rw [← z]; exact List.mem_of_getElem? hw))]; exact g.sm _ _ h1, h2⟩
    · have l2 := (List.getElem?_eq_some_iff.mp hw).1
      rw [List.length_append, List.length_singleton] at l2
      have e : c = ws.length := by omega
      rw [e, List.getElem?_append_right (Nat.le_refl _), Nat.sub_self] at hw
      rw [e, h.ln, List.getElem?_append_right (Nat.le_refl _), Nat.sub_self] at hc
      cases hw
      cases hc
      exact ⟨by rw [upd_ne dd]; exact g.top, hl⟩
  · rcases List.mem_append.mp hcc with hcc | hcc
    · obtain ⟨h1, h2⟩ := h.low cc a hcc ha
      exact ⟨by rw [upd_ne (h.nw a (List.mem_flatten.mpr ⟨cc, hcc, ha⟩)).2]; exact g.sm _ _ h1, h2⟩
    · rw [List.mem_singleton.mp hcc] at ha
      obtain ⟨h1, h2⟩ := g.low a ha
      exact ⟨by rw [upd_ne (nas a ha)]; exact h1, sfree h.sm h2⟩
  · rcases List.mem_append.mp hw with hw | hw
    · exact h.fw w hw
    · rw [List.mem_singleton.mp hw]
      exact sfree h.sm nD2
  · rw [fl, List.nodup_append]
    refine ⟨h.nd, g.nd, fun x hx y hy e => ?_⟩
    have h1 := oldS x hx
    rw [e, (g.low y hy).2] at h1
    cases h1
  · rw [fl] at ha
    rcases List.mem_append.mp ha with ha | ha
    · refine ⟨fun q => ?_, (h.nw a ha).2⟩
      rcases List.mem_append.mp q with q | q
      · exact (h.nw a ha).1 q
      · have h1 := oldS a ha
        rw [List.mem_singleton.mp q, nD2] at h1
        cases h1
    · refine ⟨fun q => ?_, nas a ha⟩
      rcases List.mem_append.mp q with q | q
      · obtain ⟨o, h1⟩ := wS a q
        rw [(g.low a ha).2] at h1
        cases h1
      · exact g.no ((List.mem_singleton.mp q) ▸ ha)
  · rcases List.mem_append.mp q with q | q
    · exact h.dw q
    · exact dd (List.mem_singleton.mp q).symm
theorem flat_one : ∀ {cs : List (List Addr)} {c c' t t' : Nat} {cc cc' : List Addr} {a : Addr}, cs.flatten.Nodup → cs[c]? = some cc → cs[c']? = some cc' → cc[t]? = some a → cc'[t']? = some a → c = c' ∧ t = t'
  | [], _, _, _, _, _, _, _, _, h, _, _, _ => by cases h
  | x :: cs, c, c', t, t', cc, cc', a, nd, h1, h2, h3, h4 => by
    rw [List.flatten_cons, List.nodup_append] at nd
    obtain ⟨n1, n2, n3⟩ := nd
    have inT : ∀ {c : Nat} {cc : List Addr}, cs[c]? = some cc → a ∈ cc → a ∈ cs.flatten := fun h m => List.mem_flatten.mpr ⟨_, List.mem_of_getElem? h, m⟩
    match c, c', h1, h2 with
    | 0, 0, h1, h2 =>
      cases h1
      cases h2
      have l := (List.getElem?_eq_some_iff.mp h3).1
      exact ⟨rfl, (List.getElem?_inj l n1).mp (h3.trans h4.symm)⟩
    | 0, c' + 1, h1, h2 =>
      cases h1
      exact absurd rfl (n3 a (List.mem_of_getElem? h3) a (inT h2 (List.mem_of_getElem? h4)))
    | c + 1, 0, h1, h2 =>
      cases h2
      exact absurd rfl (n3 a (List.mem_of_getElem? h4) a (inT h1 (List.mem_of_getElem? h3)))
    | c + 1, c' + 1, h1, h2 =>
      obtain ⟨e1, e2⟩ := flat_one n2 h1 h2 h3 h4
      exact ⟨congrArg (· + 1) e1, e2⟩
theorem Ways.ba {H0 H : Hp} {D : Addr} {n L : Nat} {ws : List Addr} {cs : List (List Addr)} (h : Ways H0 H D n ws cs) (hl : ws.length = L) : BA H D ws cs L n (fun _ _ => []) :=
  ⟨hl, by rw [← h.ln]; exact hl, h.top, h.mid, fun c t cc a hc ha => (h.low cc a (List.mem_of_getElem? hc) (List.mem_of_getElem? ha)).1⟩
theorem BA.add {H : Hp} {D : Addr} {n L : Nat} {ws : List Addr} {cs : List (List Addr)} {f f' : Nat → Nat → List Nat} (h : BA H D ws cs L n f) (nd : cs.flatten.Nodup) (nw : ∀ a ∈ cs.flatten, a ∉ ws ∧ a ≠ D) {c t : Nat} {cc : List Addr} {a : Addr} (hc : cs[c]? = some cc) (ha : cc[t]? = some a)
    (hf : ∀ c' t', f' c' t' = if c' = c ∧ t' = t then f' c t else f c' t') : BA (upd H a (.lst ((f' c t).map natV))) D ws cs L n f' := by
  have am : a ∈ cs.flatten := List.mem_flatten.mpr ⟨cc, List.mem_of_getElem? hc, List.mem_of_getElem? ha⟩
  obtain ⟨aw, aD⟩ := nw a am
  refine ⟨h.wl, h.cl, by rw [upd_ne aD.symm]; exact h.top, fun c' w cc' h1 h2 => ?_, fun c' t' cc' a' h1 h2 => ?_⟩
  · obtain ⟨g1, g2⟩ := h.mid c' w cc' h1 h2
    exact ⟨by rw [upd_ne (show w ≠ a from fun z => aw (by rw [← z]; exact List.mem_of_getElem? h1))]; exact g1, g2⟩
  · by_cases e : a' = a
    · subst e
      obtain ⟨e1, e2⟩ := flat_one nd h1 hc h2 ha
      rw [e1, e2, upd_same]
    · rw [upd_ne e, hf, if_neg]
      · exact h.low c' t' cc' a' h1 h2
      · rintro ⟨rfl, rfl⟩
        rw [hc] at h1
        cases h1
        rw [ha] at h2
        exact e (Option.some.inj h2).symm

section
variable {P : Program} {w : World} {K : PySem.W.Frag} {mg : Str → Option Value} {base : Heap}
theorem scSources : FnScope ["letters", "rows", "order", "before", "_", "state", "letter", "target"] ["letters", "rows", "order"] (defScope sSources) := ⟨rfl, rfl, rfl, by decide +kernel, rfl, by decide +kernel, by decide +kernel⟩
def spSources : Sp := fun vs H Q _ => ∃ (L : Nat) (rs : Rows) (es : List Bool) (m pr pe od : Addr) (rvs : List V) (ord : List Nat), vs = [.int (L : Int), .ref pr, .ref od] ∧ MOk L rs es ∧ MA H L rs es m pr pe rvs ∧ H od = some (.lst (ord.map natV)) ∧ (∀ u ∈ ord, u < rs.length) ∧ ord.length ≤ 400 ∧
  ∀ (H' : Hp) (bf : Addr) (ws : List Addr) (cs : List (List Addr)), Same H H' → (∀ a, BAd bf ws cs a → H a = none) → BA H' bf ws cs L rs.length (fun c t => ord.filter fun s => decide (nx rs s c = some t)) → Q (.ref bf) H'
theorem ok_sources {f : Addr} {fd : FuncData} (F : Fun K "sources" "sources" sSources f fd) (T : Mg mg) : FnOk P w K mg base CX0 1 f fd ["letters", "rows", "order"] spSources := by
  refine F.ok scSources (fun vs H Q E h => ?_) (fun cdv A outer s H vs Q E hr h => ?_)
  · obtain ⟨L, rs, es, m, pr, pe, od, rvs, ord, rfl, _⟩ := h
    rfl
  · obtain ⟨L, rs, es, m, pr, pe, od, rvs, ord, rfl, M, MM, hod, olt, ol4, k⟩ := h
    have l4 := M.l400
    have L3 := M.L3
    refine ⟨_, (pss_cons (ps_setLc (i := 3) (own := [("_", 4)]) (g := gName 4) (tt := tYes) rfl scSources.nd rfl rfl (sw_true rfl rfl rfl (by decide +kernel)) (pi_range1 (by rfl) T.range (pa_cons (pv 0) pa_nil)) (blkOk_by (N := ["letters", "rows", "order", "before", "_", "state", "letter", "target"]) (sc := defScope sSources) (by decide +kernel)) (fun _ _ _ _ _ => pg_name (i := 4) scSources.nd rfl (Or.inl rfl)) (fun _ _ _ _ _ => pts_nil) (fun _ _ _ _ _ => (pe_lc (wi := iTup K _) (own := [("_", 4)]) (g := gName 4) (tt := tYes) rfl scSources.nd (pi_tup (pv 1)) (blkOk_by (by kernel_rfl)) (fun _ _ _ _ _ => pg_name (i := 4) scSources.nd rfl (Or.inl rfl)) (fun _ _ _ _ _ => pts_nil) (fun _ _ _ _ _ => (pe_lst pa_nil)))))
      (pss_cons (ps_for PassesOwn.never rfl (pi_list (pv 2)) (pg_name (i := 5) scSources.nd rfl (.inl rfl)) (pss_one (ps_for PassesOwn.never rfl (pi_enumT (by rfl) T.enum (pa_cons (pe_ix (r := rIxT K) ix_tup (pv 1) (pv 5) (fun _ _ => rfl)) pa_nil)) (pg_tup rfl (pgs_cons (pg_name (i := 6) scSources.nd rfl (.inl rfl)) (pgs_cons (pg_name (i := 7) scSources.nd rfl (.inl rfl)) pgs_nil))) (pss_one (ps_if (pt_cmp (pc_notN (pv 7))) (pss_one (ps_expr (pe_bm PySem.F.plainAttrs_list PySem.F.slot_list_append PySem.F.type_list_append mt_append (pe_ix (r := rIxL K) ix_list (pe_ix (r := rIxL K) ix_list (pv 3) (pv 6) (fun _ _ => rfl)) (pv 7) (fun _ _ => rfl)) (pa_cons (pv 5) pa_nil)))) pss_nil)))))
      (pss_one (ps_ret (pv 3))))), ?_⟩
    refine ⟨_, rfl, (L : Int), rfl, by omega, by omega, fun D nD => ?_⟩
    refine lc_range (lo := 0) (n := (L : Int).toNat) (fun j H' => ∃ ws cs, Ways H H' D rs.length ws cs ∧ ws.length = j) ⟨[], [], ⟨same_new nD, upd_same, rfl, (fun c w cc h => by cases h), fun cc a h => absurd h List.not_mem_nil, fun w h => absurd h List.not_mem_nil, List.nodup_nil, fun a h => absurd h List.not_mem_nil, List.not_mem_nil⟩, rfl⟩ ?_ ?_
    · rintro j H1 hj ⟨ws, cs, W1, lw⟩
      have MM1 := MM.same W1.sm
      refine ⟨rfl, _, rfl, pr, rfl, ⟨_, .inl MM1.hr⟩, fun D2 nD2 => ?_⟩
      refine lc_tup (K := K) (a := pr) (xs := rvs) (fun i H' => ∃ as, Cells H1 H' D2 as ∧ as.length = i) ⟨[], ⟨same_new nD2, upd_same, fun a h => absurd h List.not_mem_nil, List.nodup_nil, List.not_mem_nil⟩, rfl⟩ (fun i H' _ q => by
        obtain ⟨as, C, _⟩ := q
        exact .inl (MM1.same C.sm).hr) ?_ ?_
      · rintro i x H2 hx ⟨as, C, la⟩
        have hi := (List.getElem?_eq_some_iff.mp hx).1
        rw [MM.hl] at hi
        refine ⟨rfl, by show 0 ≤ sizeLine; decide, fun a na => ?_⟩
        have aD : D2 ≠ a := fun z => by rw [← z, C.top] at na; cases na
        exact ⟨_, by rw [upd_ne aD]; exact C.top, small1000 (by rw [List.length_map]; omega), as ++ [a], C.step nD2 na, by rw [List.length_append, la]; rfl⟩
      · rintro H2 ⟨as, C, la⟩
        exact ⟨_, C.sm _ _ W1.top, small1000 (by rw [List.length_map]; omega), ws ++ [D2], cs ++ [as], W1.step C nD nD2 (by rw [la]; exact MM.hl), by rw [List.length_append, lw]; rfl⟩
    · rintro H1 ⟨ws, cs, W1, lw⟩
      rw [Int.toNat_natCast] at lw
      have B1 := W1.ba lw
      have hod1 := W1.sm _ _ hod
      have nwo : ∀ a, BAd D ws cs a → H a = none := fun a z => by
        rcases z with rfl | z | ⟨cc, h1, h2⟩
        · exact nD
        · exact W1.fw a z
        · exact (W1.low cc a h1 h2).2
      refine ⟨_, rfl, od, rfl, ⟨_, SqL.of hod1⟩, ?_⟩
      refine for_list (K := K) (a := od) (xs := ord.map natV) (fun i σ H' => (∃ y5 y6 y7 : Option V, σ = [some (.int (L : Int)), some (.ref pr), some (.ref od), some (.ref D), none, y5, y6, y7]) ∧ Same H H' ∧ BA H' D ws cs L rs.length (fun c t => (ord.take i).filter fun s => decide (nx rs s c = some t)))
        ⟨⟨_, _, _, rfl⟩, W1.sm, B1⟩ (fun i σ H' _ p => SqL.of (p.2.1 _ _ hod)) ?_ (fun σ H' p => ?_)
      · rintro i x σ H2 hx ⟨⟨y5, y6, y7, rfl⟩, sm, Bi⟩
        obtain ⟨u, hu, rfl⟩ := natV_of hx
        have hun := olt u (List.mem_of_getElem? hu)
        have hrow : rs[u]? = some rs[u] := List.getElem?_eq_getElem hun
        have hmr := List.getElem_mem hun
        have hnx : ∀ c, nx rs u c = (rs[u]).getD c none := fun c => by
          unfold nx
          rw [getD_at hun]
        generalize rs[u] = row at *
        obtain ⟨q, hq1, hq0⟩ := MM.row u row hrow
        have tk : ord.take (i + 1) = ord.take i ++ [u] := by rw [List.take_add_one, hu]; rfl
        refine ⟨_, rfl, _, rfl, pr, rvs, (u : Int), _, rfl, rfl, .inl (same_rd sm MM.hr), atI_nat hq1, q, _, rfl, .inl (same_rd sm hq0), ?_⟩
        refine for_it (walk_enumT (K := K) (a := q) (xs := row.map oV)) (fun j σ H' => (∃ y6 y7 : Option V, σ = [some (.int (L : Int)), some (.ref pr), some (.ref od), some (.ref D), none, some (.int (u : Int)), y6, y7]) ∧ Same H H' ∧ ∃ f, BA H' D ws cs L rs.length f ∧ ∀ c t, f c t = ((ord.take i).filter fun s => decide (nx rs s c = some t)) ++ if c < j ∧ nx rs u c = some t then [u] else [])
          ⟨⟨_, _, rfl⟩, sm, _, Bi, fun c t => by rw [if_neg (by omega), List.append_nil]⟩ (fun j σ H' _ p => .inl (same_rd p.2.1 hq0)) ?_ ?_
        · rintro j x σ H3 H4 hj ⟨⟨y6, y7, rfl⟩, sm3, f, Bf, hf⟩ ⟨T1, va, vb, rfl, nT, rfl, ea, eb2⟩
          cases ea
          replace eb2 : (row.map oV)[j]? = some vb := eb2
          rw [List.getElem?_map] at eb2
          obtain ⟨tg, hjt, rfl⟩ := Option.map_eq_some_iff.mp eb2
          have sT := same_new (o := .tup [V.int (j : Nat), oV tg]) nT
          have nxj : nx rs u j = tg := by rw [hnx, List.getD_eq_getElem?_getD, hjt]; rfl
          have jL : j < L := by
            have := (List.getElem?_eq_some_iff.mp hjt).1
            rw [M.row row hmr] at this
            exact this
          have Bf := Bf.same sT
          have sm4 := sm3.trans sT
          refine ⟨T1, _, rfl, SqT.of upd_same, rfl, _, _, rfl, _, _, rfl, rfl, ?_⟩
          generalize upd H3 T1 (.tup [V.int (j : Nat), oV tg]) = G at *
          refine ⟨_, rfl, _, rfl, ?_⟩
          cases tg with
          | none =>
            refine ⟨⟨_, _, rfl⟩, sm4, f, Bf, fun c t => ?_⟩
            rw [hf]
            congr 1
            by_cases e : c = j
            · rw [e, nxj, if_neg (by rintro ⟨_, z⟩; cases z), if_neg (by rintro ⟨_, z⟩; cases z)]
            · have : (c < j + 1 ∧ nx rs u c = some t) ↔ (c < j ∧ nx rs u c = some t) := by
                constructor
                · rintro ⟨a1, a2⟩
                  exact ⟨by omega, a2⟩
                · rintro ⟨a1, a2⟩
                  exact ⟨by omega, a2⟩
              exact ite_iff this.symm
          | some t =>
            have tl := M.tgt row hmr t (List.mem_of_getElem? hjt)
            obtain ⟨w0, hw⟩ : ∃ w0, ws[j]? = some w0 := ⟨_, List.getElem?_eq_getElem (by rw [lw]; exact jL)⟩
            obtain ⟨cc, hcc⟩ : ∃ cc, cs[j]? = some cc := ⟨_, List.getElem?_eq_getElem (by rw [Bf.cl]; exact jL)⟩
            obtain ⟨g1, g2⟩ := Bf.mid j w0 cc hw hcc
            obtain ⟨a, hca⟩ : ∃ a, cc[t]? = some a := ⟨_, List.getElem?_eq_getElem (by rw [g2]; exact tl)⟩
            have g3 := Bf.low j t cc a hcc hca
            have fe : f j t = ((ord.take i).filter fun s => decide (nx rs s j = some t)) := by rw [hf, if_neg (by omega), List.append_nil]
            have fl : (f j t).length ≤ 400 := by
              rw [fe]
              refine Nat.le_trans (List.length_filter_le _ _) ?_
              rw [List.length_take]
              omega
            have am : BAd D ws cs a := .inr (.inr ⟨cc, List.mem_of_getElem? hcc, List.mem_of_getElem? hca⟩)
            refine ⟨_, rfl, _, rfl, D, _, (j : Int), V.ref w0, rfl, rfl, SqL.of Bf.top, atI_nat (v := V.ref w0) (by rw [List.getElem?_map, hw]; rfl), _, rfl, w0, _, (t : Int), V.ref a, rfl, rfl, SqL.of g1, atI_nat (v := V.ref a) (by rw [List.getElem?_map, hca]; rfl), .inl ⟨rfl, _, SqL.of g3⟩, _, rfl, a, _, _, rfl, rfl, g3, small1000 (by rw [List.length_map]; omega), ?_⟩
            have ev : (f j t).map natV ++ [V.int (u : Int)] = ((fun c' t' => ((ord.take i).filter fun s => decide (nx rs s c' = some t')) ++ if c' < j + 1 ∧ nx rs u c' = some t' then [u] else []) j t).map natV := by
              show _ = (((ord.take i).filter fun s => decide (nx rs s j = some t)) ++ if j < j + 1 ∧ nx rs u j = some t then [u] else []).map natV
              rw [if_pos ⟨Nat.lt_succ_self _, nxj⟩, List.map_append, fe]
              rfl
            rw [ev]
            refine ⟨⟨_, _, rfl⟩, fun b o e => ?_, _, Bf.add (f' := fun c' t' => ((ord.take i).filter fun s => decide (nx rs s c' = some t')) ++ if c' < j + 1 ∧ nx rs u c' = some t' then [u] else []) W1.nd W1.nw hcc hca fun c' t' => ?_, fun c t => rfl⟩
            · rw [upd_ne (fun z => by rw [z, nwo a am] at e; cases e)]
              exact sm4 _ _ e
            · by_cases e : c' = j ∧ t' = t
              · rw [if_pos e, e.1, e.2]
              · rw [if_neg e, hf]
                congr 1
                have : (c' < j + 1 ∧ nx rs u c' = some t') ↔ (c' < j ∧ nx rs u c' = some t') := by
                  constructor
                  · rintro ⟨a1, a2⟩
                    refine ⟨?_, a2⟩
                    by_cases y : c' = j
                    · rw [y, nxj] at a2
                      exact absurd ⟨y, (Option.some.inj a2).symm⟩ e
                    · omega
                  · rintro ⟨a1, a2⟩
                    exact ⟨by omega, a2⟩
                exact ite_iff this
        · rintro σ H3 ⟨⟨y6, y7, rfl⟩, sm3, f, Bf, hf⟩
          refine ⟨⟨_, _, _, rfl⟩, sm3, ?_⟩
          have : f = fun c t => (ord.take (i + 1)).filter fun s => decide (nx rs s c = some t) := by
            funext c t
            rw [hf, tk, List.filter_append, List.filter_cons, List.filter_nil]
            congr 1
            by_cases e : nx rs u c = some t
            · have cl := (nx_lt M.row e).2.1
              rw [if_pos ⟨by rw [List.length_map, M.row row hmr]; exact cl, e⟩, if_pos (decide_eq_true e)]
            · rw [if_neg (fun z => e z.2), if_neg (by rw [decide_eq_true_eq]; exact e)]
          rw [← this]
          exact Bf
      · obtain ⟨⟨y5, y6, y7, rfl⟩, sm, Bi⟩ := p
        rw [List.length_map, List.take_length] at Bi
        exact ⟨_, rfl, k H' D ws cs sm nwo Bi⟩
end
/-! ### states that lead on -/
def rListL (K : PySem.W.Frag) : List V → Hp → VK → Prop := fun xs H Q => ∃ p ys, xs = [.ref p] ∧ (SqL K H p ys ∨ SqT K H p ys) ∧ ∀ l, H l = none → Q (.ref l) (upd H l (.lst ys))
/-- what is marked, what waits -/
structure Ld (n : Nat) (f : Nat → Nat → List Nat) (L : Nat) (Pd : Nat → Prop) (goals M F : List Nat) (x : Nat → Nat → Prop) : Prop where
  nd : M.Nodup
  lt : ∀ s ∈ M, s < n
  so : ∀ s ∈ M, Pd s
  go : ∀ s ∈ goals, s ∈ M
  fs : ∀ s ∈ F, s ∈ M
  cl : ∀ t ∈ M, t ∉ F → ∀ c, c < L → x c t ∨ ∀ s ∈ f c t, s ∈ M
def unm (n : Nat) (M : List Nat) : Nat := ((List.range n).filter fun u => !(decide (u ∈ M))).length
theorem knB_cnt {n : Nat} {M : List Nat} : (knB n M).countP (fun v => decide (v = V.bl false)) = unm n M := by
  unfold knB unm
  rw [List.countP_map, List.countP_eq_length_filter]
  congr 1
  refine List.filter_congr fun u _ => ?_
  show decide (V.bl (decide (u ∈ M)) = V.bl false) = !(decide (u ∈ M))
  cases h : decide (u ∈ M)
  · exact decide_eq_true rfl
  · exact decide_eq_false (fun q => by cases q)
theorem unm_push {n s : Nat} {M : List Nat} (hs : s < n) (hn : s ∉ M) : unm n (M ++ [s]) + 1 = unm n M := by
  unfold unm
  have h1 : ((List.range n).filter fun u => !(decide (u ∈ M ++ [s]))) = ((List.range n).filter fun u => !(decide (u ∈ M))).filter fun u => !(decide (u ∈ [s])) := by
    rw [List.filter_filter]
    refine List.filter_congr fun u _ => ?_
    by_cases a : u ∈ M
    · rw [decide_eq_true a, decide_eq_true (List.mem_append.mpr (.inl a))]
      simp
    · by_cases b : u ∈ [s]
      · rw [decide_eq_true b, decide_eq_true (List.mem_append.mpr (.inr b))]
        rfl
      · rw [decide_eq_false a, decide_eq_false b, decide_eq_false (fun q => (List.mem_append.mp q).elim a b)]
        rfl
  have h2 := cnt_out (xs := (List.range n).filter fun u => !(decide (u ∈ M))) (ys := [s]) (List.nodup_range.filter _) (List.nodup_cons.mpr ⟨List.not_mem_nil, List.nodup_nil⟩) fun y hy => by
    rw [List.mem_singleton.mp hy]
    exact List.mem_filter.mpr ⟨List.mem_range.mpr hs, by rw [decide_eq_false hn]; rfl⟩
  rw [h1]
  exact h2
theorem Ld.mono {n : Nat} {f : Nat → Nat → List Nat} {L : Nat} {Pd : Nat → Prop} {goals M F F' : List Nat} {x x' : Nat → Nat → Prop} (h : Ld n f L Pd goals M F x) (hF : ∀ s ∈ F', s ∈ F) (hx : ∀ t, t ∈ M → t ∉ F' → ∀ c, c < L → (t ∈ F ∨ x c t) → x' c t ∨ ∀ s ∈ f c t, s ∈ M) : Ld n f L Pd goals M F' x' :=
  ⟨h.nd, h.lt, h.so, h.go, fun s hs => h.fs s (hF s hs), fun t ht hn c hc => by
    by_cases q : t ∈ F
    · exact hx t ht hn c hc (.inl q)
    · rcases h.cl t ht q c hc with z | z
      · exact hx t ht hn c hc (.inr z)
      · exact .inr z⟩
theorem Ld.push {n : Nat} {f : Nat → Nat → List Nat} {L : Nat} {Pd : Nat → Prop} {goals M F : List Nat} {x : Nat → Nat → Prop} (h : Ld n f L Pd goals M F x) {s : Nat} (hs : s < n) (hp : Pd s) (hn : s ∉ M) : Ld n f L Pd goals (M ++ [s]) (F ++ [s]) x where
  nd := by
    rw [List.nodup_append]
    refine ⟨h.nd, List.nodup_cons.mpr ⟨List.not_mem_nil, List.nodup_nil⟩, fun a ha b hb e => ?_⟩
    rw [List.mem_singleton.mp hb] at e
    exact hn (e ▸ ha)
  lt := fun a ha => by
    rcases List.mem_append.mp ha with ha | ha
    · exact h.lt a ha
    · rw [List.mem_singleton.mp ha]
      exact hs
  so := fun a ha => by
    rcases List.mem_append.mp ha with ha | ha
    · exact h.so a ha
    · rw [List.mem_singleton.mp ha]
      exact hp
  go := fun a ha => List.mem_append.mpr (.inl (h.go a ha))
  fs := fun a ha => by
    rcases List.mem_append.mp ha with ha | ha
    · exact List.mem_append.mpr (.inl (h.fs a ha))
    · exact List.mem_append.mpr (.inr ha)
  cl := fun t ht hf c hc => by
    rcases List.mem_append.mp ht with ht | ht
    · rcases h.cl t ht (fun q => hf (List.mem_append.mpr (.inl q))) c hc with q | q
      · exact .inl q
      · exact .inr fun a ha => List.mem_append.mpr (.inl (q a ha))
    · exact absurd (List.mem_append.mpr (.inr ht)) hf

section
variable {P : Program} {w : World} {K : PySem.W.Frag} {mg : Str → Option Value} {base : Heap}
theorem scLeading : FnScope ["before", "goals", "many", "leads", "state", "found", "ways", "source"] ["before", "goals", "many"] (defScope sLeading) := ⟨rfl, rfl, rfl, by decide +kernel, rfl, by decide +kernel, by decide +kernel⟩
def spLeading : Sp := fun vs H Q _ => ∃ (bf gl : Addr) (ws : List Addr) (cs : List (List Addr)) (L n : Nat) (f : Nat → Nat → List Nat) (goals : List Nat) (Pd : Nat → Prop), vs = [.ref bf, .ref gl, .int (n : Int)] ∧ BA H bf ws cs L n f ∧ H gl = some (.lst (goals.map natV)) ∧ 1 ≤ n ∧ n ≤ 400 ∧ goals.Nodup ∧ (∀ s ∈ goals, s < n ∧ Pd s) ∧
  (∀ c t s, c < L → t < n → s ∈ f c t → s < n ∧ (Pd t → Pd s)) ∧
  ∀ (H' : Hp) (ld : Addr) (M : List Nat), Same H H' → H ld = none → H' ld = some (.lst (knB n M)) → Ld n f L Pd goals M [] (fun _ _ => False) → Q (.ref ld) H'
theorem ok_leading {f : Addr} {fd : FuncData} (F : Fun K "leading" "leading" sLeading f fd) (T : Mg mg) : FnOk P w K mg base CX0 1 f fd ["before", "goals", "many"] spLeading := by
  refine F.ok scLeading (fun vs H Q E h => ?_) (fun cdv A outer s H vs Q E hr h => ?_)
  · obtain ⟨bf, gl, ws, cs, L, n, f, goals, Pd, rfl, _⟩ := h
    rfl
  · obtain ⟨bf, gl, ws, cs, L, n, f, goals, Pd, rfl, BB, hgl, n1, n4, gnd, hgo, hf, k⟩ := h
    have gle : goals.length ≤ n := nodup_len gnd fun u hu => (hgo u hu).1
    refine ⟨_, (pss_cons (ps_set (i := 3) scLeading.nd rfl (.inl rfl) (pe_op op_rep (pe_lst (pa_cons pe_bl pa_nil)) (pv 2)))
      (pss_cons (ps_for PassesOwn.never rfl (pi_list (pv 1)) (pg_name (i := 4) scLeading.nd rfl (.inl rfl)) (pss_one (ps_asg pe_bl (pg_sub (pv 3) (pv 4) set_list))))
      (pss_cons (ps_set (i := 5) scLeading.nd rfl (.inl rfl) (pe_callTy (r := rListL K) call_list_of (by rfl) T.list (by decide +kernel) (pa_cons (pv 1) pa_nil)))
      (pss_cons (ps_while PassesOwn.never (pt_lstT (pv 5)) (pss_cons (ps_set (i := 4) scLeading.nd rfl (.inl rfl) (pe_bm0 PySem.F.plainAttrs_list PySem.F.slot_list_pop PySem.F.type_list_pop mt_pop (pv 5)))
      (pss_one (ps_for PassesOwn.never rfl (pi_list (pv 0)) (pg_name (i := 6) scLeading.nd rfl (.inl rfl)) (pss_one (ps_for PassesOwn.never rfl (pi_list (pe_ix (r := rIxL K) ix_list (pv 6) (pv 4) (fun _ _ => rfl))) (pg_name (i := 7) scLeading.nd rfl (.inl rfl)) (pss_one (ps_if (pt_not (pt_val (pe_ix (r := rIxL K) ix_list (pv 3) (pv 7) (fun _ _ => rfl)))) (pss_cons (ps_asg pe_bl (pg_sub (pv 3) (pv 7) set_list))
      (pss_one (ps_expr (pe_bm PySem.F.plainAttrs_list PySem.F.slot_list_append PySem.F.type_list_append mt_append (pv 5) (pa_cons (pv 7) pa_nil))))) pss_nil))))))))
      (pss_one (ps_ret (pv 3))))))), ?_⟩
    refine ⟨by show 1 ≤ sizeLine; decide, fun t ht => ?_⟩
    have s2 := same_new (o := .lst [.bl false]) ht
    refine ⟨_, rfl, t, (n : Int), [V.bl false], rfl, rfl, upd_same, by omega, by omega, sz_of (by rw [List.length_singleton]; omega), fun ld hk => ?_⟩
    have e0 : (List.replicate (n : Int).toNat [V.bl false]).flatten = knB n [] := by
      refine List.ext_getElem? fun u => ?_
      rw [show (List.replicate (n : Int).toNat [V.bl false]).flatten = List.replicate n (V.bl false) by simp]
      by_cases hu : u < n
      · rw [knB_get hu, List.getElem?_replicate, if_pos hu]
        rfl
      · rw [List.getElem?_eq_none (by rw [List.length_replicate]; omega), List.getElem?_eq_none (by rw [knB_len]; omega)]
    rw [e0]
    have s3 := same_new (o := .lst (knB n [])) hk
    have hld : (upd (upd H t (.lst [.bl false])) ld (.lst (knB n []))) ld = some (.lst (knB n [])) := upd_same
    have sG := s2.trans s3
    have ld0 : H ld = none := s2.free hk
    generalize upd (upd H t (.lst [.bl false])) ld (.lst (knB n [])) = G at *
    have pld : ∀ {H' : Hp} {u : HO}, Same H H' → Same H (upd H' ld u) := fun {H' u} sm b o e => by
      rw [upd_ne (ne_of_none e ld0)]
      exact sm _ _ e
    refine ⟨_, rfl, gl, rfl, ⟨_, SqL.of (sG _ _ hgl)⟩, ?_⟩
    refine for_list (K := K) (a := gl) (xs := goals.map natV) (fun i σ H' => (∃ y4, σ = [some (.ref bf), some (.ref gl), some (.int (n : Int)), some (.ref ld), y4, none, none, none]) ∧ Same H H' ∧ H' ld = some (.lst (knB n (goals.take i)))) ⟨⟨_, rfl⟩, sG, hld⟩ (fun i σ H' _ p => SqL.of (p.2.1 _ _ hgl)) ?_ ?_
    · rintro i x σ H2 hx ⟨⟨y4, rfl⟩, sm, hl⟩
      obtain ⟨u, hu, rfl⟩ := natV_of hx
      have hun := (hgo u (List.mem_of_getElem? hu)).1
      refine ⟨_, rfl, _, rfl, ld, _, (u : Int), u, rfl, rfl, hl, Evl.ixN_nat (by rw [knB_len]; exact hun), ?_⟩
      rw [knB_set]
      exact ⟨⟨_, rfl⟩, pld sm, by rw [upd_same, List.take_add_one, hu]; rfl⟩
    · rintro σ H2 ⟨⟨y4, rfl⟩, sm, hl⟩
      rw [List.length_map, List.take_length] at hl
      refine ⟨_, rfl, gl, _, rfl, .inl (SqL.of (sm _ _ hgl)), fun fd_ hfd => ?_⟩
      have s4 := same_new (o := .lst (goals.map natV)) hfd
      have hl4 := s4 _ _ hl
      have hf4 : (upd H2 fd_ (.lst (goals.map natV))) fd_ = some (.lst (goals.map natV)) := upd_same
      have sm4 := sm.trans s4
      have fd0 : H fd_ = none := sm.free hfd
      have nfl : fd_ ≠ ld := fun z => by rw [z, hl] at hfd; cases hfd
      generalize upd H2 fd_ (.lst (goals.map natV)) = G4 at *
      have pfd : ∀ {H' : Hp} {u : HO}, Same H H' → Same H (upd H' fd_ u) := fun {H' u} sm b o e => by
        rw [upd_ne (ne_of_none e fd0)]
        exact sm _ _ e
      refine while_by (fun σ H' => ∃ (M F : List Nat) (y4 y6 y7 : Option V), σ = [some (.ref bf), some (.ref gl), some (.int (n : Int)), some (.ref ld), y4, some (.ref fd_), y6, y7] ∧ Same H H' ∧ H' ld = some (.lst (knB n M)) ∧ H' fd_ = some (.lst (F.map natV)) ∧ F.length + 2 * unm n M ≤ 2000 ∧ Ld n f L Pd goals M F (fun _ _ => False))
        (fun (_ : List (Option V)) (H' : Hp) => match H' fd_, H' ld with
          | some (.lst xs), some (.lst ys) => xs.length + 2 * (ys.countP fun v => decide (v = V.bl false))
          | _, _ => 0) ⟨goals, goals, _, _, _, rfl, sm4, hl4, hf4, by have := List.length_filter_le (fun u => !(decide (u ∈ goals))) (List.range n); rw [List.length_range] at this; unfold unm; omega, ⟨gnd, fun s hs => (hgo s hs).1, fun s hs => (hgo s hs).2, fun s hs => hs, fun s hs => hs, fun t ht hn => absurd ht hn⟩⟩ ?_ ?_
      · rintro σ H3 ⟨M, F, y4, y6, y7, rfl, sm3, hl, hF, hμ, Ld3⟩
        refine ⟨_, rfl, fd_, _, rfl, SqL.of hF, ?_⟩
        cases F with
        | nil => exact ⟨_, rfl, k H3 ld M sm3 ld0 hl Ld3⟩
        | cons f0 F0 =>
          have hne : (f0 :: F0) ≠ [] := List.cons_ne_nil _ _
          generalize f0 :: F0 = F at *
          obtain ⟨F', u, eF⟩ : ∃ F' u, F = F' ++ [u] := ⟨F.dropLast, F.getLast hne, (List.dropLast_concat_getLast hne).symm⟩
          subst eF
          have um : u ∈ M := Ld3.fs u (List.mem_append.mpr (.inr List.mem_cons_self))
          have un := Ld3.lt u um
          have upd_ := Ld3.so u um
          rw [List.length_append, List.length_singleton] at hμ
          have hx0 : (!((F' ++ [u]).map natV).isEmpty) = true := by
            rw [List.map_append]
            cases F'.map natV <;> rfl
          rw [if_pos hx0]
          have μ0 : (match H3 fd_, H3 ld with
          | some (.lst xs), some (.lst ys) => xs.length + 2 * (ys.countP fun v => decide (v = V.bl false))
          | _, _ => 0) = F'.length + 1 + 2 * unm n M := by
            rw [hF, hl]
            show ((F' ++ [u]).map natV).length + 2 * _ = _
            rw [knB_cnt, List.length_map, List.length_append]
            rfl
          rw [μ0]
          have em : (F' ++ [u]).map natV = F'.map natV ++ [V.int (u : Int)] := by
            rw [List.map_append]
            rfl
          refine ⟨_, rfl, .inl ⟨rfl, _, SqL.of hF⟩, fd_, _, V.int (u : Int), rfl, rfl, hF, by rw [em]; simp, ?_⟩
          have ed : ((F' ++ [u]).map natV).dropLast = F'.map natV := by rw [em, List.dropLast_concat]
          rw [ed]
          have smp := pfd (u := .lst (F'.map natV)) sm3
          have hl1 : (upd H3 fd_ (.lst (F'.map natV))) ld = some (.lst (knB n M)) := by rw [upd_ne nfl.symm]; exact hl
          have hf1 : (upd H3 fd_ (.lst (F'.map natV))) fd_ = some (.lst (F'.map natV)) := upd_same
          generalize upd H3 fd_ (.lst (F'.map natV)) = G5 at *
          have Ld5 : Ld n f L Pd goals M F' (fun c t => t = u ∧ 0 ≤ c) := Ld3.mono (fun s hs => List.mem_append.mpr (.inl hs)) fun t ht hn c hc q => by
            rcases q with q | q
            · rcases List.mem_append.mp q with q | q
              · exact absurd q hn
              · exact .inl ⟨List.mem_singleton.mp q, Nat.zero_le _⟩
            · exact q.elim
          refine ⟨_, rfl, bf, rfl, ⟨_, SqL.of (BB.same smp).top⟩, ?_⟩
          refine for_list (K := K) (a := bf) (xs := ws.map V.ref) (fun i σ H' => (∃ (M1 F1 : List Nat) (y6 y7 : Option V), σ = [some (.ref bf), some (.ref gl), some (.int (n : Int)), some (.ref ld), some (.int (u : Int)), some (.ref fd_), y6, y7] ∧ Same H H' ∧ H' ld = some (.lst (knB n M1)) ∧ H' fd_ = some (.lst (F1.map natV)) ∧ F1.length + 2 * unm n M1 ≤ F'.length + 2 * unm n M ∧ u ∈ M1 ∧ Ld n f L Pd goals M1 F1 (fun c t => t = u ∧ i ≤ c)))
            ⟨M, F', _, _, rfl, smp, hl1, hf1, Nat.le_refl _, um, Ld5⟩ (fun i σ H' _ p => by
              obtain ⟨M1, F1, _, _, _, sm, _⟩ := p
              exact SqL.of (BB.same sm).top) ?_ ?_
          · rintro i x σ H6 hx ⟨M1, F1, y6, y7, rfl, sm6, hl6, hf6, hm6, um6, Ld6⟩
            rw [List.getElem?_map] at hx
            obtain ⟨w0, hw, rfl⟩ := Option.map_eq_some_iff.mp hx
            have iL : i < L := by
              have := (List.getElem?_eq_some_iff.mp hw).1
              rw [BB.wl] at this
              exact this
            obtain ⟨cc, hcc⟩ : ∃ cc, cs[i]? = some cc := ⟨_, List.getElem?_eq_getElem (by rw [BB.cl]; exact iL)⟩
            obtain ⟨g1, g2⟩ := (BB.same sm6).mid i w0 cc hw hcc
            obtain ⟨a, hca⟩ : ∃ a, cc[u]? = some a := ⟨_, List.getElem?_eq_getElem (by rw [g2]; exact un)⟩
            have g3 := (BB.same sm6).low i u cc a hcc hca
            have g30 := BB.low i u cc a hcc hca
            refine ⟨_, rfl, _, rfl, w0, _, (u : Int), V.ref a, rfl, rfl, SqL.of g1, atI_nat (v := V.ref a) (by rw [List.getElem?_map, hca]; rfl), a, rfl, ⟨_, SqL.of g3⟩, ?_⟩
            refine for_list (K := K) (a := a) (xs := (f i u).map natV) (fun j σ H' => (∃ (M1 F1 : List Nat) (y7 : Option V), σ = [some (.ref bf), some (.ref gl), some (.int (n : Int)), some (.ref ld), some (.int (u : Int)), some (.ref fd_), some (.ref w0), y7] ∧ Same H H' ∧ H' ld = some (.lst (knB n M1)) ∧ H' fd_ = some (.lst (F1.map natV)) ∧ F1.length + 2 * unm n M1 ≤ F'.length + 2 * unm n M ∧ u ∈ M1 ∧ (∀ s ∈ (f i u).take j, s ∈ M1) ∧ Ld n f L Pd goals M1 F1 (fun c t => t = u ∧ i ≤ c)))
              ⟨M1, F1, _, rfl, sm6, hl6, hf6, hm6, um6, fun s hs => absurd hs (by rw [List.take_zero]; exact List.not_mem_nil), Ld6⟩ (fun j σ H' _ p => by
                obtain ⟨M1, F1, _, _, sm, _⟩ := p
                exact SqL.of (sm _ _ g30)) ?_ ?_
            · rintro j x σ H7 hx ⟨M2, F2, y7, rfl, sm7, hl7, hf7, hm7, um7, htk, Ld7⟩
              obtain ⟨v, hv, rfl⟩ := natV_of hx
              obtain ⟨vn, vp⟩ := hf i u v iL un (List.mem_of_getElem? hv)
              have tk : (f i u).take (j + 1) = (f i u).take j ++ [v] := by rw [List.take_add_one, hv]; rfl
              refine ⟨_, rfl, _, rfl, ld, _, (v : Int), _, rfl, rfl, SqL.of hl7, atI_nat (knB_get vn), _, rfl, ?_⟩
              by_cases hin : v ∈ M2
              · rw [decide_eq_true hin]
                refine ⟨M2, F2, _, rfl, sm7, hl7, hf7, hm7, um7, fun s hs => ?_, Ld7⟩
                rw [tk] at hs
                rcases List.mem_append.mp hs with hs | hs
                · exact htk s hs
                · rw [List.mem_singleton.mp hs]
                  exact hin
              · rw [decide_eq_false hin]
                refine ⟨_, rfl, _, rfl, ld, _, (v : Int), v, rfl, rfl, hl7, Evl.ixN_nat (by rw [knB_len]; exact vn), ?_⟩
                rw [knB_set]
                have f8 : (upd H7 ld (.lst (knB n (M2 ++ [v])))) fd_ = some (.lst (F2.map natV)) := by rw [upd_ne nfl]; exact hf7
                have up := unm_push vn hin
                refine ⟨_, rfl, .inl ⟨rfl, _, SqL.of f8⟩, _, rfl, fd_, _, _, rfl, rfl, f8, Nat.lt_of_le_of_lt (show (F2.map natV).length ≤ 2000 by rw [List.length_map]; omega) (by decide), ?_⟩
                refine ⟨M2 ++ [v], F2 ++ [v], _, rfl, pfd (pld sm7), by rw [upd_ne nfl.symm, upd_same], by rw [upd_same, List.map_append]; rfl, by rw [List.length_append, List.length_singleton]; omega, List.mem_append.mpr (.inl um7), fun s hs => ?_, Ld7.push vn (vp upd_) hin⟩
                rw [tk] at hs
                rcases List.mem_append.mp hs with hs | hs
                · exact List.mem_append.mpr (.inl (htk s hs))
                · exact List.mem_append.mpr (.inr hs)
            · rintro σ H7 ⟨M2, F2, y7, rfl, sm7, hl7, hf7, hm7, um7, htk, Ld7⟩
              rw [List.length_map, List.take_length] at htk
              refine ⟨M2, F2, _, _, rfl, sm7, hl7, hf7, hm7, um7, Ld7.mono (fun s hs => hs) fun t ht hn c hc q => ?_⟩
              rcases q with q | ⟨q1, q2⟩
              · exact absurd q hn
              · by_cases z : c = i
                · subst z
                  subst q1
                  exact .inr htk
                · exact .inl ⟨q1, by omega⟩
          · rintro σ H6 ⟨M1, F1, y6, y7, rfl, sm6, hl6, hf6, hm6, um6, Ld6⟩
            refine ⟨⟨M1, F1, _, _, _, rfl, sm6, hl6, hf6, by omega, Ld6.mono (fun s hs => hs) fun t ht hn c hc q => ?_⟩, ?_⟩
            · rcases q with q | ⟨_, q⟩
              · exact absurd q hn
              · rw [List.length_map, BB.wl] at q
                omega
            · rw [hf6, hl6]
              show (F1.map natV).length + 2 * _ < _
              rw [knB_cnt, List.length_map]
              omega
      · rintro σ H3 Q1 Q2 hQ ⟨x, e1, a, xs, e2, e3, q⟩
        exact ⟨x, e1, a, xs, e2, e3, hQ _ _ q⟩
end
/-! ### the first lots, as they lie -/
structure MemAt (H : Hp) (ma : List Addr) (mem : List (List Nat)) : Prop where
  ln : ma.length = mem.length
  at_ : ∀ (b : Nat) (a : Addr), ma[b]? = some a → H a = some (.lst ((mem.getD b []).map natV))
theorem MemAt.keep {H H' : Hp} {ma : List Addr} {mem : List (List Nat)} (h : MemAt H ma mem) {W : Addr → Prop} (k : Keep W H H') (nw : ∀ a ∈ ma, ¬ W a) : MemAt H' ma mem := ⟨h.ln, fun b a e => k _ _ (nw a (List.mem_of_getElem? e)) (h.at_ b a e)⟩
theorem MemAt.push {H : Hp} {ma : List Addr} {mem : List (List Nat)} (h : MemAt H ma mem) {a : Addr} {l : List Nat} (ha : H a = some (.lst (l.map natV))) : MemAt H (ma ++ [a]) (mem ++ [l]) := by
  refine ⟨by rw [List.length_append, List.length_append, h.ln]; rfl, fun b x e => ?_⟩
  have hl := h.ln
  rcases Nat.lt_or_ge b ma.length with q | q
  · rw [List.getElem?_append_left q] at e
    rw [List.getD_eq_getElem?_getD, List.getElem?_append_left (by omega), ← List.getD_eq_getElem?_getD]
    exact h.at_ b x e
  · have l2 := (List.getElem?_eq_some_iff.mp e).1
    rw [List.length_append, List.length_singleton] at l2
    have eb : b = ma.length := by omega
    rw [eb, List.getElem?_append_right (Nat.le_refl _), Nat.sub_self] at e
    cases e
    rw [eb, hl, List.getD_eq_getElem?_getD, List.getElem?_append_right (Nat.le_refl _), Nat.sub_self]
    exact ha
theorem MemAt.upd {H : Hp} {ma : List Addr} {mem : List (List Nat)} (h : MemAt H ma mem) (nd : ma.Nodup) {b : Nat} {a : Addr} (hb : ma[b]? = some a) (l : List Nat) : MemAt (upd H a (.lst (l.map natV))) ma (mem.set b l) := by
  refine ⟨by rw [List.length_set]; exact h.ln, fun c x e => ?_⟩
  have lb := (List.getElem?_eq_some_iff.mp hb).1
  have lc := (List.getElem?_eq_some_iff.mp e).1
  rw [h.ln] at lb
  by_cases z : c = b
  · subst z
    rw [hb] at e
    cases e
    rw [upd_same, List.getD_eq_getElem?_getD, List.getElem?_set_self lb]
    rfl
  · have ne : x ≠ a := fun q => z ((List.getElem?_inj lc nd).mp (e.trans (q ▸ hb.symm)))
    rw [upd_ne ne, List.getD_eq_getElem?_getD, List.getElem?_set_ne (fun q => z q.symm), ← List.getD_eq_getElem?_getD]
    exact h.at_ c x e
theorem sign_snoc {a : Nat} {xs : List Bool} {b : Bool} : signOf a (xs ++ [b]) = 2 * signOf a xs + b2n b := by
  unfold signOf
  rw [List.foldl_append]
  rfl
/-- what stands while states are put into lots -/
structure FI (H H' : Hp) (n : Nat) (sg : Nat → Nat) (blk nm mb : Addr) (ds : List Nat) (block : List (Option Nat)) (nums : List Nat) (mem : List (List Nat)) (ma : List Addr) : Prop where
  sm : Same H H'
  hb : H' blk = some (.lst (block.map oV))
  hn : H' nm = some (.dK (numKv 0 nums))
  hm : H' mb = some (.lst (ma.map V.ref))
  mat : MemAt H' ma mem
  nd : ma.Nodup
  fr : ∀ a ∈ ma, H a = none ∧ a ≠ blk ∧ a ≠ nm ∧ a ≠ mb
  fb : FB n sg ds block nums mem

section
variable {P : Program} {w : World} {K : PySem.W.Frag} {mg : Str → Option Value} {base : Heap}
theorem scBlocks : FnScope ["rows", "marks", "states", "leads", "block", "numbers", "members", "state", "sign", "target"] ["rows", "marks", "states", "leads"] (defScope sBlocks) := ⟨rfl, rfl, rfl, by decide +kernel, rfl, by decide +kernel, by decide +kernel⟩
def spBlocks : Sp := fun vs H Q _ => ∃ (L : Nat) (rs : Rows) (es : List Bool) (m pr pe mk st ld : Addr) (rvs : List V) (states M : List Nat), vs = [.ref pr, .ref mk, .ref st, .ref ld] ∧ MOk L rs es ∧ MA H L rs es m pr pe rvs ∧ H mk = some (.lst ((es.map b2n).map natV)) ∧ H st = some (.lst (states.map natV)) ∧ states.Nodup ∧ (∀ s ∈ states, s < rs.length) ∧ H ld = some (.lst (knB rs.length M)) ∧
  ∀ (H' : Hp) (r blk mb nm : Addr) (block : List (Option Nat)) (nums : List Nat) (mem : List (List Nat)) (ma : List Addr), FI H H' rs.length (sgS rs es fun t => decide (t ∈ M)) blk nm mb states block nums mem ma → H blk = none → H mb = none → blk ≠ mb → Rd H' r (.tup [.ref blk, .ref mb]) → Q (.ref r) H'
theorem ok_blocks {f : Addr} {fd : FuncData} (F : Fun K "first_blocks" "first_blocks" sBlocks f fd) (T : Mg mg) : FnOk P w K mg base CX0 1 f fd ["rows", "marks", "states", "leads"] spBlocks := by
  refine F.ok scBlocks (fun vs H Q E h => ?_) (fun cdv A outer s H vs Q E hr h => ?_)
  · obtain ⟨L, rs, es, m, pr, pe, mk, st, ld, rvs, states, M, rfl, _⟩ := h
    rfl
  · obtain ⟨L, rs, es, m, pr, pe, mk, st, ld, rvs, states, M, rfl, Mo, MM, hmk, hst, snd, slt, hld, k⟩ := h
    have hu1 := hu_of hr
    have l4 := Mo.l400
    have l1 := Mo.l1
    have hlen := MM.hl
    have sle : states.length ≤ rs.length := nodup_len snd slt
    refine ⟨_, (pss_cons (ps_set (i := 4) scBlocks.nd rfl (.inl rfl) (pe_op op_rep (pe_lst (pa_cons pe_non pa_nil)) (pe_callB (r := rLen K) call_len_seq (by rfl) T.len PySem.boot_len (pa_cons (pv 0) pa_nil))))
      (pss_cons (ps_set (i := 5) scBlocks.nd rfl (.inl rfl) pe_dnewK)
      (pss_cons (ps_set (i := 6) scBlocks.nd rfl (.inl rfl) (pe_lst pa_nil))
      (pss_cons (ps_for PassesOwn.never rfl (pi_list (pv 2)) (pg_name (i := 7) scBlocks.nd rfl (.inl rfl)) (pss_cons (ps_set (i := 8) scBlocks.nd rfl (.inl rfl) (pe_ix (r := rIxL K) ix_list (pv 1) (pv 7) (fun _ _ => rfl)))
      (pss_cons (ps_for PassesOwn.never rfl (pi_tup (pe_ix (r := rIxT K) ix_tup (pv 0) (pv 7) (fun _ _ => rfl))) (pg_name (i := 9) scBlocks.nd rfl (.inl rfl)) (pss_one (ps_set (i := 8) scBlocks.nd rfl (.inl rfl) (pe_op op_add (pe_op op_mul pe_int (pv 8)) (pe_ifExp (PW.pt (pw_and (pt_cmp (pc_notN (pv 9))) (pw_and1 (pt_val (pe_ix (r := rIxL K) ix_list (pv 3) (pv 9) (fun _ _ => rfl)))))) pe_int pe_int)))))
      (pss_cons (ps_if (pt_cmp (pc_dnotin hu1 (pv 8) (pv 5))) (pss_cons (ps_asg (pe_callB (r := rLen K) call_len_seq (by rfl) T.len PySem.boot_len (pa_cons (pv 6) pa_nil)) (pg_sub (pv 5) (pv 8) (set_dict hu1)))
      (pss_one (ps_expr (pe_bm PySem.F.plainAttrs_list PySem.F.slot_list_append PySem.F.type_list_append mt_append (pv 6) (pa_cons (pe_lst pa_nil) pa_nil))))) pss_nil)
      (pss_cons (ps_asg (pe_dget hu1 (pv 5) (pv 8) (fun _ _ => rfl)) (pg_sub (pv 4) (pv 7) set_list))
      (pss_one (ps_expr (pe_bm PySem.F.plainAttrs_list PySem.F.slot_list_append PySem.F.type_list_append mt_append (pe_ix (r := rIxL K) ix_list (pv 6) (pe_dget hu1 (pv 5) (pv 8) (fun _ _ => rfl)) (fun _ _ => rfl)) (pa_cons (pv 7) pa_nil)))))))))
      (pss_one (ps_ret (pe_tup (pa_cons (pv 4) (pa_cons (pv 6) pa_nil))))))))), ?_⟩
    refine ⟨by show 1 ≤ sizeLine; decide, fun t ht => ?_⟩
    have s2 := same_new (o := .lst [.non]) ht
    refine ⟨_, rfl, pr, rvs, rfl, .inr (.inl (same_rd s2 MM.hr)), t, (rvs.length : Int), [V.non], rfl, rfl, upd_same, by omega, by omega, sz_of (by rw [List.length_singleton]; omega), fun blk hk => ?_⟩
    have e0 : (List.replicate (rvs.length : Int).toNat [V.non]).flatten = (List.replicate rs.length (none : Option Nat)).map oV := by
      rw [hlen, List.map_replicate, show (rs.length : Int).toNat = rs.length from Int.toNat_natCast _, List.flatten_replicate_singleton]
      rfl
    rw [e0]
    have s3 := same_new (o := .lst ((List.replicate rs.length (none : Option Nat)).map oV)) hk
    have hb1 : (upd (upd H t (.lst [.non])) blk (.lst ((List.replicate rs.length (none : Option Nat)).map oV))) blk = some (.lst ((List.replicate rs.length (none : Option Nat)).map oV)) := upd_same
    have b0 : H blk = none := s2.free hk
    have sA := s2.trans s3
    generalize upd (upd H t (.lst [.non])) blk (.lst ((List.replicate rs.length (none : Option Nat)).map oV)) = G1 at *
    intro nm hnm
    have s4 := same_new (o := .dK []) hnm
    have hn2 : (upd G1 nm (.dK [])) nm = some (.dK (numKv 0 [])) := upd_same
    have hb2 := s4 _ _ hb1
    have n0 : H nm = none := sA.free hnm
    have sB := sA.trans s4
    have nbm : nm ≠ blk := fun z => by rw [z, hb1] at hnm; cases hnm
    generalize upd G1 nm (.dK []) = G2 at *
    refine ⟨by show 0 ≤ sizeLine; decide, fun mb hmb => ?_⟩
    have s5 := same_new (o := .lst []) hmb
    have hm3 : (upd G2 mb (.lst [])) mb = some (.lst (([] : List Addr).map V.ref)) := upd_same
    have m0 : H mb = none := sB.free hmb
    have nmb : mb ≠ blk := fun z => by rw [z, hb2] at hmb; cases hmb
    have nmn : mb ≠ nm := fun z => by rw [z, hn2] at hmb; cases hmb
    have FI0 : FI H (upd G2 mb (.lst [])) rs.length (sgS rs es fun t => decide (t ∈ M)) blk nm mb [] (List.replicate rs.length none) [] [] [] := ⟨sB.trans s5, s5 _ _ hb2, s5 _ _ hn2, hm3, ⟨rfl, fun b a e => by cases e⟩, List.nodup_nil, fun a h => absurd h List.not_mem_nil, fb_start⟩
    generalize upd G2 mb (.lst []) = G3 at *
    refine ⟨_, rfl, st, rfl, ⟨_, SqL.of (FI0.sm _ _ hst)⟩, ?_⟩
    refine for_list (K := K) (a := st) (xs := states.map natV) (fun i σ H' => (∃ y7 y8 y9, σ = [some (.ref pr), some (.ref mk), some (.ref st), some (.ref ld), some (.ref blk), some (.ref nm), some (.ref mb), y7, y8, y9]) ∧ ∃ block nums mem ma, FI H H' rs.length (sgS rs es fun t => decide (t ∈ M)) blk nm mb (states.take i) block nums mem ma) ⟨⟨_, _, _, rfl⟩, _, _, _, _, FI0⟩ (fun i σ H' _ p => by
      obtain ⟨_, _, _, _, _, h⟩ := p
      exact SqL.of (h.sm _ _ hst)) ?_ ?_
    · rintro i x σ H2 hx ⟨⟨y7, y8, y9, rfl⟩, block, nums, mem, ma, fi⟩
      obtain ⟨u, hu, rfl⟩ := natV_of hx
      have hun := slt u (List.mem_of_getElem? hu)
      have hue : u < es.length := by rw [Mo.es]; exact hun
      have tk : states.take (i + 1) = states.take i ++ [u] := by rw [List.take_add_one, hu]; rfl
      have hnd : u ∉ states.take i := by
        have := snd
        rw [← List.take_append_drop (i + 1) states, tk] at this
        have := (List.nodup_append.mp this).1
        exact fun q => (List.nodup_append.mp this).2.2 u q u List.mem_cons_self rfl
      have emk : ((es.map b2n).map natV)[u]? = some (natV (b2n (es.getD u false))) := by
        rw [List.getElem?_map, List.getElem?_map, List.getElem?_eq_getElem hue, getD_at hue]
        rfl
      have hmk2 := fi.sm _ _ hmk
      refine ⟨_, rfl, _, rfl, mk, _, (u : Int), _, rfl, rfl, SqL.of hmk2, atI_nat emk, ?_⟩
      have hrow : rs[u]? = some rs[u] := List.getElem?_eq_getElem hun
      have hbits : bitsOf rs (fun t => decide (t ∈ M)) u = (rs[u]).map (lvO fun t => decide (t ∈ M)) := by
        unfold bitsOf
        rw [getD_at hun]
      have hmr := List.getElem_mem hun
      generalize rs[u] = row at *
      obtain ⟨q, hq1, hq0⟩ := MM.row u row hrow
      have hq2 := same_rd fi.sm hq0
      have hld2 := fi.sm _ _ hld
      refine ⟨_, rfl, _, rfl, pr, rvs, (u : Int), _, rfl, rfl, .inl (same_rd fi.sm MM.hr), atI_nat hq1, q, rfl, ⟨_, .inl hq2⟩, ?_⟩
      refine for_tup (K := K) (a := q) (xs := row.map oV) (fun j σ H' => (∃ y9, σ = [some (.ref pr), some (.ref mk), some (.ref st), some (.ref ld), some (.ref blk), some (.ref nm), some (.ref mb), some (.int (u : Int)), some (.int ((signOf (b2n (es.getD u false)) ((row.take j).map (lvO fun t => decide (t ∈ M))) : Nat) : Int)), y9]) ∧ H' = H2) ⟨⟨_, rfl⟩, rfl⟩ (fun j σ H' _ p => by rw [p.2]; exact .inl hq2) ?_ ?_
      · rintro j x σ H3 hx ⟨⟨y9, rfl⟩, rfl⟩
        rw [List.getElem?_map] at hx
        obtain ⟨tg, hj, rfl⟩ := Option.map_eq_some_iff.mp hx
        have tkj : row.take (j + 1) = row.take j ++ [tg] := by rw [List.take_add_one, hj]; rfl
        have sn : signOf (b2n (es.getD u false)) ((row.take (j + 1)).map (lvO fun t => decide (t ∈ M))) = 2 * signOf (b2n (es.getD u false)) ((row.take j).map (lvO fun t => decide (t ∈ M))) + b2n (lvO (fun t => decide (t ∈ M)) tg) := by
          rw [tkj, List.map_append]
          exact sign_snoc
        rw [sn]
        generalize signOf (b2n (es.getD u false)) ((row.take j).map (lvO fun t => decide (t ∈ M))) = sg0
        refine ⟨_, rfl, 2, (sg0 : Int), rfl, rfl, .inl ⟨by decide, by decide⟩, ?_⟩
        have fin : ∀ (b : Bool) (z : Int), z = (b2n b : Int) → ∃ y9 : Option V, ([some (.ref pr), some (.ref mk), some (.ref st), some (.ref ld), some (.ref blk), some (.ref nm), some (.ref mb), some (V.int (u : Int)), some (V.int (2 * (sg0 : Int) + z)), some (oV tg)] : List (Option V)) = [some (.ref pr), some (.ref mk), some (.ref st), some (.ref ld), some (.ref blk), some (.ref nm), some (.ref mb), some (.int (u : Int)), some (.int ((2 * sg0 + b2n b : Nat) : Int)), y9] := fun b z e => ⟨some (oV tg), by rw [e]; push_cast; rfl⟩
        refine ⟨_, rfl, _, rfl, ?_⟩
        cases tg with
        | none => exact ⟨_, _, rfl, rfl, fin false 0 rfl, rfl⟩
        | some t =>
          have tl := Mo.tgt row hmr t (List.mem_of_getElem? hj)
          refine ⟨_, rfl, _, rfl, ld, _, (t : Int), _, rfl, rfl, SqL.of hld2, atI_nat (knB_get tl), _, rfl, ?_⟩
          by_cases hin : t ∈ M
          · rw [show lvO (fun t => decide (t ∈ M)) (some t) = true from decide_eq_true hin, decide_eq_true hin]
            exact ⟨_, _, rfl, rfl, fin true 1 rfl, rfl⟩
          · rw [show lvO (fun t => decide (t ∈ M)) (some t) = false from decide_eq_false hin, decide_eq_false hin]
            exact ⟨_, _, rfl, rfl, fin false 0 rfl, rfl⟩
      · rintro σ H3 ⟨⟨y9, rfl⟩, rfl⟩
        rw [List.length_map, List.take_length, ← hbits]
        have esg : signOf (b2n (es.getD u false)) (bitsOf rs (fun t => decide (t ∈ M)) u) = sgS rs es (fun t => decide (t ∈ M)) u := rfl
        rw [esg]
        generalize hsg : sgS rs es (fun t => decide (t ∈ M)) u = sg0
        have memlen : ∀ b, (mem.getD b []).length ≤ 1000 := fun b => by
          rcases Nat.lt_or_ge b mem.length with q | q
          · have := fi.fb.ms b _ (List.getElem?_eq_getElem (by rw [← fi.fb.lm]; exact q))
            rw [List.getD_eq_getElem?_getD, this]
            show (List.filter _ _).length ≤ 1000
            refine Nat.le_trans (List.length_filter_le _ _) ?_
            rw [List.length_take]
            omega
          · rw [List.getD_eq_getElem?_getD, List.getElem?_eq_none q]
            exact Nat.zero_le _
        have nle : nums.length ≤ 1000 := by
          have h1 := fi.fb.sum
          have h2 := sum_ge (zs := mem.map List.length) fun z hz => by
            obtain ⟨xs, hx, rfl⟩ := List.mem_map.mp hz
            obtain ⟨b, hb⟩ := List.mem_iff_getElem?.mp hx
            have lb := (List.getElem?_eq_some_iff.mp hb).1
            obtain ⟨g, hg⟩ : ∃ g, nums[b]? = some g := ⟨_, List.getElem?_eq_getElem (by rw [← fi.fb.lm]; exact lb)⟩
            obtain ⟨s0, hs0, es0⟩ := fi.fb.ne b g hg
            rw [fi.fb.ms b g hg] at hb
            rw [← Option.some.inj hb]
            exact List.length_pos_of_mem (List.mem_filter.mpr ⟨hs0, decide_eq_true es0⟩)
          have h3 := fi.fb.lm
          rw [List.length_map, h1, List.length_take] at h2
          omega
        have dg0 : DGet H3 nm (.int (sg0 : Int)) (valV (numKv 0 nums) (.inl (sg0 : Int))) := DGet.k (k := .inl (sg0 : Int)) fi.hn
        refine ⟨_, rfl, _, rfl, nm, _, rfl, dg0, _, rfl, ?_⟩
        by_cases hin : sg0 ∈ nums
        · obtain ⟨i0, hi⟩ := List.mem_iff_getElem?.mp hin
          have nv := numKv_at nums 0 i0 sg0 fi.fb.nd hi
          rw [Nat.zero_add] at nv
          rw [nv]
          have gn := fi.hn
          have gb := fi.hb
          have gsm := fi.sm
          have gm := fi.hm
          have gt := fi.mat
          have gf := fi.fr
          have gd := fi.nd
          have gfb := fi.fb.more hun hnd (by rw [hsg]; exact hi)
          have il := (List.getElem?_eq_some_iff.mp hi).1
          obtain ⟨a0, hma⟩ : ∃ a0, ma[i0]? = some a0 := ⟨_, List.getElem?_eq_getElem (by rw [fi.mat.ln, fi.fb.lm]; exact il)⟩
          have dgi : DGet H3 nm (.int (sg0 : Int)) (some (.int (i0 : Int))) := by
            have := DGet.k (k := .inl (sg0 : Int)) gn
            rw [nv] at this
            exact this
          refine ⟨_, rfl, _, rfl, nm, _, rfl, dgi, _, rfl, _, rfl, blk, _, (u : Int), u, rfl, rfl, gb, Evl.ixN_nat (by rw [List.length_map, fi.fb.lb]; exact hun), ?_⟩
          have eb : (block.map oV).set u (V.int (i0 : Int)) = (block.set u (some i0)).map oV := by
            rw [List.map_set]
            rfl
          rw [eb]
          have ua : ∀ {z : Addr} {o : HO}, z ≠ blk → H3 z = some o → (upd H3 blk (.lst ((block.set u (some i0)).map oV))) z = some o := fun ne e => by rw [upd_ne ne]; exact e
          have sm8 : Same H (upd H3 blk (.lst ((block.set u (some i0)).map oV))) := fun z o e => ua (fun q => by rw [q, b0] at e; cases e) (gsm _ _ e)
          have hn8 := ua nbm gn
          have hm8 := ua nmb gm
          have mat8 := gt.keep (W := fun b => b = blk) (H' := upd H3 blk (.lst ((block.set u (some i0)).map oV))) (fun b o nb e => ua nb e) (fun x hx => (gf x hx).2.1)
          have hb8 : (upd H3 blk (.lst ((block.set u (some i0)).map oV))) blk = some (.lst ((block.set u (some i0)).map oV)) := upd_same
          generalize upd H3 blk (.lst ((block.set u (some i0)).map oV)) = G8 at *
          have dgj : DGet G8 nm (.int (sg0 : Int)) (some (.int (i0 : Int))) := by
            have := DGet.k (k := .inl (sg0 : Int)) hn8
            rw [nv] at this
            exact this
          have ha8 := mat8.at_ i0 a0 hma
          obtain ⟨a00, a01, a02, a03⟩ := gf a0 (List.mem_of_getElem? hma)
          have ml : (mem.getD i0 []).length ≤ 1000 := memlen _
          refine ⟨_, rfl, _, rfl, _, rfl, nm, _, rfl, dgj, mb, _, (i0 : Int), V.ref a0, rfl, rfl, SqL.of hm8, atI_nat (v := V.ref a0) (by rw [List.getElem?_map, hma]; rfl), .inl ⟨rfl, _, SqL.of ha8⟩, _, rfl, a0, _, _, rfl, rfl, ha8, small1000 (by rw [List.length_map]; exact ml), ?_⟩
          have ea : (mem.getD i0 []).map natV ++ [V.int (u : Int)] = (mem.getD i0 [] ++ [u]).map natV := by
            rw [List.map_append]
            rfl
          rw [ea]
          refine ⟨⟨_, _, _, rfl⟩, block.set u (some i0), nums, mem.set i0 (mem.getD i0 [] ++ [u]), ma, ⟨fun z o e => ?_, by rw [upd_ne a01.symm]; exact hb8, by rw [upd_ne a02.symm]; exact hn8, by rw [upd_ne a03.symm]; exact hm8, mat8.upd gd hma _, gd, gf, by rw [tk]; exact gfb⟩⟩
          rw [upd_ne (fun q => by rw [q, a00] at e; cases e)]
          exact sm8 _ _ e
        · rw [numKv_no hin]
          have nl15 : (numKv 0 nums).length < sizeLine := small1000 (by rw [numKv_len]; exact nle)
          have lma : ma.length = nums.length := by rw [fi.mat.ln, fi.fb.lm]
          have dp : DPut H3 nm (.int (sg0 : Int)) (.int ((ma.map V.ref).length : Int)) (upd H3 nm (.dK (numKv 0 (nums ++ [sg0])))) := by
            have := DPut.k (k := .inl (sg0 : Int)) (v := .int ((ma.map V.ref).length : Int)) fi.hn nl15
            rw [List.length_map, lma, numKv_put hin] at this
            rw [List.length_map, lma]
            exact this
          have u1 : ∀ {z : Addr} {o : HO}, z ≠ nm → H3 z = some o → (upd H3 nm (.dK (numKv 0 (nums ++ [sg0])))) z = some o := fun ne e => by rw [upd_ne ne]; exact e
          have n1n : (upd H3 nm (.dK (numKv 0 (nums ++ [sg0])))) nm = some (.dK (numKv 0 (nums ++ [sg0]))) := upd_same
          have n1b := u1 nbm.symm fi.hb
          have n1m := u1 nmn fi.hm
          have n1s : Same H (upd H3 nm (.dK (numKv 0 (nums ++ [sg0])))) := fun z o e => u1 (fun q => by rw [q, n0] at e; cases e) (fi.sm _ _ e)
          have n1t := fi.mat.keep (W := fun b => b = nm) (H' := upd H3 nm (.dK (numKv 0 (nums ++ [sg0])))) (fun b o nb e => u1 nb e) (fun x hx => (fi.fr x hx).2.2.1)
          refine ⟨_, rfl, mb, _, rfl, .inl (SqL.of fi.hm), _, rfl, _, rfl, nm, _, rfl, dp, ?_⟩
          generalize upd H3 nm (.dK (numKv 0 (nums ++ [sg0]))) = G1 at *
          refine ⟨_, rfl, .inl ⟨rfl, _, SqL.of n1m⟩, by show 0 ≤ sizeLine; decide, fun a0 na => ?_⟩
          have sa := same_new (o := .lst []) na
          have am : a0 ≠ mb := fun q => by rw [q, n1m] at na; cases na
          have ab : a0 ≠ blk := fun q => by rw [q, n1b] at na; cases na
          have an : a0 ≠ nm := fun q => by rw [q, n1n] at na; cases na
          have aH : H a0 = none := n1s.free na
          have ama : a0 ∉ ma := fun q => by
            obtain ⟨b, hb⟩ := List.mem_iff_getElem?.mp q
            rw [n1t.at_ b a0 hb] at na
            cases na
          refine ⟨mb, _, _, rfl, rfl, sa _ _ n1m, small1000 (by rw [List.length_map]; omega), ?_⟩
          have em : ma.map V.ref ++ [V.ref a0] = (ma ++ [a0]).map V.ref := by
            rw [List.map_append]
            rfl
          rw [em]
          have u2 : ∀ {z : Addr} {o : HO}, z ≠ mb → (upd G1 a0 (.lst [])) z = some o → (upd (upd G1 a0 (.lst [])) mb (.lst ((ma ++ [a0]).map V.ref))) z = some o := fun ne e => by rw [upd_ne ne]; exact e
          have gn := u2 nmn.symm (sa _ _ n1n)
          have gb := u2 nmb.symm (sa _ _ n1b)
          have gm : (upd (upd G1 a0 (.lst [])) mb (.lst ((ma ++ [a0]).map V.ref))) mb = some (.lst ((ma ++ [a0]).map V.ref)) := upd_same
          have gsm : Same H (upd (upd G1 a0 (.lst [])) mb (.lst ((ma ++ [a0]).map V.ref))) := fun z o e => u2 (fun q => by rw [q, m0] at e; cases e) (sa _ _ (n1s _ _ e))
          have gt : MemAt (upd (upd G1 a0 (.lst [])) mb (.lst ((ma ++ [a0]).map V.ref))) (ma ++ [a0]) (mem ++ [[]]) := ((n1t.keep (W := fun _ => False) (Keep.same sa) (fun _ _ z => z)).keep (W := fun b => b = mb) (fun b o nb e => u2 nb e) (fun x hx => (fi.fr x hx).2.2.2)).push (u2 am upd_same)
          have gd : (ma ++ [a0]).Nodup := by
            rw [List.nodup_append]
            refine ⟨fi.nd, List.nodup_cons.mpr ⟨List.not_mem_nil, List.nodup_nil⟩, fun x hx y hy e => ?_⟩
            rw [List.mem_singleton.mp hy] at e
            exact ama (e ▸ hx)
          have gf : ∀ a ∈ ma ++ [a0], H a = none ∧ a ≠ blk ∧ a ≠ nm ∧ a ≠ mb := fun x hx => by
            rcases List.mem_append.mp hx with hx | hx
            · exact fi.fr x hx
            · rw [List.mem_singleton.mp hx]
              exact ⟨aH, ab, an, am⟩
          generalize upd (upd G1 a0 (.lst [])) mb (.lst ((ma ++ [a0]).map V.ref)) = G2 at *
          have fb' := fi.fb.fresh hun hnd (by rw [hsg]; exact hin)
          rw [hsg] at fb'
          obtain ⟨i0, ei0⟩ : ∃ i0, i0 = nums.length := ⟨_, rfl⟩
          have nv := numKv_at (nums ++ [sg0]) 0 i0 sg0 fb'.nd (by rw [ei0, List.getElem?_append_right (Nat.le_refl _), Nat.sub_self]; rfl)
          rw [Nat.zero_add] at nv
          have hma : (ma ++ [a0])[i0]? = some a0 := by rw [ei0, ← lma, List.getElem?_append_right (Nat.le_refl _), Nat.sub_self]; rfl
          have eqm : mem.length = i0 := by rw [ei0, fi.fb.lm]
          have mg0 : (mem ++ [[]]).getD i0 [] = ([] : List Nat) := by rw [← eqm, List.getD_eq_getElem?_getD, List.getElem?_append_right (Nat.le_refl _), Nat.sub_self]; rfl
          have ms0 : (mem ++ [[]]).set i0 ((mem ++ [[]]).getD i0 [] ++ [u]) = mem ++ [[u]] := by
            rw [mg0, ← eqm, List.set_append_right _ _ (Nat.le_refl _), Nat.sub_self]
            rfl
          have gfb : FB rs.length (sgS rs es fun t => decide (t ∈ M)) (states.take i ++ [u]) (block.set u (some i0)) (nums ++ [sg0]) ((mem ++ [[]]).set i0 ((mem ++ [[]]).getD i0 [] ++ [u])) := by
            rw [ms0, ← eqm]
            exact fb'
          have memlen : ∀ b, b = i0 → ((mem ++ [[]]).getD b []).length ≤ 1000 := fun b e => by rw [e, mg0]; exact Nat.zero_le _
          have dgi : DGet G2 nm (.int (sg0 : Int)) (some (.int (i0 : Int))) := by
            have := DGet.k (k := .inl (sg0 : Int)) gn
            rw [nv] at this
            exact this
          refine ⟨_, rfl, _, rfl, nm, _, rfl, dgi, _, rfl, _, rfl, blk, _, (u : Int), u, rfl, rfl, gb, Evl.ixN_nat (by rw [List.length_map, fi.fb.lb]; exact hun), ?_⟩
          have eb : (block.map oV).set u (V.int (i0 : Int)) = (block.set u (some i0)).map oV := by
            rw [List.map_set]
            rfl
          rw [eb]
          have ua : ∀ {z : Addr} {o : HO}, z ≠ blk → G2 z = some o → (upd G2 blk (.lst ((block.set u (some i0)).map oV))) z = some o := fun ne e => by rw [upd_ne ne]; exact e
          have sm8 : Same H (upd G2 blk (.lst ((block.set u (some i0)).map oV))) := fun z o e => ua (fun q => by rw [q, b0] at e; cases e) (gsm _ _ e)
          have hn8 := ua nbm gn
          have hm8 := ua nmb gm
          have mat8 := gt.keep (W := fun b => b = blk) (H' := upd G2 blk (.lst ((block.set u (some i0)).map oV))) (fun b o nb e => ua nb e) (fun x hx => (gf x hx).2.1)
          have hb8 : (upd G2 blk (.lst ((block.set u (some i0)).map oV))) blk = some (.lst ((block.set u (some i0)).map oV)) := upd_same
          generalize upd G2 blk (.lst ((block.set u (some i0)).map oV)) = G8 at *
          have dgj : DGet G8 nm (.int (sg0 : Int)) (some (.int (i0 : Int))) := by
            have := DGet.k (k := .inl (sg0 : Int)) hn8
            rw [nv] at this
            exact this
          have ha8 := mat8.at_ i0 a0 hma
          obtain ⟨a00, a01, a02, a03⟩ := gf a0 (List.mem_of_getElem? hma)
          have ml : ((mem ++ [[]]).getD i0 []).length ≤ 1000 := memlen _ rfl
          refine ⟨_, rfl, _, rfl, _, rfl, nm, _, rfl, dgj, mb, _, (i0 : Int), V.ref a0, rfl, rfl, SqL.of hm8, atI_nat (v := V.ref a0) (by rw [List.getElem?_map, hma]; rfl), .inl ⟨rfl, _, SqL.of ha8⟩, _, rfl, a0, _, _, rfl, rfl, ha8, small1000 (by rw [List.length_map]; exact ml), ?_⟩
          have ea : ((mem ++ [[]]).getD i0 []).map natV ++ [V.int (u : Int)] = ((mem ++ [[]]).getD i0 [] ++ [u]).map natV := by
            rw [List.map_append]
            rfl
          rw [ea]
          refine ⟨⟨_, _, _, rfl⟩, block.set u (some i0), (nums ++ [sg0]), (mem ++ [[]]).set i0 ((mem ++ [[]]).getD i0 [] ++ [u]), (ma ++ [a0]), ⟨fun z o e => ?_, by rw [upd_ne a01.symm]; exact hb8, by rw [upd_ne a02.symm]; exact hn8, by rw [upd_ne a03.symm]; exact hm8, mat8.upd gd hma _, gd, gf, by rw [tk]; exact gfb⟩⟩
          rw [upd_ne (fun q => by rw [q, a00] at e; cases e)]
          exact sm8 _ _ e
    · rintro σ H2 ⟨⟨y7, y8, y9, rfl⟩, block, nums, mem, ma, fi⟩
      rw [List.length_map, List.take_length] at fi
      refine ⟨_, rfl, _, rfl, by show 2 ≤ sizeLine; decide, fun r nr => ?_⟩
      have sr := same_new (o := .tup [.ref blk, .ref mb]) nr
      refine k _ r blk mb nm block nums mem ma ⟨fi.sm.trans sr, sr _ _ fi.hb, sr _ _ fi.hn, sr _ _ fi.hm, fi.mat.keep (W := fun _ => False) (Keep.same sr) (fun _ _ z => z), fi.nd, fi.fr, fi.fb⟩ b0 m0 nmb.symm (.inl upd_same)
end
/-! ### list(range(n)) -/
section
variable {X : Cx}
theorem ps_dead {st : Stmt} : PS X st (fun _ _ _ => False) := ⟨fun _ _ _ _ _ _ h => h.elim⟩
theorem cr_range1 : CallR X (.type "range") (fun vs H Q => ∃ n : Int, vs = [V.int n] ∧ ∀ p, H p = none → Q (.ref p) (upd H p (.rng 0 n))) := by
  intro pins s σ H vs us Q I r h
  obtain ⟨n, rfl, q⟩ := h
  obtain ⟨u1, rfl, ri⟩ := vals1 r
  obtain ⟨t, rfl⟩ := ri
  refine call_range_1 ⟨.ref s.heap.objs.size, upd H s.heap.objs.size (.rng 0 n), I.laid (t' := s.toks + 1 + 1) (fun b o e => Heap.get?_push_of_some _ e) (Nat.le_refl _) ?_, rfl, q _ (I.hok.fresh (Nat.le_refl _))⟩
  exact ⟨_, _, _, Heap.get?_push_size _ rfl⟩
theorem vals_range : ∀ (n k : Nat) (acc : List Value), acc.length = n → (∀ (j : Nat) (v : Value), acc[j]? = some v → ∃ t, v = Value.int ((k + j : Nat) : Int) t) → Vals ((List.range' k n).map natV) acc
  | 0, k, acc, hl, _ => by
    rw [List.eq_nil_of_length_eq_zero hl]
    exact .nil
  | n + 1, k, acc, hl, h => by
    cases acc with
    | nil => cases hl
    | cons v acc =>
      rw [List.range'_succ, List.map_cons]
      obtain ⟨t, e⟩ := h 0 v rfl
      refine .cons ⟨t, by rw [e]; rfl⟩ (vals_range n (k + 1) acc (Nat.succ.inj hl) fun j w hj => ?_)
      obtain ⟨t, e⟩ := h (j + 1) w hj
      exact ⟨t, by rw [e, show k + (j + 1) = k + 1 + j by omega]⟩
def rListR : List V → Hp → VK → Prop := fun xs H Q => ∃ (a : Addr) (n : Nat), xs = [.ref a] ∧ H a = some (.rng 0 (n : Int)) ∧ n ≤ 1000 ∧ ∀ p H', Same H H' → H p = none → H' p = some (.lst ((List.range n).map natV)) → Q (.ref p) H'
theorem call_listR (hc : X.calm = true) : CallR X (.type "list") rListR := by
  intro pins s σ H xs us Q I r h
  obtain ⟨a, n, rfl, ha, hn, q⟩ := h
  obtain ⟨u, rfl, rx⟩ := vals1 r
  cases rx
  obtain ⟨t1, t2, t3, ho⟩ := I.hok a _ ha
  refine call_list_range (n := n) (I.ok.hd hc) ho ?_ ?_ (by omega) (fun h' tk acc c hk hS hacc => ?_)
  · have fl : ∀ z : Int, -1000 ≤ z → z ≤ 1000 → Builtin.Range.rangeFitsLong z = true := fun z h1 h2 => by
      unfold Builtin.Range.rangeFitsLong
      simp
      omega
    have es : Builtin.Range.rangeSize 0 (n : Int) 1 = (n : Int) := by
      rw [PySem.rangeSize_one]
      split <;> omega
    unfold Builtin.Range.small
    simp
    rw [es]
    exact ⟨⟨⟨⟨fl 0 (by omega) (by omega), fl _ (by omega) (by omega)⟩, fl 1 (by omega) (by omega)⟩, fl _ (by omega) (by omega)⟩, .inr (fl _ (by omega) (by omega))⟩
  · rw [PySem.rangeSize_one]
    split <;> omega
  · have hv : Vals ((List.range n).map natV) acc.toList := by
      rw [List.range_eq_range']
      refine vals_range n 0 acc.toList (by rw [Array.length_toList, hacc.1]) fun j v hv => ?_
      obtain ⟨t, e⟩ := hacc.2 j v (by rw [← Array.getElem?_toList]; exact hv)
      exact ⟨t, by rw [e]; congr 1; omega⟩
    have np := I.fresh
    refine ⟨.ref s.heap.objs.size, _, I.laid (o := .lst ((List.range n).map natV)) (t' := tk) hk (Nat.le_refl _) ⟨?_, acc.toList, c, hv, by simpa using hS⟩, rfl, q _ _ (same_new np) np upd_same⟩
    rw [List.length_map, List.length_range]
    exact Nat.le_trans hn (by decide)
end
/-! ### a dict of lists, by the order in which they came -/
def tKv (ks : List (Nat × Addr)) : List (Key × V) := ks.map fun p => (.inl (p.1 : Int), .ref p.2)
theorem tKv_no {ks : List (Nat × Addr)} {k : Nat} (h : k ∉ ks.map Prod.fst) : (tKv ks).any (fun kv => decide (kv.1 = (.inl (k : Int) : Key))) = false ∧ valV (tKv ks) (.inl (k : Int)) = none := by
  have h1 : (tKv ks).any (fun kv => decide (kv.1 = (.inl (k : Int) : Key))) = false := by
    rw [List.any_eq_false]
    intro x hx
    obtain ⟨p, hp, rfl⟩ := List.mem_map.mp hx
    rw [decide_eq_true_eq]
    exact inl_ne fun e => h (List.mem_map.mpr ⟨p, hp, e⟩)
  refine ⟨h1, ?_⟩
  unfold valV
  rw [List.any_eq_false] at h1
  rw [List.find?_eq_none.mpr fun x hx => h1 x hx]
  rfl
theorem tKv_at : ∀ {ks : List (Nat × Addr)} {i k : Nat} {a : Addr}, (ks.map Prod.fst).Nodup → ks[i]? = some (k, a) → valV (tKv ks) (.inl (k : Int)) = some (.ref a)
  | [], _, _, _, _, h => by cases h
  | p :: ks, 0, k, a, _, h => by
    cases h
    unfold valV tKv
    rw [List.map_cons, List.find?_cons_of_pos (by exact decide_eq_true rfl)]
    rfl
  | p :: ks, i + 1, k, a, nd, h => by
    rw [List.map_cons] at nd
    obtain ⟨n1, n2⟩ := List.nodup_cons.mp nd
    have h' : ks[i]? = some (k, a) := h
    have ne : p.1 ≠ k := fun e => n1 (e ▸ List.mem_map.mpr ⟨(k, a), List.mem_of_getElem? h', rfl⟩)
    have ih := tKv_at n2 h'
    unfold valV tKv at ih ⊢
    rw [List.map_cons, List.find?_cons_of_neg (by rw [decide_eq_true_eq]; exact inl_ne ne)]
    exact ih
theorem tKv_put {ks : List (Nat × Addr)} {k : Nat} {a : Addr} (h : k ∉ ks.map Prod.fst) : putK (tKv ks) (.inl (k : Int)) (.ref a) = tKv (ks ++ [(k, a)]) := by
  unfold putK
  rw [if_neg (by rw [(tKv_no h).1]; exact Bool.false_ne_true)]
  unfold tKv
  rw [List.map_append]
  rfl
/-! ### splitting, read -/
structure RfI (H0 H : Hp) (blk mb sz wt qu : Addr) (block : List (Option Nat)) (mem : List (List Nat)) (sizes : List Nat) (wait : List Bool) (queue : List Nat) (ma : List Addr) : Prop where
  kp : Keep (fun b => b = blk ∨ b = mb) H0 H
  hb : H blk = some (.lst (block.map oV))
  hm : H mb = some (.lst (ma.map V.ref))
  mat : MemAt H ma mem
  hs : H sz = some (.lst (sizes.map natV))
  hw : H wt = some (.lst (wait.map V.bl))
  hq : H qu = some (.lst (queue.map natV))
  fm : ∀ a ∈ ma, a ≠ blk ∧ a ≠ mb ∧ a ≠ sz ∧ a ≠ wt ∧ a ≠ qu
  ds : blk ≠ mb ∧ sz ≠ blk ∧ sz ≠ mb ∧ wt ≠ blk ∧ wt ≠ mb ∧ wt ≠ sz ∧ qu ≠ blk ∧ qu ≠ mb ∧ qu ≠ sz ∧ qu ≠ wt
  new : H0 sz = none ∧ H0 wt = none ∧ H0 qu = none
theorem RfI.same {H0 H H' : Hp} {blk mb sz wt qu : Addr} {block : List (Option Nat)} {mem : List (List Nat)} {sizes : List Nat} {wait : List Bool} {queue : List Nat} {ma : List Addr} (h : RfI H0 H blk mb sz wt qu block mem sizes wait queue ma) (s : Same H H') : RfI H0 H' blk mb sz wt qu block mem sizes wait queue ma :=
  ⟨fun b o nb e => s _ _ (h.kp b o nb e), s _ _ h.hb, s _ _ h.hm, h.mat.keep (W := fun _ => False) (Keep.same s) (fun _ _ z => z), s _ _ h.hs, s _ _ h.hw, s _ _ h.hq, h.fm, h.ds, h.new⟩
/-- a place that is none of these is written -/
theorem RfI.off {H0 H : Hp} {blk mb sz wt qu p : Addr} {o : HO} {block : List (Option Nat)} {mem : List (List Nat)} {sizes : List Nat} {wait : List Bool} {queue : List Nat} {ma : List Addr} (h : RfI H0 H blk mb sz wt qu block mem sizes wait queue ma) (h0 : H0 p = none) (np : p ≠ blk ∧ p ≠ mb ∧ p ≠ sz ∧ p ≠ wt ∧ p ≠ qu) (nm : p ∉ ma) : RfI H0 (upd H p o) blk mb sz wt qu block mem sizes wait queue ma := by
  have up : ∀ {z : Addr} {u : HO}, z ≠ p → H z = some u → (upd H p o) z = some u := fun ne e => by rw [upd_ne ne]; exact e
  exact ⟨fun b u nb e => up (fun z => by rw [z, h0] at e; cases e) (h.kp b u nb e), up np.1.symm h.hb, up np.2.1.symm h.hm, h.mat.keep (W := fun b => b = p) (fun b u nb e => up nb e) (fun a ha z => nm (z ▸ ha)), up np.2.2.1.symm h.hs, up np.2.2.2.1.symm h.hw, up np.2.2.2.2.symm h.hq, h.fm, h.ds, h.new⟩
/-- the lists of what was touched, as they lie -/
structure TgI (H7 H' : Hp) (td : Addr) (ks : List (Nat × Addr)) (touched : List (Nat × List Nat)) : Prop where
  sm : Same H7 H'
  hd : H' td = some (.dK (tKv ks))
  td0 : H7 td = none
  ky : ks.map Prod.fst = touched.map Prod.fst
  at_ : ∀ (j k : Nat) (l : List Nat), touched[j]? = some (k, l) → ∃ a, ks[j]? = some (k, a) ∧ H' a = some (.lst (l.map natV)) ∧ H7 a = none ∧ a ≠ td
  nd : (ks.map Prod.snd).Nodup
theorem TgI.fresh {H7 H' : Hp} {td a k : Nat} {ks : List (Nat × Addr)} {touched : List (Nat × List Nat)} {l : List Nat} (h : TgI H7 H' td ks touched) (na : H' a = none) : TgI H7 (upd (upd H' a (.lst (l.map natV))) td (.dK (tKv (ks ++ [(k, a)])))) td (ks ++ [(k, a)]) (touched ++ [(k, l)]) := by
  have atd : a ≠ td := fun z => by rw [z, h.hd] at na; cases na
  have ln : ks.length = touched.length := by
    have := congrArg List.length h.ky
    rwa [List.length_map, List.length_map] at this
  refine ⟨fun b o e => ?_, upd_same, h.td0, by rw [List.map_append, List.map_append, h.ky]; rfl, fun j k' l' e => ?_, ?_⟩
  · have h1 := h.sm _ _ e
    rw [upd_ne (ne_of_none e h.td0), upd_ne (ne_of_none h1 na)]
    exact h1
  · rcases Nat.lt_or_ge j touched.length with q | q
    · rw [List.getElem?_append_left q] at e
      obtain ⟨x, e1, e2, e3, e4⟩ := h.at_ j k' l' e
      exact ⟨x, by rw [List.getElem?_append_left (by omega)]; exact e1, by rw [upd_ne e4, upd_ne (ne_of_none e2 na)]; exact e2, e3, e4⟩
    · have l2 := (List.getElem?_eq_some_iff.mp e).1
      rw [List.length_append, List.length_singleton] at l2
      have ej : j = touched.length := by omega
      rw [ej, List.getElem?_append_right (Nat.le_refl _), Nat.sub_self] at e
      cases e
      exact ⟨a, by rw [ej, ← ln, List.getElem?_append_right (Nat.le_refl _), Nat.sub_self]; rfl, by rw [upd_ne atd, upd_same], h.sm.free na, atd⟩
  · rw [List.map_append, List.nodup_append]
    refine ⟨h.nd, List.nodup_cons.mpr ⟨List.not_mem_nil, List.nodup_nil⟩, fun x hx y hy e => ?_⟩
    have hy : y = a := List.mem_singleton.mp hy
    obtain ⟨p, hp, e2⟩ := List.mem_map.mp hx
    obtain ⟨j, hj⟩ := List.mem_iff_getElem?.mp hp
    have lj := (List.getElem?_eq_some_iff.mp hj).1
    obtain ⟨z, e1, e3, _⟩ := h.at_ j _ _ (List.getElem?_eq_getElem (show j < touched.length by omega))
    rw [hj] at e1
    have : p.2 = z := congrArg Prod.snd (Option.some.inj e1)
    rw [← this, e2, e, hy, na] at e3
    cases e3
theorem TgI.more {H7 H' : Hp} {td a k j : Nat} {ks : List (Nat × Addr)} {touched : List (Nat × List Nat)} {l : List Nat} {s : Nat} (h : TgI H7 H' td ks touched) (hj : touched[j]? = some (k, l)) (ha : ks[j]? = some (k, a)) : TgI H7 (upd H' a (.lst ((l ++ [s]).map natV))) td ks (touched.set j (k, l ++ [s])) := by
  obtain ⟨a', e1, e2, e3, e4⟩ := h.at_ j k l hj
  have : a' = a := by
    rw [ha] at e1
    exact (congrArg Prod.snd (Option.some.inj e1)).symm
  subst this
  have lj := (List.getElem?_eq_some_iff.mp hj).1
  refine ⟨fun b o e => ?_, by rw [upd_ne e4.symm]; exact h.hd, h.td0, ?_, fun i k' l' e => ?_, h.nd⟩
  · rw [upd_ne (ne_of_none e e3)]
    exact h.sm _ _ e
  · rw [h.ky, List.map_set]
    refine List.ext_getElem? fun i => ?_
    rw [List.getElem?_set]
    split
    · rename_i q
      subst q
      rw [if_pos (by rw [List.length_map]; exact lj), List.getElem?_map, hj]
      rfl
    · rfl
  · rw [List.getElem?_set] at e
    by_cases q : j = i
    · subst q
      rw [if_pos rfl, if_pos lj] at e
      cases e
      exact ⟨a', ha, upd_same, e3, e4⟩
    · rw [if_neg q] at e
      obtain ⟨x, f1, f2, f3, f4⟩ := h.at_ i k' l' e
      have ne : x ≠ a' := fun z => q (by
        have l1 := (List.getElem?_eq_some_iff.mp ha).1
        refine (List.getElem?_inj (by rw [List.length_map]; exact l1) h.nd).mp (show (ks.map Prod.snd)[j]? = (ks.map Prod.snd)[i]? from ?_)
        rw [List.getElem?_map, List.getElem?_map, ha, f1, z]
        rfl)
      exact ⟨x, f1, by rw [upd_ne ne]; exact f2, f3, f4⟩
theorem src_nd {f : Nat → List Nat} : ∀ {held : List Nat}, held.Nodup → (∀ t ∈ held, (f t).Nodup) → (∀ t t' s, t ∈ held → t' ∈ held → s ∈ f t → s ∈ f t' → t = t') → (held.flatMap f).Nodup
  | [], _, _, _ => List.nodup_nil
  | t :: held, nd, h1, h2 => by
    obtain ⟨n1, n2⟩ := List.nodup_cons.mp nd
    rw [List.flatMap_cons, List.nodup_append]
    refine ⟨h1 t List.mem_cons_self, src_nd n2 (fun x hx => h1 x (List.mem_cons_of_mem t hx)) (fun x y s hx hy => h2 x y s (List.mem_cons_of_mem t hx) (List.mem_cons_of_mem t hy)), fun a ha b hb e => ?_⟩
    obtain ⟨x, hx, hbx⟩ := List.mem_flatMap.mp hb
    have := h2 t x a List.mem_cons_self (List.mem_cons_of_mem t hx) ha (e ▸ hbx)
    exact n1 (this ▸ hx)

section
variable {P : Program} {w : World} {K : PySem.W.Frag} {mg : Str → Option Value} {base : Heap}
theorem scRefine : FnScope ["before", "block", "members", "most", "sizes", "held", "waiting", "queue", "chosen", "state", "ways", "touched", "source", "old"] ["before", "block", "members", "most"] (defScope sRefine) := ⟨rfl, rfl, rfl, by decide +kernel, rfl, by decide +kernel, by decide +kernel⟩
def spRefine : Sp := fun vs H Q _ => ∃ (L : Nat) (rs : Rows) (es : List Bool) (bf blk mb : Addr) (ws : List Addr) (cs : List (List Addr)) (f : Nat → Nat → List Nat) (R : Nat → Prop) (T : Nat) (block : List (Option Nat)) (mem : List (List Nat)) (ma : List Addr) (S : Nat → Prop), vs = [.ref bf, .ref blk, .ref mb, .int 400] ∧ MOk L rs es ∧ BA H bf ws cs L rs.length f ∧
  (∀ c t, c < L → t < rs.length → (f c t).Nodup ∧ ∀ s, s ∈ f c t ↔ (R s ∧ nx rs s c = some t)) ∧ (∀ s, R s → s < rs.length) ∧ (∀ s c t, R s → nx rs s c = some t → R t) ∧ H blk = some (.lst (block.map oV)) ∧ H mb = some (.lst (ma.map V.ref)) ∧ MemAt H ma mem ∧ blk ≠ mb ∧ (∀ a, BAd bf ws cs a → a ≠ blk ∧ a ≠ mb) ∧ (∀ a ∈ ma, a ≠ blk ∧ a ≠ mb) ∧
  T ≤ rs.length ∧ TI rs es R T block mem (mem.map List.length) (List.replicate mem.length true) (List.range mem.length) 0 S L ∧
  ∀ (H' : Hp) (block' : List (Option Nat)), Keep (fun b => b = blk ∨ b = mb) H H' → H' blk = some (.lst (block'.map oV)) → block'.length = rs.length → PB rs es L (bv block') → (∀ s, (∃ b, bv block' s = some b) ↔ (R s ∧ Live rs es s)) → Q .non H'
theorem ok_refine {f fMV fLK : Addr} {fd fdMV fdLK : FuncData} (F : Fun K "refine" "refine" sRefine f fd)
    (MV : FnOk P w K mg base CX0 1 fMV fdMV ["old", "moved", "block", "members", "sizes"] (spMove K)) (FMV : Fun K "move" "move" sMove fMV fdMV) (bMV : Binds K fdMV ["old", "moved", "block", "members", "sizes"] []) (gMV : mg "move" = some (.ref fMV))
    (LK : FnOk P w K mg base CX0 1 fLK fdLK ["old", "sizes", "waiting"] (spLook K)) (FLK : Fun K "look_again" "look_again" sLook fLK fdLK) (bLK : Binds K fdLK ["old", "sizes", "waiting"] []) (gLK : mg "look_again" = some (.ref fLK)) (T : Mg mg) : FnOk P w K mg base CX0 2 f fd ["before", "block", "members", "most"] spRefine := by
  refine F.ok scRefine (fun vs H Q E h => ?_) (fun cdv A outer s H vs Q E hr h => ?_)
  · obtain ⟨L, rs, es, bf, blk, mb, ws, cs, f, R, T, block, mem, ma, S, rfl, _⟩ := h
    rfl
  · obtain ⟨L, rs, es, bf, blk, mb, ws, cs, f, R, TT, block, mem, ma, S, rfl, M, BB, hf, rl, ron, hb, hm, mat, nbm, nBA, nma, TT4, ti, k⟩ := h
    have hu1 := hu_of hr
    have l4 := M.l400
    refine ⟨_, (pss_cons (ps_setLc (i := 4) (own := [("held", 5)]) (g := gName 5) (tt := tYes) rfl scRefine.nd rfl rfl (sw_true rfl rfl rfl (by decide +kernel)) (pi_list (pv 2)) (blkOk_by (N := ["before", "block", "members", "most", "sizes", "held", "waiting", "queue", "chosen", "state", "ways", "touched", "source", "old"]) (sc := defScope sRefine) (by decide +kernel)) (fun _ _ _ _ _ => pg_name (i := 5) scRefine.nd rfl (Or.inl rfl)) (fun _ _ _ _ _ => pts_nil) (fun _ _ _ _ _ => (pe_callB (r := rLen K) call_len_seq (by rfl) T.len PySem.boot_len (pa_cons (pv 5) pa_nil))))
      (pss_cons (ps_set (i := 6) scRefine.nd rfl (.inl rfl) (pe_op op_rep (pe_lst (pa_cons pe_bl pa_nil)) (pe_callB (r := rLen K) call_len_seq (by rfl) T.len PySem.boot_len (pa_cons (pv 2) pa_nil))))
      (pss_cons (ps_set (i := 7) scRefine.nd rfl (.inl rfl) (pe_callTy (r := rListR) (call_listR rfl) (by rfl) T.list (by decide +kernel) (pa_cons (pe_callTy cr_range1 (by rfl) T.range (by decide +kernel) (pa_cons (pe_callB (r := rLen K) call_len_seq (by rfl) T.len PySem.boot_len (pa_cons (pv 2) pa_nil)) pa_nil)) pa_nil)))
      (pss_one (ps_while PassesOwn.never (pt_lstT (pv 7)) (pss_cons (ps_if (pt_cmpR op_gt (pe_callB (r := rLen K) call_len_seq (by rfl) T.len PySem.boot_len (pa_cons (pv 2) pa_nil)) (pv 3) (nomark _)) (pss_one ps_dead) pss_nil)
      (pss_cons (ps_set (i := 8) scRefine.nd rfl (.inr rfl) (pe_bm0 PySem.F.plainAttrs_list PySem.F.slot_list_pop PySem.F.type_list_pop mt_pop (pv 7)))
      (pss_cons (ps_asg pe_bl (pg_sub (pv 6) (pv 8) set_list))
      (pss_cons (ps_setLc (i := 5) (own := [("state", 9)]) (g := gName 9) rfl scRefine.nd rfl rfl (sw_true rfl rfl rfl (by decide +kernel)) (pi_list (pe_ix (r := rIxL K) ix_list (pv 2) (pv 8) (fun _ _ => rfl))) (blkOk_by (N := ["before", "block", "members", "most", "sizes", "held", "waiting", "queue", "chosen", "state", "ways", "touched", "source", "old"]) (sc := defScope sRefine) (by decide +kernel)) (fun _ _ _ _ _ => pg_name (i := 9) scRefine.nd rfl (Or.inl rfl)) (fun _ _ _ _ _ => pts_one (pt_cmpR op_eq (pe_ix (r := rIxL K) ix_list (pv 1) (pv 9) (fun _ _ => rfl)) (pv 8) (nomark _))) (fun _ _ _ _ _ => (pv 9)))
      (pss_cons (ps_asg (pv 5) (pg_sub (pv 2) (pv 8) set_list))
      (pss_one (ps_for PassesOwn.never rfl (pi_list (pv 0)) (pg_name (i := 10) scRefine.nd rfl (.inl rfl)) (pss_cons (ps_set (i := 11) scRefine.nd rfl (.inl rfl) pe_dnewK)
      (pss_cons (ps_for PassesOwn.never rfl (pi_list (pv 5)) (pg_name (i := 9) scRefine.nd rfl (.inl rfl)) (pss_one (ps_for PassesOwn.never rfl (pi_list (pe_ix (r := rIxL K) ix_list (pv 10) (pv 9) (fun _ _ => rfl))) (pg_name (i := 12) scRefine.nd rfl (.inl rfl)) (pss_one (ps_if (pt_cmp (pc_din hu1 (pe_ix (r := rIxL K) ix_list (pv 1) (pv 12) (fun _ _ => rfl)) (pv 11))) (pss_one (ps_expr (pe_bm PySem.F.plainAttrs_list PySem.F.slot_list_append PySem.F.type_list_append mt_append (pe_dget hu1 (pv 11) (pe_ix (r := rIxL K) ix_list (pv 1) (pv 12) (fun _ _ => rfl)) (fun _ _ => rfl)) (pa_cons (pv 12) pa_nil)))) (pss_one (ps_asg (pe_lst (pa_cons (pv 12) pa_nil)) (pg_sub (pv 11) (pe_ix (r := rIxL K) ix_list (pv 1) (pv 12) (fun _ _ => rfl)) (set_dict hu1)))))))))
      (pss_one (ps_lock (ps_for PassesOwn.never rfl (pi_keys (pv 11)) (pg_name (i := 13) scRefine.nd rfl (.inl rfl)) (pss_one (ps_if (pt_cmpR op_lt (pe_callB (r := rLen K) call_len_seq (by rfl) T.len PySem.boot_len (pa_cons (pe_dget hu1 (pv 11) (pv 13) (fun _ _ => rfl)) pa_nil)) (pe_ix (r := rIxL K) ix_list (pv 4) (pv 13) (fun _ _ => rfl)) (nomark _)) (pss_cons (ps_expr (pe_call MV (hr.mono (by decide)) (by rfl) gMV FMV.kp bMV .nil pass0 (pa_cons (pv 13) (pa_cons (pe_dget hu1 (pv 11) (pv 13) (fun _ _ => rfl)) (pa_cons (pv 1) (pa_cons (pv 2) (pa_cons (pv 4) pa_nil)))))))
      (pss_one (ps_expr (pe_bm PySem.F.plainAttrs_list PySem.F.slot_list_append PySem.F.type_list_append mt_append (pv 7) (pa_cons (pe_call LK (hr.mono (by decide)) (by rfl) gLK FLK.kp bLK .nil pass0 (pa_cons (pv 13) (pa_cons (pv 4) (pa_cons (pv 6) pa_nil)))) pa_nil))))) pss_nil))))))))))))))))))), ?_⟩
    have mT := ti.ri.many
    have mal := mat.ln
    have fin_ : ∀ (H' : Hp) (block' : List (Option Nat)) (mem' : List (List Nat)) (sizes' : List Nat) (wait' : List Bool) (kk : Int) (S' : Nat → Prop), Keep (fun b => b = blk ∨ b = mb) H H' → H' blk = some (.lst (block'.map oV)) → TI rs es R TT block' mem' sizes' wait' [] kk S' L → Q .non H' := fun H' block' mem' sizes' wait' kk S' kp hb' ti' => k H' block' kp hb' ti'.ri.lb (ti'.done M.row M.tgt rl ron) ti'.dom
    refine ⟨_, rfl, mb, rfl, ⟨_, SqL.of hm⟩, fun sz hD => ?_⟩
    refine lc_list (K := K) (a := mb) (xs := ma.map V.ref) (NInv natV (mem.map List.length) H sz) (nstart hD) (fun i H' _ q => SqL.of (q.1 _ _ hm)) ?_ ?_
    · rintro i x H1 hx p1
      rw [List.getElem?_map] at hx
      obtain ⟨a, ha, rfl⟩ := Option.map_eq_some_iff.mp hx
      have il := (List.getElem?_eq_some_iff.mp ha).1
      have hia : (mem.map List.length)[i]? = some (mem.getD i []).length := by
        rw [List.getElem?_map, List.getElem?_eq_getElem (by omega), getD_at (by omega)]
        rfl
      refine ⟨rfl, _, rfl, a, _, rfl, .inl (SqL.of (p1.1 _ _ (mat.at_ i a ha))), ?_⟩
      rw [List.length_map]
      exact nturn (f := natV) (small1000 (by rw [List.length_map]; omega)) hD hia p1 (Same.refl _)
    · rintro H1 p1
      obtain ⟨s1, hs1⟩ := nend (by rw [List.length_map, List.length_map, mal]) p1
      refine ⟨by show 1 ≤ sizeLine; decide, fun t ht => ?_⟩
      have s2 := same_new (o := .lst [.bl true]) ht
      refine ⟨_, rfl, mb, _, rfl, .inl (SqL.of (s2 _ _ (s1 _ _ hm))), t, ((ma.map V.ref).length : Int), [V.bl true], rfl, rfl, upd_same, by omega, by rw [List.length_map]; omega, sz_of (by rw [List.length_singleton, List.length_map]; omega), fun wt hwt => ?_⟩
      have ew : (List.replicate ((ma.map V.ref).length : Int).toNat [V.bl true]).flatten = (List.replicate mem.length true).map V.bl := by
        rw [Int.toNat_natCast, List.length_map, mal, List.map_replicate, List.flatten_replicate_singleton]
      rw [ew]
      have s3 := same_new (o := .lst ((List.replicate mem.length true).map V.bl)) hwt
      have hw3 : (upd (upd H1 t (.lst [.bl true])) wt (.lst ((List.replicate mem.length true).map V.bl))) wt = some (.lst ((List.replicate mem.length true).map V.bl)) := upd_same
      have s13 := s1.trans (s2.trans s3)
      have hs3 := (s2.trans s3) _ _ hs1
      have nws : wt ≠ sz := fun z => by rw [z, s2 _ _ hs1] at hwt; cases hwt
      have wt0 : H wt = none := (s1.trans s2).free hwt
      generalize upd (upd H1 t (.lst [.bl true])) wt (.lst ((List.replicate mem.length true).map V.bl)) = G3 at *
      refine ⟨_, rfl, mb, _, rfl, .inl (SqL.of (s13 _ _ hm)), _, rfl, fun p hp => ?_⟩
      have s4 := same_new (o := .rng 0 ((ma.map V.ref).length : Int)) hp
      refine ⟨p, mem.length, rfl, by rw [upd_same, List.length_map, mal], by omega, fun qu H5 s5 hq0 hq5 => ?_⟩
      have s45 := s4.trans s5
      have hs5 := s45 _ _ hs3
      have hw5 := s45 _ _ hw3
      have s15 := s13.trans s45
      have nqs : qu ≠ sz := fun z => by rw [z, s4 _ _ hs3] at hq0; cases hq0
      have nqw : qu ≠ wt := fun z => by rw [z, s4 _ _ hw3] at hq0; cases hq0
      have qu0 : H qu = none := (s13.trans s4).free hq0
      have ne0 : ∀ {a b : Addr} {o : HO}, H a = none → H b = some o → a ≠ b := fun h1 h2 z => by rw [z, h2] at h1; cases h1
      have RF0 : RfI H H5 blk mb sz wt qu block mem (mem.map List.length) (List.replicate mem.length true) (List.range mem.length) ma := ⟨Keep.same s15, s15 _ _ hb, s15 _ _ hm, mat.keep (W := fun _ => False) (Keep.same s15) (fun _ _ z => z), hs5, hw5, hq5, fun a ha => by
          obtain ⟨b, hb'⟩ := List.mem_iff_getElem?.mp ha
          have e := mat.at_ b a hb'
          exact ⟨(nma a ha).1, (nma a ha).2, (ne0 hD e).symm, (ne0 wt0 e).symm, (ne0 qu0 e).symm⟩, ⟨nbm, ne0 hD hb, ne0 hD hm, ne0 wt0 hb, ne0 wt0 hm, nws, ne0 qu0 hb, ne0 qu0 hm, nqs, nqw⟩, ⟨hD, wt0, qu0⟩⟩
      have tq := ti.ql
      refine while_by (fun σ H' => ∃ (block : List (Option Nat)) (mem : List (List Nat)) (sizes : List Nat) (wait : List Bool) (queue : List Nat) (ma : List Addr) (kk : Int) (S : Nat → Prop) (y5 y8 y9 y10 y11 y12 y13 : Option V), σ = [some (.ref bf), some (.ref blk), some (.ref mb), some (.int 400), some (.ref sz), y5, some (.ref wt), some (.ref qu), y8, y9, y10, y11, y12, y13] ∧ RfI H H' blk mb sz wt qu block mem sizes wait queue ma ∧ TI rs es R TT block mem sizes wait queue kk S L)
        (fun (_ : List (Option V)) (H' : Hp) => match H' qu, H' mb with
          | some (.lst xs), some (.lst ys) => xs.length + (TT - ys.length)
          | _, _ => 0) ⟨block, mem, _, _, _, ma, _, _, _, _, _, _, _, _, _, rfl, RF0, ti⟩ ?_ ?_
      · rintro σ H6 ⟨block, mem, sizes, wait, queue, ma, kk, S, y5, y8, y9, y10, y11, y12, y13, rfl, rf, ti⟩
        refine ⟨_, rfl, qu, _, rfl, SqL.of rf.hq, ?_⟩
        cases queue with
        | nil => exact fin_ H6 block mem sizes wait kk S rf.kp rf.hb ti
        | cons q0 Q0 =>
          have hne : (q0 :: Q0) ≠ [] := List.cons_ne_nil _ _
          generalize q0 :: Q0 = queue at *
          obtain ⟨Q', u, eQ⟩ : ∃ Q' u, queue = Q' ++ [u] := ⟨queue.dropLast, queue.getLast hne, (List.dropLast_concat_getLast hne).symm⟩
          subst eQ
          have mT := ti.ri.many
          have wl := ti.wl
          have mal := rf.mat.ln
          have um : u < mem.length := by
            have := wv_lt ((ti.qw u).mp (List.mem_append.mpr (.inr List.mem_cons_self)))
            omega
          have hx0 : (!((Q' ++ [u]).map natV).isEmpty) = true := by
            rw [List.map_append]
            cases Q'.map natV <;> rfl
          rw [if_pos hx0]
          have μ0 : (match H6 qu, H6 mb with
          | some (.lst xs), some (.lst ys) => xs.length + (TT - ys.length)
          | _, _ => 0) = Q'.length + 1 + (TT - mem.length) := by
            rw [rf.hq, rf.hm]
            show ((Q' ++ [u]).map natV).length + (TT - (ma.map V.ref).length) = _
            rw [List.length_map, List.length_append, List.length_map, mal]
            rfl
          rw [μ0]
          refine ⟨_, rfl, mb, _, rfl, .inl (SqL.of rf.hm), _, rfl, _, _, rfl, rfl, _, rfl, ite2 (fun h => ?_) (fun _ => ?_)⟩
          · have h := of_decide_eq_true h
            rw [List.length_map] at h
            omega
          have em : (Q' ++ [u]).map natV = Q'.map natV ++ [V.int (u : Int)] := by
            rw [List.map_append]
            rfl
          refine ⟨_, rfl, .inl ⟨rfl, _, SqL.of rf.hq⟩, qu, _, V.int (u : Int), rfl, rfl, rf.hq, by rw [em]; simp, ?_⟩
          rw [show ((Q' ++ [u]).map natV).dropLast = Q'.map natV by rw [em, List.dropLast_concat]]
          have tk := ti.take M.row um
          obtain ⟨d1, d2, d3, d4, d5, d6, d7, d8, d9, d10⟩ := rf.ds
          have w1 : (upd H6 qu (.lst (Q'.map natV))) wt = some (.lst (wait.map V.bl)) := by rw [upd_ne d10.symm]; exact rf.hw
          refine ⟨_, rfl, _, rfl, wt, _, (u : Int), u, rfl, rfl, w1, Evl.ixN_nat (by rw [List.length_map, wl]; exact um), ?_⟩
          have ews : (wait.map V.bl).set u (V.bl false) = (wait.set u false).map V.bl := by rw [List.map_set]
          rw [ews]
          have rf2 : RfI H (upd (upd H6 qu (.lst (Q'.map natV))) wt (.lst ((wait.set u false).map V.bl))) blk mb sz wt qu block mem sizes (wait.set u false) Q' ma := by
            have up : ∀ {z : Addr} {o : HO}, z ≠ qu → z ≠ wt → H6 z = some o → (upd (upd H6 qu (.lst (Q'.map natV))) wt (.lst ((wait.set u false).map V.bl))) z = some o := fun h1 h2 e => by rw [upd_ne h2, upd_ne h1]; exact e
            refine ⟨fun b o nb e => up (fun z => by rw [z, rf.new.2.2] at e; cases e) (fun z => by rw [z, rf.new.2.1] at e; cases e) (rf.kp b o nb e), up d7.symm d4.symm rf.hb, up d8.symm d5.symm rf.hm, ⟨mal, fun b a e => ?_⟩, up d9.symm d6.symm rf.hs, upd_same, by rw [upd_ne d10, upd_same], rf.fm, rf.ds, rf.new⟩
            obtain ⟨f1, f2, f3, f4, f5⟩ := rf.fm a (List.mem_of_getElem? e)
            exact up f5 f4 (rf.mat.at_ b a e)
          clear rf w1
          generalize upd (upd H6 qu (.lst (Q'.map natV))) wt (.lst ((wait.set u false).map V.bl)) = G2 at *
          -- those of the lot that are in it still
          obtain ⟨a0, ha0⟩ : ∃ a0, ma[u]? = some a0 := ⟨_, List.getElem?_eq_getElem (by rw [mal]; exact um)⟩
          have hl0 := rf2.mat.at_ u a0 ha0
          refine ⟨_, rfl, _, rfl, mb, _, (u : Int), V.ref a0, rfl, rfl, SqL.of rf2.hm, atI_nat (v := V.ref a0) (by rw [List.getElem?_map, ha0]; rfl), a0, rfl, ⟨_, SqL.of hl0⟩, fun hl_ hD => ?_⟩
          have lin := ti.ri.inn u
          have lnd := nodup_len (ti.ri.nd u) lin
          refine lc_list (K := K) (a := a0) (xs := (mem.getD u []).map natV) (KInv (isB block u) natV (mem.getD u []) G2 hl_) (kstart hD) (fun i H' _ q => SqL.of (q.1 _ _ hl0)) ?_ ?_
          · rintro i x H3 hx p1
            obtain ⟨v, hv, rfl⟩ := natV_of hx
            have vn := lin v (List.mem_of_getElem? hv)
            have hbt := oV_at (block := block) (t := v) (by rw [ti.ri.lb]; exact vn)
            refine ⟨rfl, _, rfl, _, rfl, blk, _, (v : Int), _, rfl, rfl, SqL.of (p1.1 _ _ rf2.hb), atI_nat hbt, _, rfl, ?_⟩
            have ml1000 : (mem.getD u []).length < sizeLine := small1000 (by omega)
            cases hbv : bv block v with
            | none =>
              have hno : isB block u v = false := by
                unfold isB
                rw [hbv]
                rfl
              exact ⟨rfl, _, rfl, ite2 (fun h => absurd (of_decide_eq_true h) (fun z => by cases z)) (fun _ => kno (t := isB block u) hv hno p1 (Same.refl _))⟩
            | some b =>
              refine ⟨rfl, _, rfl, ite2 (fun h => ?_) (fun h => ?_)⟩
              · have e : (b : Int) = (u : Int) := V.int.inj (of_decide_eq_true h)
                have e : b = u := by omega
                have hyes : isB block u v = true := decide_eq_true (by rw [hbv, e])
                exact ⟨_, rfl, kyes (t := isB block u) ml1000 hD hv hyes p1 (Same.refl _)⟩
              · have hno : isB block u v = false := decide_eq_false fun z => by
                  rw [hbv] at z
                  rw [Option.some.inj z] at h
                  exact h (decide_eq_true rfl)
                exact kno (t := isB block u) hv hno p1 (Same.refl _)
          · rintro H3 p1
            obtain ⟨s3, hl3⟩ := kend (List.length_map _) p1
            have hm3 := s3 _ _ rf2.hm
            refine ⟨_, rfl, _, rfl, _, rfl, mb, _, (u : Int), u, rfl, rfl, hm3, Evl.ixN_nat (by rw [List.length_map, mal]; exact um), ?_⟩
            have ems : (ma.map V.ref).set u (V.ref hl_) = (ma.set u hl_).map V.ref := by rw [List.map_set]
            rw [ems]
            have hn0 : ∀ {z : Addr} {o : HO}, G2 z = some o → hl_ ≠ z := fun e q => by rw [q, e] at hD; cases hD
            have rf3 : RfI H (upd H3 mb (.lst ((ma.set u hl_).map V.ref))) blk mb sz wt qu block (mem.set u ((mem.getD u []).filter (isB block u))) sizes (wait.set u false) Q' (ma.set u hl_) := by
              have up : ∀ {z : Addr} {o : HO}, z ≠ mb → H3 z = some o → (upd H3 mb (.lst ((ma.set u hl_).map V.ref))) z = some o := fun h1 e => by rw [upd_ne h1]; exact e
              refine ⟨fun b o nb e => up (fun z => nb (.inr z)) (s3 _ _ (rf2.kp b o nb e)), up d1 (s3 _ _ rf2.hb), upd_same, ⟨by rw [List.length_set, List.length_set]; exact mal, fun b a e => ?_⟩, up d3 (s3 _ _ rf2.hs), up d5 (s3 _ _ rf2.hw), up d8 (s3 _ _ rf2.hq), fun a ha => ?_, rf2.ds, rf2.new⟩
              · rw [List.getElem?_set] at e
                by_cases z : u = b
                · subst z
                  rw [if_pos rfl, if_pos (by rw [mal]; exact um)] at e
                  cases e
                  rw [List.getD_eq_getElem?_getD, List.getElem?_set_self um]
                  exact up (hn0 rf2.hm) hl3
                · rw [if_neg z] at e
                  rw [List.getD_eq_getElem?_getD, List.getElem?_set_ne z, ← List.getD_eq_getElem?_getD]
                  exact up (rf2.fm a (List.mem_of_getElem? e)).2.1 (s3 _ _ (rf2.mat.at_ b a e))
              · rcases List.mem_or_eq_of_mem_set ha with q | q
                · exact rf2.fm a q
                · rw [q]
                  exact ⟨hn0 rf2.hb, hn0 rf2.hm, hn0 rf2.hs, hn0 rf2.hw, hn0 rf2.hq⟩
            have hh : (upd H3 mb (.lst ((ma.set u hl_).map V.ref))) hl_ = some (.lst (((mem.getD u []).filter (isB block u)).map natV)) := by
              rw [upd_ne (hn0 rf2.hm)]
              exact hl3
            generalize upd H3 mb (.lst ((ma.set u hl_).map V.ref)) = G3 at *
            have hd5 : hl_ ≠ blk ∧ hl_ ≠ mb ∧ hl_ ≠ sz ∧ hl_ ≠ wt ∧ hl_ ≠ qu := ⟨hn0 rf2.hb, hn0 rf2.hm, hn0 rf2.hs, hn0 rf2.hw, hn0 rf2.hq⟩
            have hdm : ∀ s, s ∈ (mem.getD u []).filter (isB block u) ↔ bv block s = some u := fun s => by
              rw [List.mem_filter]
              exact ⟨fun q => of_decide_eq_true q.2, fun q => ⟨ti.ri.sub s u q, decide_eq_true q⟩⟩
            have hdn : ((mem.getD u []).filter (isB block u)).Nodup := (ti.ri.nd u).filter _
            have so0 := ti.so
            have dom0 := ti.dom
            generalize (mem.getD u []).filter (isB block u) = held at *
            have BBk : ∀ {H' : Hp}, Keep (fun b => b = blk ∨ b = mb) H H' → BA H' bf ws cs L rs.length f := fun kp => BB.keep kp fun a ha z => by
              rcases z with z | z
              · exact (nBA a ha).1 z
              · exact (nBA a ha).2 z
            refine ⟨_, rfl, bf, rfl, ⟨_, SqL.of (BBk rf3.kp).top⟩, ?_⟩
            refine for_list (K := K) (a := bf) (xs := ws.map V.ref) (fun c σ H' => ∃ (block1 : List (Option Nat)) (mem1 : List (List Nat)) (sizes1 : List Nat) (wait1 : List Bool) (queue1 : List Nat) (ma1 : List Addr) (y9 y10 y11 y12 y13 : Option V), σ = [some (.ref bf), some (.ref blk), some (.ref mb), some (.int 400), some (.ref sz), some (.ref hl_), some (.ref wt), some (.ref qu), some (.int (u : Int)), y9, y10, y11, y12, y13] ∧ RfI H H' blk mb sz wt qu block1 mem1 sizes1 wait1 queue1 ma1 ∧ TI rs es R TT block1 mem1 sizes1 wait1 queue1 (kk - 1) (fun s => bv block s = some u) c ∧ H' hl_ = some (.lst (held.map natV)))
              ⟨block, _, sizes, _, Q', _, _, _, _, _, _, rfl, rf3, tk, hh⟩ (fun c σ H' _ p => by
                obtain ⟨_, _, _, _, _, _, _, _, _, _, _, _, rf, _⟩ := p
                exact SqL.of (BBk rf.kp).top) ?_ ?_
            · rintro c x σ H7 hx ⟨block1, mem1, sizes1, wait1, queue1, ma1, y9, y10, y11, y12, y13, rfl, rf7, ti7, hh7⟩
              rw [List.getElem?_map] at hx
              obtain ⟨w0, hw0, rfl⟩ := Option.map_eq_some_iff.mp hx
              have cL : c < L := by
                have := (List.getElem?_eq_some_iff.mp hw0).1
                rw [BB.wl] at this
                exact this
              have B7 := BBk rf7.kp
              obtain ⟨cc, hcc⟩ : ∃ cc, cs[c]? = some cc := ⟨_, List.getElem?_eq_getElem (by rw [BB.cl]; exact cL)⟩
              obtain ⟨g1, g2⟩ := B7.mid c w0 cc hw0 hcc
              have hdL : ∀ t ∈ held, t < rs.length ∧ R t ∧ Live rs es t := fun t ht => by
                have := (dom0 t).mp ⟨u, (hdm t).mp ht⟩
                exact ⟨rl t this.1, this⟩
              have snd : (held.flatMap (f c)).Nodup := src_nd hdn (fun t ht => (hf c t cL (hdL t ht).1).1) (fun t t' s ht ht' h1 h2 => by
                have e1 := (((hf c t cL (hdL t ht).1).2 s).mp h1).2
                have e2 := (((hf c t' cL (hdL t' ht').1).2 s).mp h2).2
                rw [e1] at e2
                exact Option.some.inj e2)
              have slt : ∀ s ∈ held.flatMap (f c), s < rs.length ∧ ∃ k, bv block1 s = some k := fun s hs => by
                obtain ⟨t, ht, hst⟩ := List.mem_flatMap.mp hs
                obtain ⟨a1, a2, a3⟩ := hdL t ht
                obtain ⟨b1, b2⟩ := ((hf c t cL a1).2 s).mp hst
                exact ⟨rl s b1, (ti7.dom s).mpr ⟨b1, live_on b2 a3⟩⟩
              have slen : (held.flatMap (f c)).length ≤ rs.length := nodup_len snd fun s hs => (slt s hs).1
              intro td htd
              have tg0 : TgI H7 (upd H7 td (.dK [])) td [] [] := ⟨same_new htd, upd_same, htd, rfl, (fun j k l e => by cases e), List.nodup_nil⟩
              generalize upd H7 td (.dK []) = G7 at *
              refine ⟨_, rfl, hl_, rfl, ⟨_, SqL.of (tg0.sm _ _ hh7)⟩, ?_⟩
              refine for_list (K := K) (a := hl_) (xs := held.map natV) (fun i σ H' => ∃ (ks : List (Nat × Addr)) (touched : List (Nat × List Nat)) (y9 y12 : Option V), σ = [some (.ref bf), some (.ref blk), some (.ref mb), some (.int 400), some (.ref sz), some (.ref hl_), some (.ref wt), some (.ref qu), some (.int (u : Int)), y9, some (.ref w0), some (.ref td), y12, y13] ∧ TgI H7 H' td ks touched ∧ TG (bv block1) touched ((held.take i).flatMap (f c)))
                ⟨[], [], _, _, rfl, tg0, tg_start⟩ (fun i σ H' _ p => by
                  obtain ⟨_, _, _, _, _, tg, _⟩ := p
                  exact SqL.of (tg.sm _ _ hh7)) ?_ ?_
              · rintro i x σ H8 hx ⟨ks, touched, y9', y12', rfl, tg8, TG8⟩
                obtain ⟨t, ht, rfl⟩ := natV_of hx
                have htm := List.mem_of_getElem? ht
                obtain ⟨tn, tR, tl⟩ := hdL t htm
                have tki : held.take (i + 1) = held.take i ++ [t] := by rw [List.take_add_one, ht]; rfl
                have fme : (held.take (i + 1)).flatMap (f c) = (held.take i).flatMap (f c) ++ f c t := by rw [tki]; simp
                have inall : ∀ s ∈ f c t, s ∈ held.flatMap (f c) := fun s hs => List.mem_flatMap.mpr ⟨t, htm, hs⟩
                have B8 := B7.same tg8.sm
                obtain ⟨g1', _⟩ := B8.mid c w0 cc hw0 hcc
                obtain ⟨a, hca⟩ : ∃ a, cc[t]? = some a := ⟨_, List.getElem?_eq_getElem (by rw [g2]; exact tn)⟩
                have g3 := B7.low c t cc a hcc hca
                refine ⟨_, rfl, _, rfl, w0, _, (t : Int), V.ref a, rfl, rfl, SqL.of g1', atI_nat (v := V.ref a) (by rw [List.getElem?_map, hca]; rfl), a, rfl, ⟨_, SqL.of (tg8.sm _ _ g3)⟩, ?_⟩
                refine for_list (K := K) (a := a) (xs := (f c t).map natV) (fun j σ H' => ∃ (ks : List (Nat × Addr)) (touched : List (Nat × List Nat)) (y12 : Option V), σ = [some (.ref bf), some (.ref blk), some (.ref mb), some (.int 400), some (.ref sz), some (.ref hl_), some (.ref wt), some (.ref qu), some (.int (u : Int)), some (.int (t : Int)), some (.ref w0), some (.ref td), y12, y13] ∧ TgI H7 H' td ks touched ∧ TG (bv block1) touched ((held.take i).flatMap (f c) ++ (f c t).take j))
                  ⟨ks, touched, _, rfl, tg8, by rw [List.take_zero, List.append_nil]; exact TG8⟩ (fun j σ H' _ p => by
                    obtain ⟨_, _, _, _, tg, _⟩ := p
                    exact SqL.of (tg.sm _ _ g3)) ?_ ?_
                · rintro j x σ H9 hx ⟨ks, touched, y12'', rfl, tg9, TG9⟩
                  obtain ⟨v, hv, rfl⟩ := natV_of hx
                  obtain ⟨vn, k1, hk1⟩ := slt v (inall v (List.mem_of_getElem? hv))
                  have tkj : (held.take i).flatMap (f c) ++ (f c t).take (j + 1) = ((held.take i).flatMap (f c) ++ (f c t).take j) ++ [v] := by
                    rw [List.take_add_one, hv, List.append_assoc]
                    rfl
                  have hbt : (block1.map oV)[v]? = some (.int (k1 : Int)) := by
                    rw [oV_at (by rw [ti7.ri.lb]; exact vn), hk1]
                    rfl
                  have hb9 := tg9.sm _ _ rf7.hb
                  have dg : DGet H9 td (.int (k1 : Int)) (valV (tKv ks) (.inl (k1 : Int))) := DGet.k (k := .inl (k1 : Int)) tg9.hd
                  refine ⟨_, rfl, _, rfl, blk, _, (v : Int), _, rfl, rfl, SqL.of hb9, atI_nat hbt, _, rfl, td, _, rfl, dg, _, rfl, ?_⟩
                  by_cases hin : k1 ∈ ks.map Prod.fst
                  · obtain ⟨j1, hj1⟩ := List.mem_iff_getElem?.mp (show k1 ∈ touched.map Prod.fst by rw [← tg9.ky]; exact hin)
                    rw [List.getElem?_map] at hj1
                    obtain ⟨⟨k', l1⟩, hj2, e⟩ := Option.map_eq_some_iff.mp hj1
                    have e : k' = k1 := e
                    subst e
                    obtain ⟨a1, b1, b2, b3, b4⟩ := tg9.at_ j1 k' l1 hj2
                    have nv := tKv_at (by rw [tg9.ky]; exact TG9.nd) b1
                    rw [nv] at dg ⊢
                    have ll : l1.length ≤ 1000 := by
                      have e1 := (TG9.els k' l1 (List.mem_of_getElem? hj2)).1
                      have h1 : ((held.take i).flatMap (f c) ++ (f c t).take j).length ≤ (held.flatMap (f c)).length := by
                        have e2 : held.flatMap (f c) = (held.take i).flatMap (f c) ++ ((f c t) ++ (held.drop (i + 1)).flatMap (f c)) := by
                          rw [← List.append_assoc, ← fme, ← List.flatMap_append, List.take_append_drop]
                        rw [e2, List.length_append, List.length_append, List.length_append, List.length_take]
                        omega
                      have h2 : l1.length ≤ ((held.take i).flatMap (f c) ++ (f c t).take j).length := by
                        rw [e1]
                        exact List.length_filter_le _ _
                      omega
                    refine ⟨_, rfl, _, rfl, _, rfl, blk, _, (v : Int), _, rfl, rfl, SqL.of hb9, atI_nat hbt, td, V.ref a1, rfl, dg, .inl ⟨rfl, _, SqL.of b2⟩, _, rfl, a1, _, _, rfl, rfl, b2, small1000 (by rw [List.length_map]; exact ll), ?_⟩
                    have em1 : l1.map natV ++ [V.int (v : Int)] = (l1 ++ [v]).map natV := by
                      rw [List.map_append]
                      rfl
                    rw [em1]
                    exact ⟨ks, _, _, rfl, tg9.more hj2 b1, by rw [tkj]; exact TG9.more hk1 hj2⟩
                  · rw [(tKv_no hin).2]
                    refine ⟨_, rfl, by show 1 ≤ sizeLine; decide, fun a1 na1 => ?_⟩
                    have sa := same_new (o := .lst [.int (v : Int)]) na1
                    have hd10 := sa _ _ tg9.hd
                    have kl : ks.length ≤ 1000 := by
                      have h1 := nodup_len (n := mem1.length) TG9.nd fun k hk => by
                        obtain ⟨⟨k', l'⟩, hp, e⟩ := List.mem_map.mp hk
                        obtain ⟨e1, ne⟩ := TG9.els k' l' hp
                        obtain ⟨s0, hs0⟩ := List.exists_mem_of_ne_nil _ ne
                        rw [e1] at hs0
                        have e : k' = k := e
                        rw [← e]
                        exact ti7.ri.lt s0 k' (of_decide_eq_true (List.mem_filter.mp hs0).2)
                      have h2 := ti7.ri.many
                      have h3 := congrArg List.length tg9.ky
                      rw [List.length_map, List.length_map] at h3
                      rw [List.length_map] at h1
                      omega
                    have dp := DPut.k (k := .inl (k1 : Int)) (v := V.ref a1) hd10 (small1000 (by unfold tKv; rw [List.length_map]; exact kl))
                    rw [tKv_put hin] at dp
                    refine ⟨_, rfl, _, rfl, _, rfl, blk, _, (v : Int), _, rfl, rfl, SqL.of (sa _ _ hb9), atI_nat hbt, td, _, rfl, dp, ?_⟩
                    exact ⟨_, _, _, rfl, tg9.fresh (l := [v]) na1, by rw [tkj]; exact TG9.fresh hk1 (by rw [← tg9.ky]; exact hin)⟩
                · rintro σ H9 ⟨ks, touched, y12'', rfl, tg9, TG9⟩
                  rw [List.length_map, List.take_length, ← fme] at TG9
                  exact ⟨ks, touched, _, _, rfl, tg9, TG9⟩
              · rintro σ H8 ⟨ks, touched, y9', y12', rfl, tg8, TG8⟩
                rw [List.length_map, List.take_length] at TG8
                have rf8 := rf7.same tg8.sm
                have hh8 := tg8.sm _ _ hh7
                have H0of : ∀ {z : Addr}, H7 z = none → H z = none := fun {z} e => by
                  cases q : H z with
                  | none => rfl
                  | some o =>
                    by_cases nb : z = blk ∨ z = mb
                    · rcases nb with nb | nb
                      · rw [nb, rf7.hb] at e
                        cases e
                      · rw [nb, rf7.hm] at e
                        cases e
                    · rw [rf7.kp z o nb q] at e
                      cases e
                have offs : ∀ {z : Addr}, H7 z = none → (z ≠ blk ∧ z ≠ mb ∧ z ≠ sz ∧ z ≠ wt ∧ z ≠ qu) ∧ z ∉ ma1 ∧ z ≠ hl_ := fun {z} e => by
                  have ne : ∀ {y : Addr} {o : HO}, H7 y = some o → z ≠ y := fun h1 h2 => by rw [h2, h1] at e; cases e
                  refine ⟨⟨ne rf7.hb, ne rf7.hm, ne rf7.hs, ne rf7.hw, ne rf7.hq⟩, fun q => ?_, ne hh7⟩
                  obtain ⟨b, hb'⟩ := List.mem_iff_getElem?.mp q
                  exact ne (rf7.mat.at_ b z hb') rfl
                obtain ⟨td5, tdm, tdh⟩ := offs tg8.td0
                refine ⟨td, .dK (tKv ks), tg8.hd, trivial, fun od => ?_⟩
                have rf9 := rf8.off (p := td) (o := .frz od (.dK (tKv ks))) (H0of tg8.td0) td5 tdm
                have gd : (upd H8 td (.frz od (.dK (tKv ks)))) td = some (.frz od (.dK (tKv ks))) := upd_same
                have hh9 : (upd H8 td (.frz od (.dK (tKv ks)))) hl_ = some (.lst (held.map natV)) := by rw [upd_ne tdh.symm]; exact hh8
                have lists9 : ∀ (j k : Nat) (l : List Nat), touched[j]? = some (k, l) → ∃ a, ks[j]? = some (k, a) ∧ (upd H8 td (.frz od (.dK (tKv ks)))) a = some (.lst (l.map natV)) ∧ H7 a = none ∧ a ≠ td := fun j k l e => by
                  obtain ⟨a, e1, e2, e3, e4⟩ := tg8.at_ j k l e
                  exact ⟨a, e1, by rw [upd_ne e4]; exact e2, e3, e4⟩
                generalize upd H8 td (.frz od (.dK (tKv ks))) = G9 at *
                refine ⟨_, rfl, td, od, rfl, .inl ⟨tKv ks, gd, ?_⟩⟩
                have lnk : (tKv ks).length = touched.length := by
                  have := congrArg List.length tg8.ky
                  rw [List.length_map, List.length_map] at this
                  unfold tKv
                  rw [List.length_map]
                  exact this
                refine for_it (walk_keys (d := td) (o := od) (kvs := tKv ks)) (fun i σ H' => H' td = some (.frz od (.dK (tKv ks))) ∧ (∀ (j k : Nat) (l : List Nat), touched[j]? = some (k, l) → ∃ a, ks[j]? = some (k, a) ∧ H' a = some (.lst (l.map natV)) ∧ H7 a = none ∧ a ≠ td) ∧ H' hl_ = some (.lst (held.map natV)) ∧ ∃ (block2 : List (Option Nat)) (mem2 : List (List Nat)) (sizes2 : List Nat) (wait2 : List Bool) (queue2 : List Nat) (ma2 : List Addr) (z9 z12 z13 : Option V), σ = [some (.ref bf), some (.ref blk), some (.ref mb), some (.int 400), some (.ref sz), some (.ref hl_), some (.ref wt), some (.ref qu), some (.int (u : Int)), z9, some (.ref w0), some (.ref td), z12, z13] ∧ RfI H H' blk mb sz wt qu block2 mem2 sizes2 wait2 queue2 ma2 ∧ TI rs es R TT block2 mem2 sizes2 wait2 queue2 (kk - 1) (fun s => bv block s = some u) c ∧ MI (bv block1) touched (held.flatMap (f c)) i (bv block2))
                  ⟨gd, lists9, hh9, block1, mem1, sizes1, wait1, queue1, ma1, _, _, _, rfl, rf9, ti7, mi_start TG8 (fun s hs => (slt s hs).2)⟩ (fun i σ H' _ p => p.1) ?_ ?_
                · rintro i x σ H9' H10 hi ⟨gd, lists, hh10, block2, mem2, sizes2, wait2, queue2, ma2, z9, z12, z13, rfl, rf, ti2, mi⟩ ⟨rfl, key, vv, hkv, rfl⟩
                  unfold tKv at hkv
                  rw [List.getElem?_map] at hkv
                  obtain ⟨⟨k1, a1⟩, hk1, e⟩ := Option.map_eq_some_iff.mp hkv
                  cases e
                  obtain ⟨l1, hl1⟩ : ∃ l1, touched[i]? = some (k1, l1) := by
                    have h1 : (touched.map Prod.fst)[i]? = some k1 := by
                      rw [← tg8.ky, List.getElem?_map, hk1]
                      rfl
                    rw [List.getElem?_map] at h1
                    obtain ⟨⟨k', l'⟩, e1, e2⟩ := Option.map_eq_some_iff.mp h1
                    have e2 : k' = k1 := e2
                    exact ⟨l', by rw [e1, e2]⟩
                  obtain ⟨a1', e1, ha1, a10, a1td⟩ := lists i k1 l1 hl1
                  have : a1' = a1 := by
                    rw [hk1] at e1
                    exact (congrArg Prod.snd (Option.some.inj e1)).symm
                  subst this
                  have keyb : ∀ (j k : Nat) (l' : List Nat), i ≤ j → touched[j]? = some (k, l') → k < mem2.length := fun j k l' ij e => by
                    obtain ⟨e1, ne⟩ := TG8.els k l' (List.mem_of_getElem? e)
                    obtain ⟨s0, hs0⟩ := List.exists_mem_of_ne_nil _ ne
                    rw [e1] at hs0
                    exact ti2.ri.lt s0 k ((mi.rest j k l' ij e s0).mp (of_decide_eq_true (List.mem_filter.mp hs0).2))
                  have km := keyb i k1 l1 (Nat.le_refl _) hl1
                  obtain ⟨el1, nel⟩ := TG8.els k1 l1 (List.mem_of_getElem? hl1)
                  have rst := mi.rest i k1 l1 (Nat.le_refl _) hl1
                  have inl : ∀ s, s ∈ l1 ↔ (s ∈ held.flatMap (f c) ∧ bv block2 s = some k1) := fun s => by
                    rw [el1, List.mem_filter, decide_eq_true_eq, rst s]
                  have hl : ∀ s ∈ l1, bv block2 s = some k1 := fun s hs => ((inl s).mp hs).2
                  have ndl : l1.Nodup := by
                    rw [el1]
                    exact snd.filter _
                  have szk := ti2.ri.szs k1 km
                  have ms2 := ti2.ri.ms
                  have mal2 := rf.mat.ln
                  have m2 := ti2.ri.many
                  have wl2 := ti2.wl
                  have q2 := ti2.ql
                  have dg : DGet H10 td (.int (k1 : Int)) (some (.ref a1')) := .inl ⟨tKv ks, .inl k1, .inr ⟨od, gd⟩, rfl, (tKv_at (by rw [tg8.ky]; exact TG8.nd) hk1).symm⟩
                  obtain ⟨a5, am1, ahl⟩ := offs a10
                  refine ⟨_, rfl, _, rfl, td, V.ref a1', rfl, dg, a1', _, rfl, .inl (SqL.of ha1), ?_⟩
                  refine ⟨_, rfl, _, rfl, sz, _, (k1 : Int), _, rfl, rfl, SqL.of rf.hs, atI_nat (natV_get (i := k1) (u := sizes2.getD k1 0) (by rw [getD_at (show k1 < sizes2.length by omega)]; exact List.getElem?_eq_getElem (show k1 < sizes2.length by omega))), ?_⟩
                  refine ⟨_, _, rfl, rfl, _, rfl, ite2 (fun h => ?_) (fun h => ?_)⟩
                  · have h := of_decide_eq_true h
                    rw [List.length_map] at h
                    have lt1 : l1.length < sizes2.getD k1 0 := by omega
                    -- the lot is cut
                    refine ⟨_, rfl, _, rfl, _, rfl, td, V.ref a1', rfl, dg, _, rfl, _, rfl, _, rfl, a1', blk, mb, sz, k1, l1, block2, ma2, sizes2, rfl, ha1, rf.hb, rf.hm, rf.hs, a5.1, a5.2.1, a5.2.2.1, rf.ds.1, rf.ds.2.1.symm, rf.ds.2.2.1.symm, fun s hs => ?_, by omega, Nat.le_of_lt lt1, by omega, by omega, fun H11 kp11 hb11 hm11 hs11 => ?_⟩
                    · rw [ti2.ri.lb]
                      exact (slt s ((inl s).mp hs).1).1
                    obtain ⟨d1, d2, d3, d4, d5, d6, d7, d8, d9, d10⟩ := rf.ds
                    have k11 : ∀ {z : Addr} {o : HO}, z ≠ blk → z ≠ mb → z ≠ sz → H10 z = some o → H11 z = some o := fun n1 n2 n3 e => kp11 _ _ (fun q => by
                      rcases q with q | q | q
                      · exact n1 q
                      · exact n2 q
                      · exact n3 q) e
                    have hw11 := k11 d4 d5 d6 rf.hw
                    have hq11 := k11 d7 d8 d9 rf.hq
                    refine ⟨_, rfl, .inl ⟨rfl, _, SqL.of hq11⟩, _, rfl, _, rfl, _, rfl, sz, wt, k1, _, wait2, rfl, hs11, hw11, d6.symm, by omega, by rw [List.length_set, List.length_append, List.length_singleton]; omega, by omega, fun H12 c' hc kp12 hw12 => ?_⟩
                    have hq12 := kp12 _ _ d10 hq11
                    have qb := nodup_len ti2.qn (fun b hb => wv_lt ((ti2.qw b).mp hb))
                    refine ⟨qu, _, _, rfl, rfl, hq12, small1000 (by rw [List.length_map]; omega), ?_⟩
                    have eq12 : queue2.map natV ++ [V.int (c' : Int)] = (queue2 ++ [c']).map natV := by
                      rw [List.map_append]
                      rfl
                    rw [eq12]
                    have up : ∀ {z : Addr} {o : HO}, z ≠ blk ∧ z ≠ mb ∧ z ≠ sz ∧ z ≠ wt ∧ z ≠ qu → H10 z = some o → (upd H12 qu (.lst ((queue2 ++ [c']).map natV))) z = some o := fun n e => by
                      rw [upd_ne n.2.2.2.2]
                      exact kp12 _ _ n.2.2.2.1 (k11 n.1 n.2.1 n.2.2.1 e)
                    have ne7 : ∀ {z : Addr}, H7 z = none → z ≠ blk ∧ z ≠ mb ∧ z ≠ sz ∧ z ≠ wt ∧ z ≠ qu := fun e => (offs e).1
                    have fm' : ∀ a ∈ ma2 ++ [a1'], a ≠ blk ∧ a ≠ mb ∧ a ≠ sz ∧ a ≠ wt ∧ a ≠ qu := fun a ha => by
                      rcases List.mem_append.mp ha with q | q
                      · exact rf.fm a q
                      · rw [List.mem_singleton.mp q]
                        exact a5
                    have hb13 : (upd H12 qu (.lst ((queue2 ++ [c']).map natV))) blk = some (.lst ((mark mem2.length block2 l1).map oV)) := by
                      rw [upd_ne d7.symm, ← mal2]
                      exact kp12 _ _ d4.symm hb11
                    have hm13 : (upd H12 qu (.lst ((queue2 ++ [c']).map natV))) mb = some (.lst ((ma2 ++ [a1']).map V.ref)) := by
                      rw [upd_ne d8.symm]
                      exact kp12 _ _ d5.symm hm11
                    have hs13 : (upd H12 qu (.lst ((queue2 ++ [c']).map natV))) sz = some (.lst (((sizes2 ++ [l1.length]).set k1 (sizes2.getD k1 0 - l1.length)).map natV)) := by
                      rw [upd_ne d9.symm]
                      exact kp12 _ _ d6.symm hs11
                    have hw13 : (upd H12 qu (.lst ((queue2 ++ [c']).map natV))) wt = some (.lst (((wait2 ++ [false]).set c' true).map V.bl)) := by
                      rw [upd_ne d10.symm]
                      exact hw12
                    have hq13 : (upd H12 qu (.lst ((queue2 ++ [c']).map natV))) qu = some (.lst ((queue2 ++ [c']).map natV)) := upd_same
                    clear kp11 kp12 k11 hb11 hm11 hs11 hw11 hw12 hq11 hq12
                    generalize upd H12 qu (.lst ((queue2 ++ [c']).map natV)) = H13 at *
                    refine ⟨up td5 gd, fun j k l e => ?_, up hd5 hh10, _, _, _, _, _, _, _, _, _, rfl, ⟨fun b o nb e => up ⟨fun z => nb (.inl z), fun z => nb (.inr z), fun z => (by rw [z, rf.new.1] at e; cases e), fun z => (by rw [z, rf.new.2.1] at e; cases e), fun z => (by rw [z, rf.new.2.2] at e; cases e)⟩ (rf.kp b o nb e), hb13, hm13, (rf.mat.push ha1).keep (W := fun b => b = blk ∨ b = mb ∨ b = sz ∨ b = wt ∨ b = qu) (fun b o nb e => up ⟨fun z => nb (.inl z), fun z => nb (.inr (.inl z)), fun z => nb (.inr (.inr (.inl z))), fun z => nb (.inr (.inr (.inr (.inl z)))), fun z => nb (.inr (.inr (.inr (.inr z))))⟩ e) (fun a ha q => ?_), hs13, hw13, hq13, fm', ⟨d1, d2, d3, d4, d5, d6, d7, d8, d9, d10⟩, rf.new⟩, ti2.cut km ndl hl (List.length_pos_iff.mpr nel) lt1 (fun s t hs ht he hsl => ?_) (by rw [← wl2]; exact hc), mi.cut TG8 hl1 (moved_mark ti2.ri hl) fun j k l' ij e z => ?_⟩
                    · obtain ⟨a, e1, e2, e3, e4⟩ := lists j k l e
                      exact ⟨a, e1, up (ne7 e3) e2, e3, e4⟩
                    · obtain ⟨f1, f2, f3, f4, f5⟩ := fm' a ha
                      rcases q with q | q | q | q | q
                      · exact f1 q
                      · exact f2 q
                      · exact f3 q
                      · exact f4 q
                      · exact f5 q
                    · obtain ⟨p, hp, hsp⟩ := List.mem_flatMap.mp ((inl s).mp hsl).1
                      obtain ⟨p1, p2, p3⟩ := hdL p hp
                      obtain ⟨r1, r2⟩ := ((hf c p cL p1).2 s).mp hsp
                      obtain ⟨t', ⟨w1, w2⟩, w3⟩ := he.way ⟨r2, p3⟩
                      have tR := ((ti2.dom t).mp ⟨_, ht⟩).1
                      have t'R := ron t c t' tR w1
                      obtain ⟨b, hb⟩ := (dom0 t').mpr ⟨t'R, w2⟩
                      have eb := so0 p t' u b ((hdm p).mp hp) hb w3
                      have t'h := (hdm t').mpr (by rw [hb, eb])
                      exact (inl t).mpr ⟨List.mem_flatMap.mpr ⟨t', t'h, ((hf c t' cL (hdL t' t'h).1).2 t).mpr ⟨tR, w1⟩⟩, ht⟩
                    · have := keyb j k l' ij e
                      omega
                  · have h : ¬ (((l1.map natV).length : Int) < (sizes2.getD k1 0 : Int)) := fun q => h (decide_eq_true q)
                    rw [List.length_map] at h
                    have full : ∀ s, bv block2 s = some k1 → s ∈ held.flatMap (f c) := fun s hs => by
                      have := cnt_all ((ti2.ri.nd k1).filter (isB block2 k1)) ndl (fun y hy => List.mem_filter.mpr ⟨ti2.ri.sub y k1 (hl y hy), decide_eq_true (hl y hy)⟩) (by rw [← szk]; omega) s (List.mem_filter.mpr ⟨ti2.ri.sub s k1 hs, decide_eq_true hs⟩)
                      exact ((inl s).mp this).1
                    exact ⟨gd, lists, hh10, block2, mem2, sizes2, wait2, queue2, ma2, _, _, _, rfl, rf, ti2, mi.stay TG8 hl1 full⟩
                · rintro σ H10 ⟨gd, lists, hh10, block2, mem2, sizes2, wait2, queue2, ma2, z9, z12, z13, rfl, rf, ti2, mi⟩
                  rw [lnk] at mi
                  refine ⟨gd, block2, mem2, sizes2, wait2, queue2, ma2, _, _, _, _, _, rfl, rf.off (H0of tg8.td0) td5 (fun q => ?_), ti2.letter (srcs := held.flatMap (f c)) (fun s p b b' h1 h2 h3 => ?_) (mi.done fun s b h1 => (ti7.dom s).mpr ((ti2.dom s).mp ⟨b, h1⟩)), by rw [upd_ne tdh.symm]; exact hh10⟩
                  · obtain ⟨b, hb'⟩ := List.mem_iff_getElem?.mp q
                    have := rf.mat.at_ b td hb'
                    rw [gd] at this
                    cases this
                  · have hs := (ti2.dom s).mp ⟨b, h1⟩
                    refine ⟨fun q => ?_, fun q => ?_⟩
                    · obtain ⟨t, ht, hst⟩ := List.mem_flatMap.mp q
                      have e2 := (((hf c t cL (hdL t ht).1).2 s).mp hst).2
                      rw [h2] at e2
                      rw [Option.some.inj e2]
                      exact (hdm t).mp ht
                    · have hp := (hdm p).mpr q
                      exact List.mem_flatMap.mpr ⟨p, hp, ((hf c p cL (hdL p hp).1).2 s).mpr ⟨hs.1, h2⟩⟩
            · rintro σ H7 ⟨block1, mem1, sizes1, wait1, queue1, ma1, y9, y10, y11, y12, y13, rfl, rf7, ti7, hh7⟩
              rw [List.length_map, BB.wl] at ti7
              have q7 := ti7.ql
              have q6 := ti.ql
              have m7 := ti7.ri.many
              refine ⟨⟨block1, mem1, sizes1, wait1, queue1, ma1, _, _, _, _, _, _, _, _, _, rfl, rf7, ti7⟩, ?_⟩
              rw [rf7.hq, rf7.hm]
              show (queue1.map natV).length + (TT - (ma1.map V.ref).length) < _
              rw [List.length_map, List.length_map, rf7.mat.ln]
              rw [List.length_append, List.length_singleton] at q6
              omega
      · rintro σ H6 Q1 Q2 hQ ⟨x, e1, a, xs, e2, e3, q⟩
        exact ⟨x, e1, a, xs, e2, e3, hQ _ _ q⟩
end
/-! ### an integer as a test -/
section
variable {X : Cx}
def tTruI (t : TE) : TT := fun σ H Q => t σ H fun x H1 => ∃ i : Int, x = .int i ∧ Q (i != 0) H1
theorem pt_intT {e : Expr} {t : TE} (he : PE X e t) (hi : ∀ whole, isTrue e X.env whole = (do let v ← whole; standAt e.pos; holding [v] (truthy v)) := by intro _; rfl) : PT X e (tTruI t) := by
  refine ⟨fun pins s σ H Q I h => ?_⟩
  refine isTrue_plain (thn (he.run pins s σ H _ I h) fun v s1 ⟨x, H1, I1, r1, i, ex, q⟩ => ?_) (hi _)
  subst ex
  obtain ⟨t0, rfl⟩ := r1
  exact PySem.P.truthy_int ⟨H1, I1, q⟩
end
theorem BA.ex {H : Hp} {bf : Addr} {ws : List Addr} {cs : List (List Addr)} {L n : Nat} {f : Nat → Nat → List Nat} (h : BA H bf ws cs L n f) {a : Addr} (ha : BAd bf ws cs a) : ∃ o, H a = some o := by
  rcases ha with rfl | ha | ⟨cc, h1, h2⟩
  · exact ⟨_, h.top⟩
  · obtain ⟨c, hc⟩ := List.mem_iff_getElem?.mp ha
    have l := (List.getElem?_eq_some_iff.mp hc).1
    exact ⟨_, (h.mid c a _ hc (List.getElem?_eq_getElem (by rw [h.cl, ← h.wl]; exact l))).1⟩
  · obtain ⟨c, hc⟩ := List.mem_iff_getElem?.mp h1
    obtain ⟨t, ht⟩ := List.mem_iff_getElem?.mp h2
    exact ⟨_, h.low c t cc a hc ht⟩
theorem reach_nx {rs : Rows} {s c t : Nat} (h : Reach rs s) (e : nx rs s c = some t) : Reach rs t := by
  unfold nx at e
  rw [List.getD_eq_getElem?_getD] at e
  cases e1 : rs[s]? with
  | none =>
    have : rs.getD s [] = [] := by rw [List.getD_eq_getElem?_getD, e1]; rfl
    rw [this] at e
    cases e
  | some row =>
    have : rs.getD s [] = row := by rw [List.getD_eq_getElem?_getD, e1]; rfl
    rw [this] at e
    cases e2 : row[c]? with
    | none =>
      rw [e2] at e
      cases e
    | some o =>
      rw [e2] at e
      have : o = some t := e
      subst this
      exact .s h e1 e2
/-- what leads on among the states that are come to is what lives -/
theorem ld_live {rs : Rows} {es : List Bool} {L n : Nat} {ord M : List Nat} {f : Nat → Nat → List Nat} {Pd : Nat → Prop} (wide : ∀ r ∈ rs, r.length = L) (tgt : ∀ r ∈ rs, ∀ t, some t ∈ r → t < rs.length) (hm : ∀ u, u ∈ ord ↔ Reach rs u) (hf : ∀ c t s, s ∈ f c t ↔ (s ∈ ord ∧ nx rs s c = some t)) (h : Ld n f L Pd (ord.filter fun s => es.getD s false) M [] (fun _ _ => False)) (hP : ∀ s, Pd s → Live rs es s) : ∀ s, Reach rs s → (s ∈ M ↔ Live rs es s) := by
  have key : ∀ (w : List Nat) (s : Nat), Reach rs s → acc rs es w s = true → s ∈ M := by
    intro w
    induction w with
    | nil => exact fun s hs e => h.go s (List.mem_filter.mpr ⟨(hm s).mpr hs, e⟩)
    | cons c w ih =>
      intro s hs e
      cases ep : nx rs s c with
      | none =>
        rw [acc_none ep] at e
        cases e
      | some t =>
        rw [acc_cons ep] at e
        have ht := ih t (reach_nx hs ep) e
        rcases h.cl t ht List.not_mem_nil c (nx_lt wide ep).2.1 with q | q
        · exact q.elim
        · exact q s ((hf c t s).mpr ⟨(hm s).mpr hs, ep⟩)
  exact fun s hs => ⟨fun q => hP s (h.so s q), fun ⟨w, hw⟩ => key w s hs hw⟩

section
variable {P : Program} {w : World} {K : PySem.W.Frag} {mg : Str → Option Value} {base : Heap}
theorem scSmallM : FnScope ["rows", "marks", "most", "order", "before", "leads", "state", "block", "members"] ["rows", "marks", "most"] (defScope sSmallM) := ⟨rfl, rfl, rfl, by decide +kernel, rfl, by decide +kernel, by decide +kernel⟩
def spSmallM (K : PySem.W.Frag) : Sp := fun vs H Q _ => ∃ (L : Nat) (rs : Rows) (es : List Bool) (m pr pe mk : Addr) (rvs : List V) (B : Addr → Prop), vs = [.ref pr, .ref mk, .int 400] ∧ MOk L rs es ∧ MA H L rs es m pr pe rvs ∧ TB B H ∧ H mk = some (.lst ((es.map b2n).map natV)) ∧
  ∀ (H' : Hp) (r p1 p2 : Addr) (out : Rws) (oe : List Bool), Same H H' → Rd H' r (.tup [.ref p1, .ref p2]) → Dt B K H' (.ref p1) (.tuple (out.map rowDt)) → Rd H' p2 (.tup ((oe.map b2n).map natV)) → Smallest rs es L out oe → Q (.ref r) H'
theorem ok_smallM {f fRE fSO fLD fBL fRF fNU : Addr} {fd fdRE fdSO fdLD fdBL fdRF fdNU : FuncData} (F : Fun K "smallest_marked" "smallest_marked" sSmallM f fd)
    (RE : FnOk P w K mg base CX0 1 fRE fdRE ["rows"] spReached) (FRE : Fun K "reached" "reached" sReached fRE fdRE) (bRE : Binds K fdRE ["rows"] []) (gRE : mg "reached" = some (.ref fRE))
    (SO : FnOk P w K mg base CX0 1 fSO fdSO ["letters", "rows", "order"] spSources) (FSO : Fun K "sources" "sources" sSources fSO fdSO) (bSO : Binds K fdSO ["letters", "rows", "order"] []) (gSO : mg "sources" = some (.ref fSO))
    (LD : FnOk P w K mg base CX0 1 fLD fdLD ["before", "goals", "many"] spLeading) (FLD : Fun K "leading" "leading" sLeading fLD fdLD) (bLD : Binds K fdLD ["before", "goals", "many"] []) (gLD : mg "leading" = some (.ref fLD))
    (BL : FnOk P w K mg base CX0 1 fBL fdBL ["rows", "marks", "states", "leads"] spBlocks) (FBL : Fun K "first_blocks" "first_blocks" sBlocks fBL fdBL) (bBL : Binds K fdBL ["rows", "marks", "states", "leads"] []) (gBL : mg "first_blocks" = some (.ref fBL))
    (RF : FnOk P w K mg base CX0 2 fRF fdRF ["before", "block", "members", "most"] spRefine) (FRF : Fun K "refine" "refine" sRefine fRF fdRF) (bRF : Binds K fdRF ["before", "block", "members", "most"] []) (gRF : mg "refine" = some (.ref fRF))
    (NU : FnOk P w K mg base CX0 1 fNU fdNU ["rows", "marks", "block"] (spNumbered K)) (FNU : Fun K "numbered" "numbered" sNumbered fNU fdNU) (bNU : Binds K fdNU ["rows", "marks", "block"] []) (gNU : mg "numbered" = some (.ref fNU)) (T : Mg mg) : FnOk P w K mg base CX0 3 f fd ["rows", "marks", "most"] (spSmallM K) := by
  refine F.ok scSmallM (fun vs H Q E h => ?_) (fun cdv A outer s H vs Q E hr h => ?_)
  · obtain ⟨L, rs, es, m, pr, pe, mk, rvs, B, rfl, _⟩ := h
    rfl
  · obtain ⟨L, rs, es, m, pr, pe, mk, rvs, B, rfl, M, MM, tb, hmk, k⟩ := h
    have l4 := M.l400
    have l1 := M.l1
    have L1 := M.L1
    refine ⟨_, (pss_cons (ps_set (i := 3) scSmallM.nd rfl (.inl rfl) (pe_call RE (hr.mono (by decide)) (by rfl) gRE FRE.kp bRE .nil pass0 (pa_cons (pv 0) pa_nil)))
      (pss_cons (ps_set (i := 4) scSmallM.nd rfl (.inl rfl) (pe_call SO (hr.mono (by decide)) (by rfl) gSO FSO.kp bSO .nil pass0 (pa_cons (pe_callB (r := rLen K) call_len_seq (by rfl) T.len PySem.boot_len (pa_cons (pe_ix (r := rIxT K) ix_tup (pv 0) pe_int (fun _ _ => rfl)) pa_nil)) (pa_cons (pv 0) (pa_cons (pv 3) pa_nil)))))
      (pss_cons (ps_set (i := 5) scSmallM.nd rfl (.inr rfl) (pe_call LD (hr.mono (by decide)) (by rfl) gLD FLD.kp bLD .nil pass0 (pa_cons (pv 4) (pa_cons (pe_lc (own := [("state", 6)]) (g := gName 6) rfl scSmallM.nd (pi_list (pv 3)) (blkOk_by (N := ["rows", "marks", "most", "order", "before", "leads", "state", "block", "members"]) (sc := defScope sSmallM) (by decide +kernel)) (fun _ _ _ _ _ => pg_name (i := 6) scSmallM.nd rfl (Or.inl rfl)) (fun _ _ _ _ _ => pts_one (pt_intT (pe_ix (r := rIxL K) ix_list (pv 1) (pv 6) (fun _ _ => rfl)))) (fun _ _ _ _ _ => (pv 6))) (pa_cons (pe_callB (r := rLen K) call_len_seq (by rfl) T.len PySem.boot_len (pa_cons (pv 0) pa_nil)) pa_nil)))))
      (pss_cons (ps_if (pt_not (pt_val (pe_ix (r := rIxL K) ix_list (pv 5) pe_int (fun _ _ => rfl)))) (pss_one (ps_ret (pe_tup (pa_cons (pe_tup (pa_cons (pe_op op_repS (pe_tup (pa_cons pe_non pa_nil)) (pe_callB (r := rLen K) call_len_seq (by rfl) T.len PySem.boot_len (pa_cons (pe_ix (r := rIxT K) ix_tup (pv 0) pe_int (fun _ _ => rfl)) pa_nil))) pa_nil)) (pa_cons (pe_tup (pa_cons pe_int pa_nil)) pa_nil))))) pss_nil)
      (pss_cons (ps_asg (pe_call BL (hr.mono (by decide)) (by rfl) gBL FBL.kp bBL .nil pass0 (pa_cons (pv 0) (pa_cons (pv 1) (pa_cons (pe_lc (own := [("state", 6)]) (g := gName 6) rfl scSmallM.nd (pi_list (pv 3)) (blkOk_by (N := ["rows", "marks", "most", "order", "before", "leads", "state", "block", "members"]) (sc := defScope sSmallM) (by decide +kernel)) (fun _ _ _ _ _ => pg_name (i := 6) scSmallM.nd rfl (Or.inl rfl)) (fun _ _ _ _ _ => pts_one (pt_val (pe_ix (r := rIxL K) ix_list (pv 5) (pv 6) (fun _ _ => rfl)))) (fun _ _ _ _ _ => (pv 6))) (pa_cons (pv 5) pa_nil))))) (pg_tup rfl (pgs_cons (pg_name (i := 7) scSmallM.nd rfl (.inl rfl)) (pgs_cons (pg_name (i := 8) scSmallM.nd rfl (.inl rfl)) pgs_nil))))
      (pss_cons (ps_expr (pe_call RF (hr.mono (by decide)) (by rfl) gRF FRF.kp bRF .nil pass0 (pa_cons (pv 4) (pa_cons (pv 7) (pa_cons (pv 8) (pa_cons (pv 2) pa_nil))))))
      (pss_one (ps_ret (pe_call NU (hr.mono (by decide)) (by rfl) gNU FNU.kp bNU .nil pass0 (pa_cons (pv 0) (pa_cons (pv 1) (pa_cons (pv 7) pa_nil)))))))))))), ?_⟩
    refine ⟨_, rfl, L, rs, es, m, pr, pe, rvs, rfl, M, MM, fun H1 od ord s1 od0 hod O => ?_⟩
    have MM1 := MM.same s1
    obtain ⟨row0, hrow0⟩ : ∃ row0, rs[0]? = some row0 := ⟨_, List.getElem?_eq_getElem (by omega)⟩
    have lrow0 := M.row row0 (List.mem_of_getElem? hrow0)
    obtain ⟨q0, hq1, hq2⟩ := MM1.row 0 row0 hrow0
    refine ⟨_, rfl, pr, rvs, 0, _, rfl, rfl, .inl MM1.hr, atI_nat (j := 0) hq1, q0, _, rfl, .inr (.inl hq2), _, rfl, _, rfl, L, rs, es, m, pr, pe, od, rvs, ord, congrArg (fun q : Nat => [V.int (q : Int), V.ref pr, V.ref od]) (show (row0.map oV).length = L by rw [List.length_map, lrow0]), M, MM1, hod, O.lt, by have := O.len; omega, fun H2 bf ws cs s2 fBA BB => ?_⟩
    have hod2 := s2 _ _ hod
    have hmk2 := s2 _ _ (s1 _ _ hmk)
    have MM2 := MM1.same s2
    have ol := O.len
    have onx : ∀ c t s, s ∈ (ord.filter fun s => decide (nx rs s c = some t)) ↔ (s ∈ ord ∧ nx rs s c = some t) := fun c t s => by
      rw [List.mem_filter, decide_eq_true_eq]
    -- the states that end words
    refine ⟨_, rfl, _, rfl, od, rfl, ⟨_, SqL.of hod2⟩, fun D hD => ?_⟩
    refine lc_list (K := K) (a := od) (xs := ord.map natV) (KInv (fun s : Nat => es.getD s false) natV ord H2 D) (kstart hD) (fun i H' _ q => SqL.of (q.1 _ _ hod2)) ?_ ?_
    · rintro i x H3 hx p1
      obtain ⟨u, hu, rfl⟩ := natV_of hx
      have hun := O.lt u (List.mem_of_getElem? hu)
      have hue : u < es.length := by rw [M.es]; exact hun
      have emk : ((es.map b2n).map natV)[u]? = some (natV (b2n (es.getD u false))) := by
        rw [List.getElem?_map, List.getElem?_map, List.getElem?_eq_getElem hue, getD_at hue]
        rfl
      refine ⟨rfl, _, rfl, _, rfl, mk, _, (u : Int), _, rfl, rfl, SqL.of (p1.1 _ _ hmk2), atI_nat emk, _, rfl, ?_⟩
      cases hb : es.getD u false with
      | true => exact ⟨_, rfl, kyes (t := fun s : Nat => es.getD s false) (small1000 (by omega)) hD hu hb p1 (Same.refl _)⟩
      | false => exact kno (t := fun s : Nat => es.getD s false) hu hb p1 (Same.refl _)
    · rintro H3 p1
      obtain ⟨s3, hl3⟩ := kend (List.length_map _) p1
      have MM3 := MM2.same s3
      refine ⟨_, rfl, pr, rvs, rfl, .inr (.inl MM3.hr), ?_⟩
      refine ⟨bf, D, ws, cs, L, rs.length, _, ord.filter (fun s => es.getD s false), Live rs es, congrArg (fun q : Nat => [V.ref bf, V.ref D, V.int (q : Int)]) MM.hl, BB.same s3, hl3, l1, l4, O.nd.filter _, fun s hs => ?_, fun c t s hc ht hs => ?_, fun H4 ld Mk s4 ld0 hld LdM => ?_⟩
      · obtain ⟨h1, h2⟩ := List.mem_filter.mp hs
        exact ⟨O.lt s h1, live_end h2⟩
      · obtain ⟨h1, h2⟩ := (onx c t s).mp hs
        exact ⟨O.lt s h1, fun q => live_on h2 q⟩
      have lvM := ld_live M.row M.tgt O.mem onx LdM fun s q => q
      have s14 := ((s1.trans s2).trans s3).trans s4
      have MM4 := MM3.same s4
      refine ⟨_, rfl, ld, _, 0, _, rfl, rfl, SqL.of hld, atI_nat (j := 0) (knB_get (by omega)), _, rfl, ?_⟩
      by_cases h0 : 0 ∈ Mk
      · rw [decide_eq_true h0]
        have live0 := (lvM 0 .z).mp h0
        have hod4 := s4 _ _ (s3 _ _ hod2)
        refine ⟨_, rfl, _, rfl, _, rfl, od, rfl, ⟨_, SqL.of hod4⟩, fun D2 hD2 => ?_⟩
        refine lc_list (K := K) (a := od) (xs := ord.map natV) (KInv (fun s : Nat => decide (s ∈ Mk)) natV ord H4 D2) (kstart hD2) (fun i H' _ q => SqL.of (q.1 _ _ hod4)) ?_ ?_
        · rintro i x H5 hx p1
          obtain ⟨u, hu, rfl⟩ := natV_of hx
          have hun := O.lt u (List.mem_of_getElem? hu)
          refine ⟨rfl, _, rfl, _, rfl, ld, _, (u : Int), _, rfl, rfl, SqL.of (p1.1 _ _ hld), atI_nat (knB_get hun), _, rfl, ?_⟩
          by_cases hb : u ∈ Mk
          · rw [decide_eq_true hb]
            exact ⟨_, rfl, kyes (t := fun s : Nat => decide (s ∈ Mk)) (small1000 (by omega)) hD2 hu (decide_eq_true hb) p1 (Same.refl _)⟩
          · rw [decide_eq_false hb]
            exact kno (t := fun s : Nat => decide (s ∈ Mk)) hu (decide_eq_false hb) p1 (Same.refl _)
        · rintro H5 p1
          obtain ⟨s5, hl5⟩ := kend (List.length_map _) p1
          have s15 := s14.trans s5
          have MM5 := MM4.same s5
          have hdS : ∀ s, s ∈ (ord.filter fun s => decide (s ∈ Mk)) ↔ (Reach rs s ∧ Live rs es s) := fun s => by
            rw [List.mem_filter, decide_eq_true_eq, O.mem]
            exact ⟨fun q => ⟨q.1, (lvM s q.1).mp q.2⟩, fun q => ⟨q.1, (lvM s q.1).mpr q.2⟩⟩
          refine ⟨_, rfl, L, rs, es, m, pr, pe, mk, D2, ld, rvs, ord.filter (fun s => decide (s ∈ Mk)), Mk, rfl, M, MM5, s15 _ _ hmk, hl5, O.nd.filter _, fun s hs => O.lt s (List.mem_filter.mp hs).1, s5 _ _ hld, fun H6 r6 blk mb nm block nums mem ma FI6 b0 m0 nbm hr6 => ?_⟩
          have s16 := s15.trans FI6.sm
          have rl : ∀ s, Reach rs s → s < rs.length := fun s hs => O.lt s ((O.mem s).mpr hs)
          have ti := FI6.fb.ti M.row hdS rl (fun s c t hs e => reach_nx hs e) (fun t ht => by rw [decide_eq_true_eq]; exact lvM t ht) (fun _ => False)
          have tl : (ord.filter fun s => decide (s ∈ Mk)).length ≤ rs.length := Nat.le_trans (List.length_filter_le _ _) ol
          have BB5 := BB.same (s3.trans (s4.trans s5))
          refine ⟨r6, _, rfl, .inl hr6, rfl, _, _, rfl, _, _, rfl, rfl, ?_⟩
          refine ⟨_, rfl, _, rfl, _, rfl, _, rfl, L, rs, es, bf, blk, mb, ws, cs, _, Reach rs, _, block, mem, ma, _, rfl, M, BB5.same FI6.sm, fun c t hc ht => ⟨O.nd.filter _, fun s => by rw [onx, O.mem]⟩, rl, fun s c t hs e => reach_nx hs e, FI6.hb, FI6.hm, FI6.mat, nbm, fun a ha => ?_, fun a ha => ⟨(FI6.fr a ha).2.1, (FI6.fr a ha).2.2.2⟩, tl, ti, fun H7 block' kp hb7 lb7 PB7 dom7 => ?_⟩
          · obtain ⟨o, ho⟩ := BB5.ex ha
            exact ⟨(fun z => by rw [z, b0] at ho; cases ho), (fun z => by rw [z, m0] at ho; cases ho)⟩
          have s57 : Same H5 H7 := fun b o e => kp b o (fun z => by
            rcases z with z | z
            · rw [z, b0] at e
              cases e
            · rw [z, m0] at e
              cases e) (FI6.sm _ _ e)
          have s17 := s15.trans s57
          refine ⟨_, rfl, _, rfl, _, rfl, L, rs, es, m, pr, pe, mk, blk, rvs, es.map b2n, block', B, rfl, M, MM5.same s57, tb_same s17 tb, s17 _ _ hmk, by rw [List.length_map, M.es], hb7, lb7, PB7, (dom7 0).mpr ⟨.z, live0⟩, fun H8 r p1 p2 picked nums done s8 hr8 d8 hp8 ni8 hd8 => ?_⟩
          refine k H8 r p1 p2 done (picked.map fun p => es.getD p false) (s17.trans s8) hr8 d8 ?_ (.inl ⟨picked, ni8.canon PB7 hd8⟩)
          have : (picked.map fun p => (es.map b2n).getD p 0) = (picked.map fun p => es.getD p false).map b2n := by
            rw [List.map_map]
            refine List.map_congr_left fun p hp => ?_
            have pl : p < es.length := by rw [M.es]; exact (ni_lt ni8 PB7).1 p hp
            show (es.map b2n).getD p 0 = b2n (es.getD p false)
            rw [List.getD_eq_getElem?_getD, List.getElem?_map, List.getElem?_eq_getElem pl, getD_at pl]
            rfl
          rw [← this]
          exact hp8
      · rw [decide_eq_false h0]
        have nl : ¬ Live rs es 0 := fun q => h0 ((lvM 0 .z).mpr q)
        have tb4 := tb_same s14 tb
        refine ⟨by show 1 ≤ sizeLine; decide, fun u1 hu1 => ?_⟩
        have e1 := same_new (o := .tup [.non]) hu1
        have MM5 := MM4.same e1
        obtain ⟨q5, hq51, hq52⟩ := MM5.row 0 row0 hrow0
        refine ⟨_, rfl, pr, rvs, 0, _, rfl, rfl, .inl MM5.hr, atI_nat (j := 0) hq51, q5, _, rfl, .inr (.inl hq52), ?_⟩
        refine ⟨u1, ((row0.map oV).length : Int), _, rfl, rfl, .inl upd_same, List.cons_ne_nil _ _, by rw [List.length_map, lrow0]; omega, by rw [List.length_map, lrow0]; have := M.L3; omega, by show 1 ≤ 1000; decide, fun q1 H6 s6 hq1 w1 => ?_⟩
        have n1 := nb_of (tb_same e1 tb4) (tb_off tb4 hu1) w1
        have tb6 := tb_same s6 (tb_same e1 tb4)
        refine ⟨by show 1 ≤ sizeLine; decide, fun u2 hu2 => ?_⟩
        have e2 := same_new (o := .tup [.ref q1]) hu2
        have n2 := tb_off tb6 hu2
        refine ⟨by show 1 ≤ sizeLine; decide, fun u3 hu3 => ?_⟩
        have e3 := same_new (o := .tup [.int 0]) hu3
        refine ⟨by show 2 ≤ sizeLine; decide, fun r nr => ?_⟩
        have e4 := same_new (o := .tup [.ref u2, .ref u3]) nr
        have er : (List.replicate ((row0.map oV).length : Int).toNat [V.non]).flatten = (List.replicate L (none : Option Nat)).map oV := by
          rw [Int.toNat_natCast, List.length_map, lrow0, List.map_replicate, List.flatten_replicate_singleton]
          rfl
        rw [er] at hq1
        have s26 := e2.trans (e3.trans e4)
        refine k _ r u2 u3 [List.replicate L none] [false] (s14.trans (e1.trans (s6.trans s26))) (.inl upd_same) ?_ (same_rd e4 (.inl upd_same)) (.inr ⟨nl, rfl, rfl⟩)
        exact .tup n2 (same_rd (e3.trans e4) (.inl upd_same)) (.cons (.tup n1 (same_rd s26 hq1) (dt_cs o_cs _)) .nil)
end
section
variable {P : Program} {w : World} {K : PySem.W.Frag} {mg : Str → Option Value} {base : Heap}
theorem scSmallG : FnScope ["letters", "rows", "ends", "found", "marks", "end", "mark"] ["letters", "rows", "ends"] (defScope sSmallG) := ⟨rfl, rfl, rfl, by decide +kernel, rfl, by decide +kernel, by decide +kernel⟩
def spGraph (K : PySem.W.Frag) : Sp := fun vs H Q _ => ∃ (L : Nat) (rs : Rows) (es : List Bool) (m pr pe : Addr) (rvs : List V) (B : Addr → Prop), vs = [.int (L : Int), .ref pr, .ref pe] ∧ MOk L rs es ∧ MA H L rs es m pr pe rvs ∧ TB B H ∧
  ∀ (H' : Hp) (v : V) (out : Rws) (oe : List Bool), Same H H' → Dt B K H' v (machDt L out oe) → Smallest rs es L out oe → Q v H'
theorem live_lt {rs : Rws} {es : List Bool} {L : Nat} (wide : ∀ r ∈ rs, r.length = L) (el : es.length = rs.length) {s : Nat} (h : Live rs es s) : s < rs.length := by
  obtain ⟨w, hw⟩ := h
  cases w with
  | nil =>
    have hw : es.getD s false = true := hw
    rcases Nat.lt_or_ge s es.length with l | l
    · omega
    · rw [List.getD_eq_getElem?_getD, List.getElem?_eq_none l] at hw
      cases hw
  | cons c w =>
    cases e : nx rs s c with
    | none =>
      rw [acc_none e] at hw
      cases hw
    | some t => exact (nx_lt wide e).1
theorem canon_many {rs : Rws} {es : List Bool} {L : Nat} {ps : List Nat} {out : Rws} {oe : List Bool} (C : Canon rs es L ps out oe) (wide : ∀ r ∈ rs, r.length = L) (el : es.length = rs.length) : (∀ p ∈ ps, p < rs.length) ∧ ps.length ≤ rs.length := by
  have h1 : ∀ p ∈ ps, p < rs.length := fun p hp => live_lt wide el (C.live p hp)
  refine ⟨h1, nodup_len (List.pairwise_iff_getElem.mpr fun i j hi hj l e => ?_) h1⟩
  have := C.one i j _ _ (List.getElem?_eq_getElem hi) (List.getElem?_eq_getElem hj) (by rw [e]; exact Eqv.refl _)
  omega
theorem smallest_len {rs : Rws} {es : List Bool} {L : Nat} {out : Rws} {oe : List Bool} (h : Smallest rs es L out oe) : oe.length = out.length := by
  rcases h with ⟨ps, C⟩ | ⟨_, rfl, rfl⟩
  · rw [C.le, C.lo]
  · rfl
theorem ok_smallG {f fSM : Addr} {fd fdSM : FuncData} (F : Fun K "smallest_graph" "smallest_graph" sSmallG f fd)
    (SM : FnOk P w K mg base CX0 3 fSM fdSM ["rows", "marks", "most"] (spSmallM K)) (FSM : Fun K "smallest_marked" "smallest_marked" sSmallM fSM fdSM) (bSM : Binds K fdSM ["rows", "marks", "most"] []) (gSM : mg "smallest_marked" = some (.ref fSM)) (T : Mg mg) : FnOk P w K mg base CX0 4 f fd ["letters", "rows", "ends"] (spGraph K) := by
  refine F.ok scSmallG (fun vs H Q E h => ?_) (fun cdv A outer s H vs Q E hr h => ?_)
  · obtain ⟨L, rs, es, m, pr, pe, rvs, B, rfl, _⟩ := h
    rfl
  · obtain ⟨L, rs, es, m, pr, pe, rvs, B, rfl, M, MM, tb, k⟩ := h
    obtain ⟨tM, mM⟩ := T.mrows
    have l4 := M.l400
    have le := M.es
    refine ⟨_, (pss_cons (ps_asg (pe_call SM (hr.mono (by decide)) (by rfl) gSM FSM.kp bSM .nil pass0 (pa_cons (pv 1) (pa_cons (pe_lc (own := [("end", 5)]) (g := gName 5) (tt := tYes) rfl scSmallG.nd (pi_tup (pv 2)) (blkOk_by (N := ["letters", "rows", "ends", "found", "marks", "end", "mark"]) (sc := defScope sSmallG) (by decide +kernel)) (fun _ _ _ _ _ => pg_name (i := 5) scSmallG.nd rfl (Or.inl rfl)) (fun _ _ _ _ _ => pts_nil) (fun _ _ _ _ _ => (pe_ifExp (pt_val (pv 5)) pe_int pe_int))) (pa_cons (pe_glob (v := .int 400) (by rfl) mM ⟨_, rfl⟩) pa_nil)))) (pg_tup rfl (pgs_cons (pg_name (i := 3) scSmallG.nd rfl (.inl rfl)) (pgs_cons (pg_name (i := 4) scSmallG.nd rfl (.inl rfl)) pgs_nil))))
      (pss_one (ps_ret (pe_tup (pa_cons (pv 0) (pa_cons (pv 3) (pa_cons (pe_callTy (r := rTup K) call_tuple_of (by rfl) T.tuple PyProof.Rows.boot_tuple (pa_cons (pe_lc (own := [("mark", 6)]) (g := gName 6) (tt := tYes) rfl scSmallG.nd (pi_tup (pv 4)) (blkOk_by (N := ["letters", "rows", "ends", "found", "marks", "end", "mark"]) (sc := defScope sSmallG) (by decide +kernel)) (fun _ _ _ _ _ => pg_name (i := 6) scSmallG.nd rfl (Or.inl rfl)) (fun _ _ _ _ _ => pts_nil) (fun _ _ _ _ _ => (pe_cmpR op_eq (pv 6) pe_int (nomark _)))) pa_nil)) pa_nil))))))), ?_⟩
    refine ⟨_, rfl, _, rfl, pe, rfl, ⟨_, .inl MM.he⟩, fun D hD => ?_⟩
    refine lc_tup (K := K) (a := pe) (xs := es.map V.bl) (NInv (fun b : Bool => natV (b2n b)) es H D) (nstart hD) (fun i H' _ q => .inl (MM.same q.1).he) ?_ ?_
    · rintro i x H1 hx p1
      rw [List.getElem?_map] at hx
      obtain ⟨b, hb, rfl⟩ := Option.map_eq_some_iff.mp hx
      refine ⟨rfl, _, rfl, _, rfl, ?_⟩
      cases b with
      | true => exact nturn (f := fun b : Bool => natV (b2n b)) (small1000 (by omega)) hD hb p1 (Same.refl _)
      | false => exact nturn (f := fun b : Bool => natV (b2n b)) (small1000 (by omega)) hD hb p1 (Same.refl _)
    · rintro H1 p1
      obtain ⟨s1, hl1⟩ := nend (List.length_map _) p1
      have em : es.map (fun b : Bool => natV (b2n b)) = (es.map b2n).map natV := by
        rw [List.map_map]
        rfl
      rw [em] at hl1
      refine ⟨L, rs, es, m, pr, pe, D, rvs, B, rfl, M, MM.same s1, tb_same s1 tb, hl1, fun H2 r p1 p2 out oe s2 hr2 d2 hp2 sm => ?_⟩
      refine ⟨r, _, rfl, .inl hr2, rfl, _, _, rfl, _, _, rfl, rfl, ?_⟩
      refine ⟨_, rfl, _, rfl, _, rfl, p2, rfl, ⟨_, .inl hp2⟩, fun D2 hD2 => ?_⟩
      have ol : oe.length ≤ 400 := by
        rcases sm with ⟨ps, C⟩ | ⟨_, _, rfl⟩
        · rw [C.le]
          have := (canon_many C M.row le).2
          omega
        · exact Nat.le_trans (show 1 ≤ 400 by decide) (Nat.le_refl _)
      refine lc_tup (K := K) (a := p2) (xs := (oe.map b2n).map natV) (NInv V.bl oe H2 D2) (nstart hD2) (fun i H' _ q => .inl (same_rd q.1 hp2)) ?_ ?_
      · rintro i x H3 hx p3
        rw [List.getElem?_map, List.getElem?_map] at hx
        cases e : oe[i]? with
        | none =>
          rw [e] at hx
          cases hx
        | some b =>
          rw [e] at hx
          cases hx
          refine ⟨rfl, _, rfl, rfl, ?_⟩
          cases b with
          | true => exact nturn (f := V.bl) (small1000 (by omega)) hD2 e p3 (Same.refl _)
          | false => exact nturn (f := V.bl) (small1000 (by omega)) hD2 e p3 (Same.refl _)
      · rintro H3 p3
        obtain ⟨s3, hl3⟩ := nend (by rw [List.length_map, List.length_map]) p3
        refine ⟨D2, _, rfl, .inl ⟨SqL.of hl3, fun t nt => ?_⟩⟩
        have st := same_new (o := .tup (oe.map V.bl)) nt
        have tb3 := tb_same (s1.trans (s2.trans s3)) tb
        refine ⟨by show 3 ≤ sizeLine; decide, fun u nu => ?_⟩
        have su := same_new (o := .tup [.int (L : Int), .ref p1, .ref t]) nu
        have s3u := s3.trans (st.trans su)
        exact k _ (.ref u) out oe ((s1.trans s2).trans s3u) (.tup (tb_off (tb_same st tb3) nu) (.inl upd_same) (.cons (.int _) (.cons (same_dt s3u d2) (.cons (.tup (tb_off tb3 nt) (same_rd su (.inl upd_same)) (dt_cs (fun x => Dt.bl x) oe)) .nil)))) sm
end
section
variable {P : Program} {w : World} {K : PySem.W.Frag} {mg : Str → Option Value} {base : Heap}
theorem scSmallest : FnScope ["machine", "letters", "rows", "ends"] ["machine"] (defScope sSmallest) := ⟨rfl, rfl, rfl, by decide +kernel, rfl, by decide +kernel, by decide +kernel⟩
def spSmallest (K : PySem.W.Frag) : Sp := fun vs H Q _ => ∃ (L : Nat) (rs : Rows) (es : List Bool) (x : V) (B : Addr → Prop), vs = [x] ∧ Dt B K H x (machDt L rs es) ∧ MOk L rs es ∧ TB B H ∧
  ∀ (H' : Hp) (v : V) (out : Rws) (oe : List Bool), Same H H' → Dt B K H' v (machDt L out oe) → Smallest rs es L out oe → Q v H'
theorem ok_smallest {f fGR : Addr} {fd fdGR : FuncData} (F : Fun K "smallest" "smallest" sSmallest f fd)
    (GR : FnOk P w K mg base CX0 4 fGR fdGR ["letters", "rows", "ends"] (spGraph K)) (FGR : Fun K "smallest_graph" "smallest_graph" sSmallG fGR fdGR) (bGR : Binds K fdGR ["letters", "rows", "ends"] []) (gGR : mg "smallest_graph" = some (.ref fGR)) (T : Mg mg) : FnOk P w K mg base CX0 5 f fd ["machine"] (spSmallest K) := by
  refine F.ok scSmallest (fun vs H Q E h => ?_) (fun cdv A outer s H vs Q E hr h => ?_)
  · obtain ⟨L, rs, es, x, B, rfl, _⟩ := h
    rfl
  · obtain ⟨L, rs, es, x, B, rfl, hd, M, tb, k⟩ := h
    refine ⟨_, (pss_cons (ps_asg (pv 0) (pg_tup rfl (pgs_cons (pg_name (i := 1) scSmallest.nd rfl (.inl rfl)) (pgs_cons (pg_name (i := 2) scSmallest.nd rfl (.inl rfl)) (pgs_cons (pg_name (i := 3) scSmallest.nd rfl (.inl rfl)) pgs_nil)))))
      (pss_one (ps_ret (pe_call GR (hr.mono (by decide)) (by rfl) gGR FGR.kp bGR .nil pass0 (pa_cons (pv 1) (pa_cons (pv 2) (pa_cons (pv 3) pa_nil))))))), ?_⟩
    obtain ⟨m, pr, pe, rvs, rfl, _, MM⟩ := dt_mach hd
    refine ⟨_, rfl, m, _, rfl, .inl MM.hm, rfl, _, _, rfl, _, _, rfl, _, _, rfl, rfl, ?_⟩
    exact ⟨_, rfl, _, rfl, _, rfl, L, rs, es, m, pr, pe, rvs, B, rfl, M, MM, tb, fun H' v out oe s d sm => k H' v out oe s d sm⟩
end
/-! ### what the law meets, numbered -/
theorem nx_row {rs : Rws} {s c : Nat} {row : List (Option Nat)} {x : Option Nat} (h : rs[s]? = some row) (h2 : row[c]? = some x) : nx rs s c = x := by
  unfold nx
  rw [List.getD_eq_getElem?_getD, List.getD_eq_getElem?_getD, h]
  show (row[c]?).getD none = x
  rw [h2]
  rfl
section
variable {P : Program} {w : World} {K : PySem.W.Frag} {mg : Str → Option Value} {base : Heap}
def spMet : Sp := fun vs H Q _ => ∃ (L : Nat) (rs : Rows) (es : List Bool) (m pr pe : Addr) (rvs : List V), vs = [.ref pr] ∧ MOk L rs es ∧ MA H L rs es m pr pe rvs ∧
  ∀ (H' : Hp) (o : Addr) (found : List Nat) (done : Rws), Same H H' → H o = none → H' o = some (.lst (found.map natV)) → NI rs L some found found done [] → done.length = found.length → (∀ s ∈ found, s < rs.length) → Q (.ref o) H'
theorem ok_metN {f : Addr} {fd : FuncData} (F : Fun K "_law_met" "_law_met" sMet f fd) (T : Mg mg) : FnOk P w K mg base CX0 1 f fd ["_law_rows"] spMet := by
  refine F.ok scMet (fun vs H Q E h => ?_) (fun cdv A outer s H vs Q E hr h => ?_)
  · obtain ⟨L, rs, es, m, pr, pe, rvs, rfl, _⟩ := h
    rfl
  · obtain ⟨L, rs, es, m, pr, pe, rvs, rfl, M, MM, k⟩ := h
    refine ⟨_, pss_cons (ps_par (i := 1) (j := 2) rfl scMet.nd rfl rfl (by decide) rfl rfl (pa_cons (pe_lst (pa_cons pe_int pa_nil)) (pa_cons pe_int pa_nil)) (by rfl))
      (pss_cons (ps_while PassesOwn.never (pt_cmpR op_lt (pv 2) (pe_callB (r := rLen K) call_len_seq (by rfl) T.len PySem.boot_len (pa_cons (pv 1) pa_nil)) (nomark _))
        (pss_cons (ps_for PassesOwn.never rfl (pi_tup (pe_ix (r := rIxT K) ix_tup (pv 0) (pe_ix ix_list (pv 1) (pv 2) (fun _ _ => rfl)) (fun _ _ => rfl))) (pg_name (i := 3) scMet.nd rfl (.inl rfl))
          (pss_one (ps_if (PW.pt (pw_and (pt_cmp (pc_notN (pv 3))) (pw_and1 (pt_cmpR op_notIn_seq (pv 3) (pv 1) rfl))))
            (pss_one (ps_expr (pe_bm PySem.F.plainAttrs_list PySem.F.slot_list_append PySem.F.type_list_append mt_append (pv 1) (pa_cons (pv 3) pa_nil))))
            pss_nil)))
        (pss_one (ps_set (i := 2) scMet.nd rfl (.inl rfl) (pe_op op_add (pv 2) pe_int)))))
      (pss_one (ps_ret (pv 1)))), ?_⟩
    refine ⟨by show 1 ≤ sizeLine; decide, fun o ho => ?_⟩
    have s1 := same_new (o := .lst [.int 0]) ho
    have l4 := M.l400
    have l1 := M.l1
    refine ⟨_, _, rfl, ?_⟩
    refine while_by (fun σ H' => ∃ (ord : List Nat) (done : Rws) (y3 : Option V), σ = [some (.ref pr), some (.ref o), some (.int (done.length : Int)), y3] ∧ Same H H' ∧ H' o = some (.lst (ord.map natV)) ∧ NI rs L some ord ord done [] ∧ ∀ s ∈ ord, s < rs.length)
      (fun (σ : List (Option V)) (_ : Hp) => match σ[2]? with
        | some (some (V.int i)) => 401 - i.toNat
        | _ => 0) ⟨[0], [], none, rfl, s1, upd_same, ni_start rfl, fun s hs => by rw [List.mem_singleton.mp hs]; exact l1⟩ ?_ ?_
    · rintro σ H1 ⟨ord, done, y3, rfl, sm, h1, N, lt⟩
      have hol := nodup_len N.nd lt
      refine ⟨_, rfl, _, rfl, o, _, rfl, .inl (SqL.of h1), _, _, rfl, rfl, _, rfl, ite2 (fun hlt => ?_) fun hlt => ?_⟩
      · have hlt := of_decide_eq_true hlt
        rw [List.length_map] at hlt
        have hi : done.length < ord.length := by omega
        have hu : ord[done.length]? = some ord[done.length] := List.getElem?_eq_getElem hi
        have hmu := List.getElem_mem hi
        generalize ord[done.length] = u at *
        have hun := lt u hmu
        have hrow : rs[u]? = some rs[u] := List.getElem?_eq_getElem hun
        have hmr := List.getElem_mem hun
        generalize rs[u] = row at *
        have hrl := M.row row hmr
        have MM1 := MM.same sm
        obtain ⟨q, hq1, hq2⟩ := MM1.row u row hrow
        refine ⟨_, rfl, _, rfl, _, rfl, o, _, (done.length : Int), _, rfl, rfl, SqL.of h1, atI_nat (natV_get hu), pr, rvs, (u : Int), _, rfl, rfl, .inl MM1.hr, atI_nat hq1, q, rfl, ⟨_, .inl hq2⟩, ?_⟩
        refine for_tup (K := K) (a := q) (xs := row.map oV) (fun j σ H' => (∃ y3, σ = [some (.ref pr), some (.ref o), some (.int (done.length : Int)), y3]) ∧ Same H H' ∧ (∀ {a : Addr} {xs : List V}, Rd H1 a (.tup xs) → Rd H' a (.tup xs)) ∧ ∃ (ord' : List Nat) (nrow : List (Option Nat)), H' o = some (.lst (ord'.map natV)) ∧ NI rs L some ord' ord' done nrow ∧ nrow.length = j ∧ ord'[done.length]? = some u ∧ ∀ s ∈ ord', s < rs.length)
          ⟨⟨_, rfl⟩, sm, fun h => h, ord, [], h1, N, rfl, hu, lt⟩ (fun j σ H' _ p => .inl (p.2.2.1 hq2)) ?_ ?_
        · rintro j x σ H2 hx ⟨⟨y5, rfl⟩, sm2, rdk, ord', nrow, g1, N', ln, hu', lt'⟩
          rw [List.getElem?_map] at hx
          obtain ⟨tg, hj, rfl⟩ := Option.map_eq_some_iff.mp hx
          have enx := nx_row hrow hj
          rw [← ln] at enx
          refine ⟨_, rfl, _, rfl, ?_⟩
          cases tg with
          | none =>
            exact ⟨⟨_, rfl⟩, sm2, rdk, ord', nrow ++ [none], g1, N'.none_ (fun p t e1 e2 => by
              rw [hu'] at e1
              cases e1
              rw [enx] at e2
              cases e2), by rw [List.length_append, ln]; rfl, hu', lt'⟩
          | some v =>
            have hvn := M.tgt row hmr v (List.mem_of_getElem? hj)
            refine ⟨_, rfl, _, rfl, o, _, rfl, .inl (SqL.of g1), rfl, flat_nat, _, rfl, ?_⟩
            have enot : inV (oV (some v)) (ord'.map natV) = decide (v ∈ ord') := notIn_nat
            rw [enot]
            by_cases hin : v ∈ ord'
            · rw [decide_eq_true hin]
              obtain ⟨j', hj'⟩ := List.mem_iff_getElem?.mp hin
              exact ⟨⟨_, rfl⟩, sm2, rdk, ord', nrow ++ [some j'], g1, N'.some_ hu' enx rfl hj', by rw [List.length_append, ln]; rfl, hu', lt'⟩
            · rw [decide_eq_false hin]
              have N2 := N'.fresh hu' enx rfl hin
              have lt2 : ∀ s ∈ ord' ++ [v], s < rs.length := fun s hs => by
                rcases List.mem_append.mp hs with z | z
                · exact lt' s z
                · rw [List.mem_singleton.mp z]
                  exact hvn
              have hol2 := nodup_len N2.nd lt2
              rw [List.length_append, List.length_singleton] at hol2
              refine ⟨_, rfl, .inl ⟨rfl, _, SqL.of g1⟩, _, rfl, o, _, _, rfl, rfl, g1, small1000 (by rw [List.length_map]; omega), ?_⟩
              refine ⟨⟨_, rfl⟩, fun b z e => ?_, fun {a} {xs} h => ?_, ord' ++ [v], nrow ++ [some ord'.length], by rw [upd_same, List.map_append]; rfl, N2, by rw [List.length_append, ln]; rfl, ?_, lt2⟩
              · rw [upd_ne (ne_of_none e ho)]
                exact sm2 b z e
              · have h' := rdk h
                have na : a ≠ o := fun z => by
                  rw [z] at h'
                  rcases h' with h' | ⟨_, h'⟩ <;> (rw [g1] at h'; cases h')
                rcases h' with h' | ⟨ob, h'⟩
                · exact .inl (by rw [upd_ne na]; exact h')
                · exact .inr ⟨ob, by rw [upd_ne na]; exact h'⟩
              · rw [List.getElem?_append_left (List.getElem?_eq_some_iff.mp hu').1]
                exact hu'
        · rintro σ H2 ⟨⟨y5, rfl⟩, sm2, rdk, ord', nrow, g1, N', ln, hu', lt'⟩
          rw [List.length_map, hrl] at ln
          have N2 := N'.whole ln (List.getElem?_eq_some_iff.mp hu').1
          have hol2 := nodup_len N2.nd lt'
          have lo := (List.getElem?_eq_some_iff.mp hu').1
          refine ⟨_, rfl, _, _, rfl, rfl, ⟨ord', done ++ [nrow], y5, ?_, sm2, g1, N2, lt'⟩, ?_⟩
          · rw [List.length_append, List.length_singleton]
            rfl
          · show 401 - ((done.length : Int) + 1).toNat < 401 - (done.length : Int).toNat
            omega
      · have h9 : ¬ ((done.length : Int) < ((ord.map natV).length : Int)) := fun z => hlt (decide_eq_true z)
        rw [List.length_map] at h9
        have := N.lt
        exact ⟨_, rfl, k H1 o ord done sm ho h1 N (by omega) lt⟩
    · rintro σ H1 Q1 Q2 hQ ⟨x, e1, y, e2, p, ys, e3, e4, i, j, e5, e6, b, e7, q⟩
      exact ⟨x, e1, y, e2, p, ys, e3, e4, i, j, e5, e6, b, e7, hQ _ _ q⟩
end
/-! ### dicts that tell what is in them -/
section
variable {α κ : Type} [DecidableEq α] [DecidableEq κ] {f : α → κ}
def opG (f : α → κ) (ks : List α) : List (κ × V) := ks.map fun s => (f s, V.bl true)
theorem og_no {ks : List α} {k : α} (inj : ∀ a b, f a = f b → a = b) (h : k ∉ ks) : ∀ x ∈ opG f ks, ¬ (decide (x.1 = f k) = true) := fun x hx e => by
  obtain ⟨p, hp, rfl⟩ := List.mem_map.mp hx
  exact h (inj _ _ (of_decide_eq_true e) ▸ hp)
theorem og_val (inj : ∀ a b, f a = f b → a = b) : ∀ (ks : List α) (k : α), valV (opG f ks) (f k) = if k ∈ ks then some (.bl true) else none
  | [], k => rfl
  | p :: ks, k => by
    unfold valV opG
    rw [List.map_cons]
    by_cases e : p = k
    · subst e
      rw [List.find?_cons_of_pos (by exact decide_eq_true rfl), if_pos List.mem_cons_self]
      rfl
    · rw [List.find?_cons_of_neg (by rw [decide_eq_true_eq]; exact fun z => e (inj _ _ z))]
      have ih := og_val inj ks k
      unfold valV opG at ih
      rw [ih]
      by_cases m : k ∈ ks
      · rw [if_pos m, if_pos (List.mem_cons_of_mem _ m)]
      · rw [if_neg m, if_neg (fun z => by
          rcases List.mem_cons.mp z with z | z
          · exact e z.symm
          · exact m z)]
theorem og_some (inj : ∀ a b, f a = f b → a = b) (ks : List α) (k : α) : (valV (opG f ks) (f k)).isSome = decide (k ∈ ks) := by
  rw [og_val inj]
  by_cases m : k ∈ ks
  · rw [if_pos m, decide_eq_true m]
    rfl
  · rw [if_neg m, decide_eq_false m]
    rfl
theorem og_put {ks : List α} {k : α} (inj : ∀ a b, f a = f b → a = b) (h : k ∉ ks) : putK (opG f ks) (f k) (.bl true) = opG f (ks ++ [k]) := by
  unfold putK
  rw [if_neg (fun z => by
    obtain ⟨x, hx, e⟩ := List.any_eq_true.mp z
    exact og_no inj h x hx e)]
  unfold opG
  rw [List.map_append]
  rfl
theorem og_len {ks : List α} : (opG f ks).length = ks.length := List.length_map _
end
abbrev opK (ks : List Nat) : List (Key × V) := opG (fun s : Nat => (.inl (s : Int) : Key)) ks
abbrev hpK (ps : List (Nat × Nat)) : List (List Key × V) := opG (fun p : Nat × Nat => ([.inl (p.1 : Int), .inl (p.2 : Int)] : List Key)) ps
theorem opI : ∀ a b : Nat, (.inl (a : Int) : Key) = .inl (b : Int) → a = b := fun a b e => by
  have := Sum.inl.inj e
  omega
theorem hpI : ∀ a b : Nat × Nat, ([.inl (a.1 : Int), .inl (a.2 : Int)] : List Key) = [.inl (b.1 : Int), .inl (b.2 : Int)] → a = b := fun a b e => by
  have h1 := List.cons.inj e
  have h2 := List.cons.inj h1.2
  exact Prod.ext (opI _ _ h1.1) (opI _ _ h2.1)
theorem opK_merge : ∀ (more ks : List Nat), (ks ++ more).Nodup → mergeK (opK ks) (opK more) = opK (ks ++ more)
  | [], ks, _ => by rw [List.append_nil]; rfl
  | k :: more, ks, nd => by
    have hk : k ∉ ks := fun z => (List.nodup_append.mp nd).2.2 k z k List.mem_cons_self rfl
    have ih := opK_merge more (ks ++ [k]) (by rw [List.append_assoc]; exact nd)
    rw [List.append_assoc] at ih
    show mergeK (putK (opK ks) (.inl (k : Int)) (.bl true)) (opK more) = opK (ks ++ ([k] ++ more))
    rw [← ih]
    congr 1
    exact og_put opI hk
theorem paired_mem {α β : Type} {F G : α → β → Prop} : ∀ {l₁ : List α} {l₂ : List β}, Paired F l₁ l₂ → (∀ a ∈ l₁, ∀ b, F a b → G a b) → Paired G l₁ l₂
  | _, _, .nil, _ => .nil
  | _, _, .cons r t, f => .cons (f _ List.mem_cons_self _ r) (paired_mem t fun a ha => f a (List.mem_cons_of_mem _ ha))
def inO (ks : List Nat) : Option Nat → Bool
  | none => false
  | some t => decide (t ∈ ks)

/-! ### what is alive, by the law -/
section
variable {P : Program} {w : World} {K : PySem.W.Frag} {mg : Str → Option Value} {base : Heap}
theorem scOpen : FnScope ["_law_rows", "_law_ends", "_law_found", "_law_many", "_law_state", "_law_back", "_law_item"] ["_law_rows", "_law_ends"] (defScope sOpen) := ⟨rfl, rfl, rfl, by decide +kernel, rfl, by decide +kernel, by decide +kernel⟩
def spOpen : Sp := fun vs H Q _ => ∃ (L : Nat) (rs : Rows) (es : List Bool) (m pr pe : Addr) (rvs : List V), vs = [.ref pr, .ref pe] ∧ MOk L rs es ∧ MA H L rs es m pr pe rvs ∧
  ∀ (H' : Hp) (d : Addr) (ks : List Nat), Same H H' → H d = none → H' d = some (.dK (opK ks)) → (∀ s, s ∈ ks ↔ (s < rs.length ∧ Live rs es s)) → Q (.ref d) H'
theorem ok_open {f : Addr} {fd : FuncData} (F : Fun K "_law_open" "_law_open" sOpen f fd) (T : Mg mg) : FnOk P w K mg base CX0 1 f fd ["_law_rows", "_law_ends"] spOpen := by
  refine F.ok scOpen (fun vs H Q E h => ?_) (fun cdv A outer s H vs Q E hr h => ?_)
  · obtain ⟨L, rs, es, m, pr, pe, rvs, rfl, _⟩ := h
    rfl
  · obtain ⟨L, rs, es, m, pr, pe, rvs, rfl, M, MM, k⟩ := h
    have hu0 := hr.units0
    have hu1 := hu_of hr
    have l4 := M.l400
    have l1 := M.l1
    refine ⟨_, (pss_cons (ps_asg (pe_tup (pa_cons (pe_callTy (call_dictP rfl) (by rfl) T.dict (by decide +kernel) (pa_cons (pe_lc (own := [("_law_state", 4)]) (g := gName 4) rfl scOpen.nd (pi_range1 (by rfl) T.range (pa_cons (pe_callB (r := rLen K) call_len_seq (by rfl) T.len PySem.boot_len (pa_cons (pv 0) pa_nil)) pa_nil)) (blkOk_by (N := ["_law_rows", "_law_ends", "_law_found", "_law_many", "_law_state", "_law_back", "_law_item"]) (sc := defScope sOpen) (by decide +kernel)) (fun _ _ _ _ _ => pg_name (i := 4) scOpen.nd rfl (Or.inl rfl)) (fun _ _ _ _ _ => pts_one (pt_val (pe_ix (r := rIxT K) ix_tup (pv 1) (pv 4) (fun _ _ => rfl)))) (fun _ _ _ _ _ => (pe_tup (pa_cons (pv 4) (pa_cons pe_bl pa_nil))))) pa_nil)) (pa_cons (pe_un un_neg pe_int) pa_nil))) (pg_tup rfl (pgs_cons (pg_name (i := 2) scOpen.nd rfl (.inr rfl)) (pgs_cons (pg_name (i := 3) scOpen.nd rfl (.inl rfl)) pgs_nil))))
      (pss_cons (ps_while PassesOwn.never (pt_cmpR op_ne (pe_callB call_lenD (by rfl) T.len PySem.boot_len (pa_cons (pv 2) pa_nil)) (pv 3) (nomark _)) (pss_cons (ps_set (i := 3) scOpen.nd rfl (.inl rfl) (pe_callB call_lenD (by rfl) T.len PySem.boot_len (pa_cons (pv 2) pa_nil)))
      (pss_one (ps_for PassesOwn.never rfl (pi_range1 (by rfl) T.range (pa_cons (pe_callB (r := rLen K) call_len_seq (by rfl) T.len PySem.boot_len (pa_cons (pv 0) pa_nil)) pa_nil)) (pg_name (i := 5) scOpen.nd rfl (.inl rfl)) (pss_cons (ps_set (i := 4) scOpen.nd rfl (.inl rfl) (pe_op op_sub (pe_op op_sub (pe_callB (r := rLen K) call_len_seq (by rfl) T.len PySem.boot_len (pa_cons (pv 0) pa_nil)) pe_int) (pv 5)))
      (pss_one (ps_if (PW.pt (pw_and (pt_cmp (pc_dnotin hu1 (pv 4) (pv 2))) (pw_and1 (pt_cmpR (op_neNilL hu0) (pe_lc (own := [("_law_item", 6)]) (g := gName 6) rfl scOpen.nd (pi_tup (pe_ix (r := rIxT K) ix_tup (pv 0) (pv 4) (fun _ _ => rfl))) (blkOk_by (N := ["_law_rows", "_law_ends", "_law_found", "_law_many", "_law_state", "_law_back", "_law_item"]) (sc := defScope sOpen) (by decide +kernel)) (fun _ _ _ _ _ => pg_name (i := 6) scOpen.nd rfl (Or.inl rfl)) (fun _ _ _ _ _ => pts_one (pt_cmp (pc_dinN hu1 (pv 6) (pv 2)))) (fun _ _ _ _ _ => (pv 6))) (pe_lst pa_nil) (nomark _))))) (pss_one (ps_asg pe_bl (pg_sub (pv 2) (pv 4) (set_dict hu1)))) pss_nil)))))))
      (pss_one (ps_ret (pv 2))))), ?_⟩
    refine ⟨_, rfl, pr, rvs, rfl, .inr (.inl MM.hr), (rvs.length : Int), rfl, ?_, ?_, fun D hD => ?_⟩
    · rw [MM.hl]
      omega
    · rw [MM.hl]
      omega
    refine lc_range (lo := 0) (n := (rvs.length : Int).toNat) (fun j H' => Same H H' ∧ ∃ ps : List Addr, H' D = some (.lst (ps.map V.ref)) ∧ Paired (fun p kv => H' p = some (.tup [kV kv.1, kv.2])) ps (opK ((List.range j).filter fun s => es.getD s false)) ∧ (∀ p ∈ ps, p ≠ D) ∧ ps.length ≤ j) ?_ ?_ ?_
    · exact ⟨same_new hD, [], upd_same, .nil, (fun _ z => absurd z List.not_mem_nil), Nat.le_refl _⟩
    · rintro j H1 hj ⟨sm, ps, hD1, pp, nD, lp⟩
      rw [Int.toNat_natCast, MM.hl] at hj
      have e0 : (0 : Int) + (j : Int) = (j : Int) := Int.zero_add _
      have hej : es[j]? = some (es.getD j false) := by
        have : j < es.length := by rw [M.es]; exact hj
        rw [getD_at this, List.getElem?_eq_getElem this]
      refine ⟨rfl, _, rfl, _, rfl, pe, _, ((0 : Int) + j), .bl (es.getD j false), rfl, rfl, .inl (MM.same sm).he, ?_, ?_⟩
      · rw [e0]
        exact atI_nat (by rw [List.getElem?_map, hej]; rfl)
      have rs_ : (List.range (j + 1)).filter (fun s => es.getD s false) = (List.range j).filter (fun s => es.getD s false) ++ (if es.getD j false then [j] else []) := by
        rw [List.range_succ, List.filter_append]
        congr 1
        cases q : es.getD j false with
        | true => rw [List.filter_cons, if_pos q]; rfl
        | false => rw [List.filter_cons, if_neg (by rw [q]; exact Bool.false_ne_true)]; rfl
      refine ⟨_, rfl, ?_⟩
      cases q : es.getD j false with
      | true =>
        rw [q] at rs_
        refine ⟨_, rfl, (by show 2 ≤ sizeLine; decide), fun T2 hT => ?_⟩
        have hTD : T2 ≠ D := fun z => by rw [z, hD1] at hT; cases hT
        refine ⟨_, by rw [upd_ne hTD.symm]; exact hD1, small1000 (by rw [List.length_map]; omega), fun b o e => ?_, ps ++ [T2], by rw [upd_same, List.map_append]; rfl, ?_, fun p hp => ?_, by rw [List.length_append, List.length_singleton]; omega⟩
        · rw [upd_ne (ne_of_none e hD)]
          have h1 := sm _ _ e
          rw [upd_ne (ne_of_none h1 hT)]
          exact h1
        · rw [rs_, if_pos rfl]
          show Paired _ (ps ++ [T2]) (List.map _ (_ ++ _))
          rw [List.map_append]
          refine Paired.snoc ?_ ?_
          · refine paired_mem pp fun p hp kv e => ?_
            rw [upd_ne (nD p hp), upd_ne (ne_of_none e hT)]
            exact e
          · rw [upd_ne hTD, upd_same]
            show some (HO.tup [V.int (0 + (j : Int)), V.bl true]) = some (HO.tup [V.int (j : Int), V.bl true])
            rw [e0]
        · rcases List.mem_append.mp hp with z | z
          · exact nD p z
          · rw [List.mem_singleton.mp z]
            exact hTD
      | false =>
        rw [q] at rs_
        refine ⟨sm, ps, hD1, ?_, nD, by omega⟩
        rw [rs_, if_neg Bool.false_ne_true, List.append_nil]
        exact pp
    · rintro H1 ⟨sm, ps, hD1, pp, nD, lp⟩
      rw [Int.toNat_natCast, MM.hl] at pp
      refine ⟨D, ps, _, rfl, SqL.of hD1, paired_mem pp (fun p _ kv e => SqT.of e), fun d hd => ?_⟩
      have em := opK_merge ((List.range rs.length).filter fun s => es.getD s false) [] (List.Pairwise.filter _ List.nodup_range)
      have em : mergeK [] (opK ((List.range rs.length).filter fun s => es.getD s false)) = opK ((List.range rs.length).filter fun s => es.getD s false) := em
      rw [em]
      have s1 : Same H (upd H1 d (.dK (opK ((List.range rs.length).filter fun s => es.getD s false)))) := sm.trans (same_new hd)
      have hd1 : (upd H1 d (.dK (opK ((List.range rs.length).filter fun s => es.getD s false)))) d = some (.dK (opK ((List.range rs.length).filter fun s => es.getD s false))) := upd_same
      have d0 : H d = none := sm.free hd
      have nd0 : ((List.range rs.length).filter fun s => es.getD s false).Nodup := List.Pairwise.filter _ List.nodup_range
      have in0 : ∀ s, s ∈ ((List.range rs.length).filter fun s => es.getD s false) ↔ (s < rs.length ∧ es.getD s false = true) := fun s => by
        rw [List.mem_filter, List.mem_range]
      clear em pp hD1 hd
      generalize (List.range rs.length).filter (fun s => es.getD s false) = ks0 at *
      generalize upd H1 d (.dK (opK ks0)) = H2 at *
      refine ⟨_, rfl, by show 2 ≤ sizeLine; decide, fun T2 hT => ?_⟩
      refine ⟨T2, _, rfl, SqT.of upd_same, rfl, _, _, rfl, _, _, rfl, rfl, ?_⟩
      have s3 : Same H (upd H2 T2 (.tup [.ref d, .int (-1)])) := s1.trans (same_new hT)
      have hd3 : (upd H2 T2 (.tup [.ref d, .int (-1)])) d = some (.dK (opK ks0)) := same_new hT _ _ hd1
      clear s1 hd1 hT
      generalize upd H2 T2 (.tup [.ref d, .int (-1)]) = H3 at *
      refine while_by (fun σ H' => ∃ (ks : List Nat) (many : Int) (y4 y5 y6 : Option V), σ = [some (.ref pr), some (.ref pe), some (.ref d), some (.int many), y4, y5, y6] ∧ Same H H' ∧ H' d = some (.dK (opK ks)) ∧ ks.Nodup ∧ (∀ s ∈ ks, s < rs.length ∧ Live rs es s) ∧ (∀ s, s < rs.length → es.getD s false = true → s ∈ ks) ∧ -1 ≤ many ∧ many ≤ ks.length ∧ (many = ks.length → ∀ s c t, s < rs.length → nx rs s c = some t → t ∈ ks → s ∈ ks))
        (fun (σ : List (Option V)) (_ : Hp) => match σ[3]? with
          | some (some (V.int i)) => (401 - i).toNat
          | _ => 0) ⟨ks0, -1, _, _, _, rfl, s3, hd3, nd0, fun s hs => ?_, fun s h1 h2 => (in0 s).mpr ⟨h1, h2⟩, Int.le_refl _, by omega, fun z => by omega⟩ ?_ ?_
      · have := (in0 s).mp hs
        exact ⟨this.1, live_end this.2⟩
      · rintro σ H4 ⟨ks, many, y4, y5, y6, rfl, s4, hd4, nd, lv, en, b1, b2, cl⟩
        have lk := nodup_len nd (fun s hs => (lv s hs).1)
        refine ⟨_, rfl, d, _, rfl, hd4, _, rfl, rfl, _, rfl, ite2 (fun h => ?_) (fun h => ?_)⟩
        · refine ⟨_, rfl, d, _, rfl, hd4, ?_⟩
          refine ⟨_, rfl, pr, rvs, rfl, .inr (.inl (MM.same s4).hr), (rvs.length : Int), rfl, by rw [MM.hl]; omega, by rw [MM.hl]; omega, ?_⟩
          have hne : ¬ many = (ks.length : Int) := fun z => by
            exact of_decide_eq_false (not_cases h) (by rw [z, og_len])
          refine for_range (lo := 0) (n := (rvs.length : Int).toNat) (fun i σ H' => ∃ (ks' : List Nat) (y4 y5 y6 : Option V), σ = [some (.ref pr), some (.ref pe), some (.ref d), some (.int (ks.length : Int)), y4, y5, y6] ∧ Same H H' ∧ H' d = some (.dK (opK ks')) ∧ ks'.Nodup ∧ (∀ s ∈ ks', s < rs.length ∧ Live rs es s) ∧ (∀ s, s < rs.length → es.getD s false = true → s ∈ ks') ∧ ks.length ≤ ks'.length ∧ (ks'.length = ks.length → ∀ s c t, rs.length ≤ s + i → s < rs.length → nx rs s c = some t → t ∈ ks' → s ∈ ks'))
            ⟨ks, _, _, _, by rw [og_len]; rfl, s4, hd4, nd, lv, en, Nat.le_refl _, fun _ s c t h1 h2 => by omega⟩ ?_ ?_
          · rintro i σ H5 hi ⟨ks', y4', y5', y6', rfl, s5, hd5, nd', lv', en', b1', cl'⟩
            rw [Int.toNat_natCast, MM.hl] at hi
            have MM5 := MM.same s5
            have ez : (rvs.length : Int) - 1 - (0 + (i : Int)) = ((rs.length - 1 - i : Nat) : Int) := by
              rw [MM.hl]
              omega
            refine ⟨_, rfl, pr, rvs, rfl, .inr (.inl MM5.hr), _, _, rfl, rfl, _, rfl, _, _, rfl, rfl, ?_⟩
            dsimp only
            rw [ez]
            obtain ⟨s, hs⟩ : ∃ s, s = rs.length - 1 - i := ⟨_, rfl⟩
            rw [← hs]
            have hsn : s < rs.length := by omega
            refine ⟨_, rfl, _, rfl, d, _, rfl, DGet.k (k := .inl (s : Int)) hd5, _, rfl, ?_⟩
            rw [og_some opI]
            by_cases hin : s ∈ ks'
            · rw [decide_eq_true hin]
              refine ⟨ks', _, _, _, rfl, s5, hd5, nd', lv', en', b1', fun e s' c t h1 h2 h3 h4 => ?_⟩
              by_cases z : s' = s
              · rw [z]
                exact hin
              · exact cl' e s' c t (by omega) h2 h3 h4
            · rw [decide_eq_false hin]
              obtain ⟨row, hrow⟩ : ∃ row, rs[s]? = some row := ⟨_, List.getElem?_eq_getElem hsn⟩
              have hmr := List.mem_of_getElem? hrow
              have hrl := M.row row hmr
              obtain ⟨q, hq1, hq2⟩ := MM5.row s row hrow
              refine ⟨_, rfl, _, rfl, pr, rvs, (s : Int), _, rfl, rfl, .inl MM5.hr, atI_nat hq1, q, rfl, ⟨_, .inl hq2⟩, fun D hD => ?_⟩
              refine lc_tup (K := K) (a := q) (xs := row.map oV) (KInv (fun o : Option Nat => inO ks' o) oV row H5 D) (kstart hD) (fun i H' _ p => .inl (same_rd p.1 hq2)) ?_ ?_
              · rintro j x H6 hx p1
                rw [List.getElem?_map] at hx
                obtain ⟨tg, hj, rfl⟩ := Option.map_eq_some_iff.mp hx
                have hd6 := p1.1 _ _ hd5
                have L3 := M.L3
                refine ⟨rfl, _, rfl, _, rfl, ?_⟩
                cases tg with
                | none => exact .inr ⟨d, _, rfl, rfl, .inl hd6, _, rfl, kno (t := fun o : Option Nat => inO ks' o) hj rfl p1 (Same.refl _)⟩
                | some t =>
                  refine .inl ⟨d, _, rfl, DGet.k (k := .inl (t : Int)) hd6, _, rfl, ?_⟩
                  rw [og_some opI]
                  by_cases ht : t ∈ ks'
                  · rw [decide_eq_true ht]
                    exact ⟨_, rfl, kyes (t := fun o : Option Nat => inO ks' o) (small1000 (by omega)) hD hj (decide_eq_true ht) p1 (Same.refl _)⟩
                  · rw [decide_eq_false ht]
                    exact kno (t := fun o : Option Nat => inO ks' o) hj (decide_eq_false ht) p1 (Same.refl _)
              · rintro H6 p1
                obtain ⟨s6, hl6⟩ := kend (List.length_map _) p1
                refine ⟨by show 0 ≤ sizeLine; decide, fun e0 he0 => ?_⟩
                have s7 := s6.trans (same_new (o := .lst []) he0)
                have hl7 := same_new (o := .lst []) he0 _ _ hl6
                have hd7 := s7 _ _ hd5
                refine ⟨D, e0, _, rfl, rfl, SqL.of hl7, SqL.of upd_same, _, rfl, ?_⟩
                have s57 := s5.trans s7
                have lk' := nodup_len nd' (fun s hs => (lv' s hs).1)
                clear hl7 hl6 p1
                generalize upd H6 e0 (.lst []) = H7 at *
                by_cases he : row.filter (fun o => inO ks' o) = []
                · rw [he]
                  refine ⟨ks', _, _, _, rfl, s57, hd7, nd', lv', en', b1', fun e s' c t h1 h2 h3 h4 => ?_⟩
                  by_cases z : s' = s
                  · subst z
                    exfalso
                    have hm : some t ∈ row := by
                      unfold nx at h3
                      rw [List.getD_eq_getElem?_getD, List.getD_eq_getElem?_getD, hrow] at h3
                      have h3 : (row[c]?).getD none = some t := h3
                      cases q : row[c]? with
                      | none => rw [q] at h3; cases h3
                      | some x =>
                        rw [q] at h3
                        have h3 : x = some t := h3
                        rw [h3] at q
                        exact List.mem_of_getElem? q
                    have : some t ∈ row.filter (fun o => inO ks' o) := List.mem_filter.mpr ⟨hm, decide_eq_true h4⟩
                    rw [he] at this
                    exact List.not_mem_nil this
                  · exact cl' e s' c t (by omega) h2 h3 h4
                · have hne : (!decide ((row.filter (fun o => inO ks' o)).map oV = [])) = true := by
                    rw [decide_eq_false (fun z => he (List.map_eq_nil_iff.mp z))]
                    rfl
                  rw [hne]
                  have dp := DPut.k (k := .inl (s : Int)) (v := .bl true) hd7 (small1000 (by rw [og_len]; omega))
                  rw [og_put opI hin] at dp
                  refine ⟨_, rfl, _, rfl, d, _, rfl, dp, ks' ++ [s], _, _, _, rfl, fun b o e => ?_, upd_same, ?_, fun x hx => ?_, fun x h1 h2 => List.mem_append.mpr (.inl (en' x h1 h2)), by rw [List.length_append]; omega, fun e => ?_⟩
                  · rw [upd_ne (ne_of_none e d0)]
                    exact s57 _ _ e
                  · rw [List.nodup_append]
                    exact ⟨nd', List.nodup_cons.mpr ⟨List.not_mem_nil, List.nodup_nil⟩, fun x hx y hy z => hin (by rw [← List.mem_singleton.mp hy, ← z]; exact hx)⟩
                  · rcases List.mem_append.mp hx with z | z
                    · exact lv' x z
                    · rw [List.mem_singleton.mp z]
                      obtain ⟨o, ho⟩ := List.exists_mem_of_ne_nil _ he
                      obtain ⟨h1, h2⟩ := List.mem_filter.mp ho
                      cases o with
                      | none => cases h2
                      | some t =>
                        obtain ⟨c, hc⟩ := List.mem_iff_getElem?.mp h1
                        exact ⟨hsn, live_on (nx_row hrow hc) (lv' t (of_decide_eq_true h2)).2⟩
                  · rw [List.length_append, List.length_singleton] at e
                    omega
          · rintro σ H5 ⟨ks', y4', y5', y6', rfl, s5, hd5, nd', lv', en', b1', cl'⟩
            rw [Int.toNat_natCast, MM.hl] at cl'
            have lk' := nodup_len nd' (fun s hs => (lv' s hs).1)
            refine ⟨⟨ks', _, _, _, _, rfl, s5, hd5, nd', lv', en', by omega, by omega, fun e s c t h1 => cl' (by omega) s c t (by omega) h1⟩, ?_⟩
            show (401 - (ks.length : Int)).toNat < (401 - many).toNat
            omega
        · have e := of_decide_eq_true (not_cases' h)
          rw [og_len] at e
          have e : many = (ks.length : Int) := (V.int.inj e).symm
          refine ⟨_, rfl, k H4 d ks s4 d0 hd4 fun s => ⟨lv s, fun q => ?_⟩⟩
          exact (open_done (F := fun s => s ∈ ks) M.tgt M.row (fun s hs => (lv s hs).2) en (cl e) s q.1).mpr q.2
      · rintro σ H1 Q1 Q2 hQ ⟨x, e1, a, kvs, e2, e3, y, e4, e5, b, e6, q⟩
        exact ⟨x, e1, a, kvs, e2, e3, y, e4, e5, b, e6, hQ _ _ q⟩
end
/-! ### pairs told apart, by the law -/
theorem inO_lvs {L : Nat} {rs : Rows} {es : List Bool} {ks : List Nat} {row : List (Option Nat)} {o : Option Nat} (M : MOk L rs es) (lv : ∀ s, s ∈ ks ↔ (s < rs.length ∧ Live rs es s)) (hr : row ∈ rs) (ho : o ∈ row) : inO ks o = true ↔ Lvs rs es o := by
  cases o with
  | none => exact ⟨(fun z => by cases z), fun z => z.elim⟩
  | some t =>
    have ht := M.tgt row hr t ho
    show decide (t ∈ ks) = true ↔ Live rs es t
    rw [decide_eq_true_eq, lv]
    exact ⟨fun z => z.2, fun z => ⟨ht, z⟩⟩
theorem nx_off {L : Nat} {rs : Rows} {es : List Bool} (M : MOk L rs es) {s c : Nat} (h : L ≤ c) : nx rs s c = none := by
  cases e : nx rs s c with
  | none => rfl
  | some t =>
    have := (nx_lt M.row e).2.1
    omega
theorem tdinN {i j : Nat} {σ : L2.St} {H : Hp} {Q : VK} {al : Addr} {ks : List Nat} {o : Option Nat} (hi : tVar i σ H fun v H' => v = oV o ∧ H' = H) (hj : tVar j σ H fun v H' => v = .ref al ∧ H' = H) (h : H al = some (.dK (opK ks))) (q : Q (.bl (inO ks o)) H) : tDInN (tVar i) (tVar j) σ H Q := by
  obtain ⟨v, e1, rfl, _⟩ := hi
  obtain ⟨x, e2, rfl, _⟩ := hj
  refine ⟨_, e1, _, e2, ?_⟩
  cases o with
  | none => exact .inr ⟨al, _, rfl, rfl, .inl h, q⟩
  | some t =>
    refine .inl ⟨al, _, rfl, DGet.k (k := .inl (t : Int)) h, ?_⟩
    rw [og_some opI]
    exact q
theorem og_yes {α κ : Type} [DecidableEq α] [DecidableEq κ] {f : α → κ} (inj : ∀ a b, f a = f b → a = b) {ks : List α} {k : α} (h : k ∈ ks) : (valV (opG f ks) (f k)).isSome = true := by
  rw [og_val inj, if_pos h]
  rfl
theorem og_nob {α κ : Type} [DecidableEq α] [DecidableEq κ] {f : α → κ} (inj : ∀ a b, f a = f b → a = b) {ks : List α} {k : α} (h : k ∉ ks) : (valV (opG f ks) (f k)).isSome = false := by
  rw [og_val inj, if_neg h]
  rfl

theorem walk_zipT {K : PySem.W.Frag} {a b : Addr} {xs ys : List V} {n : Nat} (e1 : xs.length = n) (e2 : ys.length = n) : Walk (RZ.ItzT K a b) n (fun H => SqT K H a xs ∧ SqT K H b ys) (YPair (fun i => xs[i]?) (fun i => ys[i]?)) := by
  refine ⟨fun i _ hi q => ⟨xs, ys, xs[i]'(by omega), ys[i]'(by omega), q.1, q.2, by simp, by simp⟩, fun _ q => ⟨xs, ys, q.1, q.2, by omega⟩, fun i H v H' _ q y => ?_⟩
  obtain ⟨T, x, z, h1, h2, h3, h4, h5⟩ := y
  exact ⟨T, x, z, h1, h2, h3, h4 xs q.1, h5 ys q.2⟩

section
variable {P : Program} {w : World} {K : PySem.W.Frag} {mg : Str → Option Value} {base : Heap}
theorem scApart : FnScope ["_law_rows", "_law_ends", "_law_alive", "_law_held", "_law_pair", "_law_one_here", "_law_other", "_law_first", "_law_second"] ["_law_rows", "_law_ends", "_law_alive", "_law_held", "_law_pair"] (defScope sApart) := ⟨rfl, rfl, rfl, by decide +kernel, rfl, by decide +kernel, by decide +kernel⟩
def spApart : Sp := fun vs H Q _ => ∃ (L : Nat) (rs : Rows) (es : List Bool) (m pr pe : Addr) (rvs : List V) (al hd pa : Addr) (ks : List Nat) (ps : List (Nat × Nat)) (a b : Nat), vs = [.ref pr, .ref pe, .ref al, .ref hd, .ref pa] ∧ MOk L rs es ∧ MA H L rs es m pr pe rvs ∧
  H al = some (.dK (opK ks)) ∧ H hd = some (.dT (hpK ps)) ∧ H pa = some (.tup [natV a, natV b]) ∧ a < rs.length ∧ b < rs.length ∧ (∀ s, s ∈ ks ↔ (s < rs.length ∧ Live rs es s)) ∧
  ∀ (H' : Hp) (t : Bool), Same H H' → (t = true ↔ Apart rs es (fun p q => (p, q) ∈ ps) a b) → Q (.bl t) H'
theorem ok_apart {f : Addr} {fd : FuncData} (F : Fun K "_law_are_apart" "_law_are_apart" sApart f fd) (T : Mg mg) : FnOk P w K mg base CX0 1 f fd ["_law_rows", "_law_ends", "_law_alive", "_law_held", "_law_pair"] spApart := by
  refine F.ok scApart (fun vs H Q E h => ?_) (fun cdv A outer s H vs Q E hr h => ?_)
  · obtain ⟨L, rs, es, m, pr, pe, rvs, al, hd, pa, ks, ps, a, b, rfl, _⟩ := h
    rfl
  · obtain ⟨L, rs, es, m, pr, pe, rvs, al, hd, pa, ks, ps, a, b, rfl, M, MM, hal, hhd, hpa, la, lb, lv, k⟩ := h
    have hu0 := hr.units0
    have hu1 := hu_of hr
    refine ⟨_, (pss_cons (ps_asg (pv 4) (pg_tup rfl (pgs_cons (pg_name (i := 5) scApart.nd rfl (.inl rfl)) (pgs_cons (pg_name (i := 6) scApart.nd rfl (.inl rfl)) pgs_nil))))
      (pss_cons (ps_if (pt_cmpR op_ne (pe_ix (r := rIxT K) ix_tup (pv 1) (pv 5) (fun _ _ => rfl)) (pe_ix (r := rIxT K) ix_tup (pv 1) (pv 6) (fun _ _ => rfl)) (nomark _)) (pss_one (ps_ret pe_bl)) pss_nil)
      (pss_cons (ps_for PassesOwn.never rfl (RZ.pi_zipA (by rfl) T.zip (pa_cons (pe_ix (r := rIxT K) ix_tup (pv 0) (pv 5) (fun _ _ => rfl)) (pa_cons (pe_ix (r := rIxT K) ix_tup (pv 0) (pv 6) (fun _ _ => rfl)) pa_nil))) (pg_tup rfl (pgs_cons (pg_name (i := 7) scApart.nd rfl (.inl rfl)) (pgs_cons (pg_name (i := 8) scApart.nd rfl (.inl rfl)) pgs_nil))) (pss_one (ps_if (PW.pt (pw_or (pt_cmpR op_ne (pe_cmp (pc_dinN hu1 (pv 7) (pv 2))) (pe_cmp (pc_dinN hu1 (pv 8) (pv 2))) (nomark _)) (pw_or1 (PW.pt (pw_and (pt_cmp (pc_dinN hu1 (pv 7) (pv 2))) (pw_and1 (pt_cmp (pc_din hu1 (pe_tup (pa_cons (pv 7) (pa_cons (pv 8) pa_nil))) (pv 3))))))))) (pss_one (ps_ret pe_bl)) pss_nil)))
      (pss_one (ps_ret pe_bl))))), ?_⟩
    obtain ⟨ra, hra⟩ : ∃ row, rs[a]? = some row := ⟨_, List.getElem?_eq_getElem la⟩
    obtain ⟨rb, hrb⟩ : ∃ row, rs[b]? = some row := ⟨_, List.getElem?_eq_getElem lb⟩
    have mra := List.mem_of_getElem? hra
    have mrb := List.mem_of_getElem? hrb
    have lra := M.row ra mra
    have lrb := M.row rb mrb
    obtain ⟨qa, qa1, qa2⟩ := MM.row a ra hra
    obtain ⟨qb, qb1, qb2⟩ := MM.row b rb hrb
    have hes : ∀ {x : Nat}, x < rs.length → (es.map V.bl)[x]? = some (.bl (es.getD x false)) := fun {x} lx => by
      have : x < es.length := by rw [M.es]; exact lx
      rw [List.getElem?_map, getD_at this, List.getElem?_eq_getElem this]
      rfl
    refine ⟨_, rfl, pa, _, rfl, SqT.of hpa, rfl, _, _, rfl, _, _, rfl, rfl, ?_⟩
    refine ⟨_, rfl, _, rfl, pe, _, (a : Int), _, rfl, rfl, .inl MM.he, atI_nat (hes la), _, rfl, _, rfl, pe, _, (b : Int), _, rfl, rfl, .inl MM.he, atI_nat (hes lb), rfl, _, rfl, ite2 (fun h => ?_) (fun h => ?_)⟩
    · have h := of_decide_eq_false (not_cases h)
      exact k H true (Same.refl _) ⟨fun _ => ⟨.inl fun z => h (by rw [z])⟩, fun _ => rfl⟩
    · have ee := V.bl.inj (of_decide_eq_true (not_cases' h))
      refine ⟨_, rfl, _, rfl, pr, rvs, (a : Int), _, rfl, rfl, .inl MM.hr, atI_nat qa1, _, rfl, _, rfl, pr, rvs, (b : Int), _, rfl, rfl, .inl MM.hr, atI_nat qb1, qa, qb, _, _, rfl, .inr ⟨.inl qa2, .inl qb2, ?_⟩⟩
      refine for_it (walk_zipT (a := qa) (b := qb) (xs := ra.map oV) (ys := rb.map oV) (n := L) (by rw [List.length_map]; exact lra) (by rw [List.length_map]; exact lrb)) (fun i σ H' => (∃ y7 y8, σ = [some (.ref pr), some (.ref pe), some (.ref al), some (.ref hd), some (.ref pa), some (.int (a : Int)), some (.int (b : Int)), y7, y8]) ∧ Same H H' ∧ ∀ c, c < i → ¬ (¬ (Lvs rs es (nx rs a c) ↔ Lvs rs es (nx rs b c)) ∨ ∃ p q, nx rs a c = some p ∧ nx rs b c = some q ∧ Live rs es p ∧ (p, q) ∈ ps))
        ⟨⟨_, _, rfl⟩, Same.refl _, fun c h => by omega⟩ (fun i σ H' _ p => ⟨.inl (same_rd p.2.1 qa2), .inl (same_rd p.2.1 qb2)⟩) ?_ ?_
      · rintro i x σ H1 H2 hi ⟨⟨y7, y8, rfl⟩, s1, no⟩ ⟨T2, xa, xb, rfl, hT, rfl, hxa, hxb⟩
        have hxa : (ra.map oV)[i]? = some xa := hxa
        have hxb : (rb.map oV)[i]? = some xb := hxb
        rw [List.getElem?_map] at hxa hxb
        obtain ⟨fa, hfa, rfl⟩ := Option.map_eq_some_iff.mp hxa
        obtain ⟨fb, hfb, rfl⟩ := Option.map_eq_some_iff.mp hxb
        have na := nx_row hra hfa
        have nb := nx_row hrb hfb
        have iA := inO_lvs M lv mra (List.mem_of_getElem? hfa)
        have iB := inO_lvs M lv mrb (List.mem_of_getElem? hfb)
        have s2 : Same H (upd H1 T2 (.tup [oV fa, oV fb])) := s1.trans (same_new hT)
        have g2 : (upd H1 T2 (.tup [oV fa, oV fb])) T2 = some (.tup [oV fa, oV fb]) := upd_same
        clear hT
        generalize upd H1 T2 (.tup [oV fa, oV fb]) = H2 at *
        have hal2 := s2 _ _ hal
        have hhd2 := s2 _ _ hhd
        refine ⟨T2, _, rfl, SqT.of g2, rfl, _, _, rfl, _, _, rfl, rfl, ?_⟩
        dsimp only [tIfS, tOr, tTest, tOp, tAnd, tB]
        refine tdinN (o := fa) ⟨_, rfl, rfl, rfl⟩ ⟨_, rfl, rfl, rfl⟩ hal2 ?_
        refine tdinN (o := fb) ⟨_, rfl, rfl, rfl⟩ ⟨_, rfl, rfl, rfl⟩ hal2 ?_
        refine ⟨rfl, _, rfl, ?_⟩
        have more : ¬ (¬ (Lvs rs es (nx rs a i) ↔ Lvs rs es (nx rs b i)) ∨ ∃ p q, nx rs a i = some p ∧ nx rs b i = some q ∧ Live rs es p ∧ (p, q) ∈ ps) → ∀ c, c < i + 1 → ¬ (¬ (Lvs rs es (nx rs a c) ↔ Lvs rs es (nx rs b c)) ∨ ∃ p q, nx rs a c = some p ∧ nx rs b c = some q ∧ Live rs es p ∧ (p, q) ∈ ps) := fun h c hc => by
          by_cases z : c = i
          · rw [z]
            exact h
          · exact no c (by omega)
        have yes : (¬ (Lvs rs es (nx rs a i) ↔ Lvs rs es (nx rs b i)) ∨ ∃ p q, nx rs a i = some p ∧ nx rs b i = some q ∧ Live rs es p ∧ (p, q) ∈ ps) → ∀ H', Same H H' → Q (.bl true) H' := fun h H' s' => k H' true s' ⟨fun _ => ⟨.inr ⟨i, h⟩⟩, fun _ => rfl⟩
        rw [na, nb] at more yes
        cases eA : inO ks fa with
        | false =>
          have nA : ¬ Lvs rs es fa := fun z => by
            rw [iA.mpr z] at eA
            cases eA
          cases eB : inO ks fb with
          | true => exact yes (.inl fun z => nA (z.mpr (iB.mp eB))) H2 s2
          | false =>
            have nB : ¬ Lvs rs es fb := fun z => by
              rw [iB.mpr z] at eB
              cases eB
            rw [if_neg (by decide : ¬ (!decide (V.bl false = V.bl false)) = true)]
            refine tdinN (o := fa) ⟨_, rfl, rfl, rfl⟩ ⟨_, rfl, rfl, rfl⟩ hal2 ?_
            rw [eA]
            refine ⟨_, rfl, ⟨_, _, rfl⟩, s2, more fun z => ?_⟩
            rcases z with z | ⟨p, q, e1, _, e3, _⟩
            · exact z ⟨fun y => absurd y nA, fun y => absurd y nB⟩
            · rw [e1] at nA
              exact nA e3
        | true =>
          have yA := iA.mp eA
          cases eB : inO ks fb with
          | false => exact yes (.inl fun z => by
              rw [iB.mpr (z.mp yA)] at eB
              cases eB) H2 s2
          | true =>
            have yB := iB.mp eB
            rw [if_neg (by decide : ¬ (!decide (V.bl true = V.bl true)) = true)]
            refine tdinN (o := fa) ⟨_, rfl, rfl, rfl⟩ ⟨_, rfl, rfl, rfl⟩ hal2 ?_
            rw [eA]
            cases fa with
            | none => exact yA.elim
            | some p =>
            cases fb with
            | none => exact yB.elim
            | some q =>
            refine ⟨_, rfl, _, rfl, _, rfl, by show 2 ≤ sizeLine; decide, fun T3 hT3 => ?_⟩
            have s3 := s2.trans (same_new (o := .tup [oV (some p), oV (some q)]) hT3)
            have hhd3 := same_new (o := .tup [oV (some p), oV (some q)]) hT3 _ _ hhd2
            refine ⟨_, rfl, hd, _, rfl, DGet.t (k := [.inl (p : Int), .inl (q : Int)]) hhd3 upd_same, _, rfl, ?_⟩
            by_cases hin : (p, q) ∈ ps
            · rw [og_yes (k := (p, q)) hpI hin]
              exact yes (.inr ⟨p, q, rfl, rfl, yA, hin⟩) _ s3
            · rw [og_nob (k := (p, q)) hpI hin]
              refine ⟨⟨_, _, rfl⟩, s3, more fun z => ?_⟩
              rcases z with z | ⟨p', q', e1, e2, _, e4⟩
              · exact z ⟨fun _ => yB, fun _ => yA⟩
              · cases e1
                cases e2
                exact hin e4
      · rintro σ H1 ⟨⟨y7, y8, rfl⟩, s1, no⟩
        refine k H1 false s1 ⟨(fun z => by cases z), fun z => ?_⟩
        rcases z.it with z | ⟨c, z⟩
        · exact absurd ee z
        · rcases Nat.lt_or_ge c L with q | q
          · exact absurd z (no c q)
          · rw [nx_off M q, nx_off M q] at z
            rcases z with z | ⟨_, _, z, _⟩
            · exact absurd Iff.rfl z
            · cases z
end
/-! ### the law's least machine -/
theorem pairs_len {n : Nat} {ps : List (Nat × Nat)} (nd : ps.Nodup) (h : ∀ p ∈ ps, p.1 < n ∧ p.2 < n) : ps.length ≤ n * n := by
  have h1 : (ps.map fun p => p.1 * n + p.2).Nodup := by
    refine List.pairwise_map.mpr (nd.imp_of_mem fun {a b} ha hb ne e => ne ?_)
    obtain ⟨a1, a2⟩ := h a ha
    obtain ⟨b1, b2⟩ := h b hb
    have e1 : (a.1 * n + a.2) / n = (b.1 * n + b.2) / n := by rw [e]
    have np : 0 < n := by omega
    rw [Nat.mul_comm, Nat.mul_add_div np, Nat.div_eq_of_lt a2, Nat.mul_comm b.1, Nat.mul_add_div np, Nat.div_eq_of_lt b2, Nat.add_zero, Nat.add_zero] at e1
    have e2 : a.2 = b.2 := by
      rw [e1] at e
      exact Nat.add_left_cancel e
    exact Prod.ext e1 e2
  have := nodup_len (n := n * n) h1 fun x hx => by
    obtain ⟨p, hp, rfl⟩ := List.mem_map.mp hx
    obtain ⟨a1, a2⟩ := h p hp
    have : (p.1 + 1) * n ≤ n * n := Nat.mul_le_mul_right n a1
    rw [Nat.add_mul, Nat.one_mul] at this
    omega
  rwa [List.length_map] at this
theorem met_up {found : List Nat} (nd : found.Nodup) (f : Nat → Bool) : (found.filter f).Pairwise fun a b => found.idxOf a < found.idxOf b := by
  refine List.Pairwise.filter f (List.pairwise_iff_getElem.mpr fun i j hi hj l => ?_)
  rw [idx_at nd (List.getElem?_eq_getElem hi), idx_at nd (List.getElem?_eq_getElem hj)]
  exact l
/-- where an item of a row goes, among the heads -/
def sameL (ks heads : List Nat) (ps : List (Nat × Nat)) : Option Nat → List Nat
  | none => []
  | some t => (List.range heads.length).filter fun j => decide (t ∈ ks) && !decide ((heads.getD j 0, t) ∈ ps)
def entO (ks heads : List Nat) (ps : List (Nat × Nat)) (o : Option Nat) : Option Nat := (sameL ks heads ps o).head?
theorem ent_row {ks heads : List Nat} {ps : List (Nat × Nat)} {row : List (Option Nat)} {c : Nat} : (row.map (entO ks heads ps)).getD c none = entO ks heads ps (row.getD c none) := by
  rw [List.getD_eq_getElem?_getD, List.getD_eq_getElem?_getD, List.getElem?_map]
  cases row[c]? with
  | none => rfl
  | some x => rfl
theorem ent_some {ks heads : List Nat} {ps : List (Nat × Nat)} {o : Option Nat} {j : Nat} (h : entO ks heads ps o = some j) : ∃ t q, o = some t ∧ t ∈ ks ∧ heads[j]? = some q ∧ (q, t) ∉ ps := by
  have hm : j ∈ sameL ks heads ps o := List.mem_of_head? h
  cases o with
  | none => exact absurd hm List.not_mem_nil
  | some t =>
    obtain ⟨h1, h2⟩ := List.mem_filter.mp hm
    have jl := List.mem_range.mp h1
    have h2 := Bool.and_eq_true_iff.mp h2
    refine ⟨t, _, rfl, of_decide_eq_true h2.1, List.getElem?_eq_getElem jl, fun z => ?_⟩
    have h3 := h2.2
    rw [getD_at jl, decide_eq_true z] at h3
    cases h3
theorem ent_none {ks heads : List Nat} {ps : List (Nat × Nat)} {t q j : Nat} (h : entO ks heads ps (some t) = none) (ht : t ∈ ks) (hj : heads[j]? = some q) : (q, t) ∈ ps := by
  have hn : sameL ks heads ps (some t) = [] := List.head?_eq_none_iff.mp h
  have jl := (List.getElem?_eq_some_iff.mp hj).1
  have hq : heads.getD j 0 = q := by
    rw [List.getD_eq_getElem?_getD, hj]
    rfl
  by_cases z : (q, t) ∈ ps
  · exact z
  · have : j ∈ sameL ks heads ps (some t) := List.mem_filter.mpr ⟨List.mem_range.mpr jl, by rw [hq, decide_eq_true ht, decide_eq_false z]; rfl⟩
    rw [hn] at this
    exact absurd this List.not_mem_nil
theorem ni_on {rs : Rws} {L : Nat} {found : List Nat} {done : Rws} (wide : ∀ r ∈ rs, r.length = L) (ni : NI rs L some found found done []) (hd : done.length = found.length) {p c t : Nat} (hp : p ∈ found) (ht : nx rs p c = some t) : t ∈ found := by
  have hip := at_idx hp
  have hil := (List.getElem?_eq_some_iff.mp hip).1
  have hc := (nx_lt wide ht).2.1
  cases e : nx done (found.idxOf p) c with
  | none => exact absurd (ni.no _ c p t (.inl ⟨by omega, hc⟩) (by rw [nx_new]; exact e) hip ht) (fun z => by cases z)
  | some j =>
    obtain ⟨p', t', b, e1, e2, e3, e4⟩ := ni.yes _ c j (by rw [nx_new]; exact e)
    have : p' = p := Option.some.inj (e1.symm.trans hip)
    subst this
    have : t' = t := Option.some.inj (e2.symm.trans ht)
    subst this
    have : t' = b := Option.some.inj e3
    subst this
    exact List.mem_of_getElem? e4
/-- the rows that the law makes of the heads are those of the smallest machine -/
theorem least_made {L : Nat} {rs : Rws} {es : List Bool} {found ks sts heads : List Nat} {done : Rws} {ps : List (Nat × Nat)} (M : MOk L rs es) (ni : NI rs L some found found done []) (hd : done.length = found.length) (lv0 : Live rs es 0)
    (lv : ∀ s, s ∈ ks ↔ (s < rs.length ∧ Live rs es s)) (hs : ∀ s, s ∈ sts ↔ (s ∈ found ∧ Live rs es s)) (hh : HD rs es (fun s => found.idxOf s) sts heads) (eq_ : ∀ a b, a ∈ sts → b ∈ sts → ((a, b) ∉ ps ↔ Eqv rs es rs es a b)) :
    Canon rs es L heads (heads.map fun h => (rs.getD h []).map (entO ks heads ps)) (heads.map fun p => es.getD p false) := by
  have hin : ∀ {i p : Nat}, heads[i]? = some p → p ∈ sts := fun e => hh.mem _ (List.mem_of_getElem? e)
  have hn : ∀ {i p c : Nat}, heads[i]? = some p → nx (heads.map fun h => (rs.getD h []).map (entO ks heads ps)) i c = entO ks heads ps (nx rs p c) := fun {i p c} e => by
    rw [nx_map e, ent_row]
    rfl
  refine least_canon M.row ni hd lv0 hs hh (List.length_map _) (fun r hr => ?_) rfl (fun i p c j h1 h2 => ?_) (fun i p c t h1 hc h2 w => ?_)
  · obtain ⟨h, hm, rfl⟩ := List.mem_map.mp hr
    rw [List.length_map]
    have hl : h < rs.length := live_lt M.row M.es ((hs h).mp (hh.mem h hm)).2
    rw [List.getD_eq_getElem?_getD, List.getElem?_eq_getElem hl]
    exact M.row _ (List.getElem_mem hl)
  · rw [hn h1] at h2
    obtain ⟨t, q, e1, e2, e3, e4⟩ := ent_some h2
    have lt := ((lv t).mp e2).2
    have tf := ni_on M.row ni hd ((hs p).mp (hin h1)).1 e1
    exact ⟨t, q, ⟨e1, lt⟩, e3, ((eq_ q t (hin e3) ((hs t).mpr ⟨tf, lt⟩)).mp e4).symm⟩
  · rw [hn h1, w.1] at h2
    have tl := live_lt M.row M.es w.2
    have tf := ni_on M.row ni hd ((hs p).mp (hin h1)).1 w.1
    obtain ⟨x, hx, e, _⟩ := hh.first t ((hs t).mpr ⟨tf, w.2⟩)
    obtain ⟨j, hj⟩ := List.mem_iff_getElem?.mp hx
    exact (eq_ x t (hin hj) ((hs t).mpr ⟨tf, w.2⟩)).mpr e (ent_none h2 ((lv t).mpr ⟨tl, w.2⟩) hj)
def sT (ks heads : List Nat) (ps : List (Nat × Nat)) (o : Option Nat) (j : Nat) : Bool := match o with
  | none => false
  | some t => decide (t ∈ ks) && !decide ((heads.getD j 0, t) ∈ ps)
theorem sT_same {ks heads : List Nat} {ps : List (Nat × Nat)} {o : Option Nat} : (List.range heads.length).filter (sT ks heads ps o) = sameL ks heads ps o := by
  cases o with
  | none => exact List.filter_eq_nil_iff.mpr fun x _ z => by cases z
  | some t => rfl

section
variable {P : Program} {w : World} {K : PySem.W.Frag} {mg : Str → Option Value} {base : Heap}
theorem scLeast : FnScope ["_law_letters", "_law_rows", "_law_ends", "_law_alive", "_law_states", "_law_state", "_law_held", "_law_many", "_law_one_here", "_law_other", "_law_heads", "_law_head", "_law_found", "_law_row", "_law_item", "_law_same", "_law_at"] ["_law_letters", "_law_rows", "_law_ends"] (defScope sLeast) := ⟨rfl, rfl, rfl, by decide +kernel, rfl, by decide +kernel, by decide +kernel⟩
def spLeast (K : PySem.W.Frag) : Sp := fun vs H Q _ => ∃ (L : Nat) (rs : Rows) (es : List Bool) (m pr pe : Addr) (rvs : List V) (B : Addr → Prop), vs = [.int (L : Int), .ref pr, .ref pe] ∧ MOk L rs es ∧ MA H L rs es m pr pe rvs ∧ TB B H ∧ rs.length ≤ 30 ∧
  ∀ (H' : Hp) (v : V) (out : Rws) (oe : List Bool), Same H H' → Dt B K H' v (machDt L out oe) → Smallest rs es L out oe → Q v H'
theorem ok_least {f fOP fMT fAP : Addr} {fd fdOP fdMT fdAP : FuncData} (F : Fun K "_law_least" "_law_least" sLeast f fd)
    (OP : FnOk P w K mg base CX0 1 fOP fdOP ["_law_rows", "_law_ends"] spOpen) (FOP : Fun K "_law_open" "_law_open" sOpen fOP fdOP) (bOP : Binds K fdOP ["_law_rows", "_law_ends"] []) (gOP : mg "_law_open" = some (.ref fOP))
    (MT : FnOk P w K mg base CX0 1 fMT fdMT ["_law_rows"] spMet) (FMT : Fun K "_law_met" "_law_met" sMet fMT fdMT) (bMT : Binds K fdMT ["_law_rows"] []) (gMT : mg "_law_met" = some (.ref fMT))
    (AP : FnOk P w K mg base CX0 1 fAP fdAP ["_law_rows", "_law_ends", "_law_alive", "_law_held", "_law_pair"] spApart) (FAP : Fun K "_law_are_apart" "_law_are_apart" sApart fAP fdAP) (bAP : Binds K fdAP ["_law_rows", "_law_ends", "_law_alive", "_law_held", "_law_pair"] []) (gAP : mg "_law_are_apart" = some (.ref fAP)) (T : Mg mg) : FnOk P w K mg base CX0 2 f fd ["_law_letters", "_law_rows", "_law_ends"] (spLeast K) := by
  refine F.ok scLeast (fun vs H Q E h => ?_) (fun cdv A outer s H vs Q E hr h => ?_)
  · obtain ⟨L, rs, es, m, pr, pe, rvs, B, rfl, _⟩ := h
    rfl
  · obtain ⟨L, rs, es, m, pr, pe, rvs, B, rfl, M, MM, tb, n30, k⟩ := h
    have hu0 := hr.units0
    have hu1 := hu_of hr
    refine ⟨_, (pss_cons (ps_set (i := 3) scLeast.nd rfl (.inr rfl) (pe_call OP (hr.mono (by decide)) (by rfl) gOP FOP.kp bOP .nil pass0 (pa_cons (pv 1) (pa_cons (pv 2) pa_nil))))
      (pss_cons (ps_if (pt_cmp (pc_dnotin hu1 pe_int (pv 3))) (pss_one (ps_ret (pe_tup (pa_cons (pv 0) (pa_cons (pe_tup (pa_cons (pe_op op_repS (pe_tup (pa_cons pe_non pa_nil)) (pv 0)) pa_nil)) (pa_cons (pe_tup (pa_cons pe_bl pa_nil)) pa_nil)))))) pss_nil)
      (pss_cons (ps_setLc (i := 4) (own := [("_law_state", 5)]) (g := gName 5) rfl scLeast.nd rfl rfl (sw_true rfl rfl rfl (by decide +kernel)) (pi_list (pe_call MT (hr.mono (by decide)) (by rfl) gMT FMT.kp bMT .nil pass0 (pa_cons (pv 1) pa_nil))) (blkOk_by (N := ["_law_letters", "_law_rows", "_law_ends", "_law_alive", "_law_states", "_law_state", "_law_held", "_law_many", "_law_one_here", "_law_other", "_law_heads", "_law_head", "_law_found", "_law_row", "_law_item", "_law_same", "_law_at"]) (sc := defScope sLeast) (by decide +kernel)) (fun _ _ _ _ _ => pg_name (i := 5) scLeast.nd rfl (Or.inl rfl)) (fun _ _ _ _ _ => pts_one (pt_cmp (pc_din hu1 (pv 5) (pv 3)))) (fun _ _ _ _ _ => (pv 5)))
      (pss_cons (ps_asg (pe_tup (pa_cons pe_dnewT (pa_cons (pe_un un_neg pe_int) pa_nil))) (pg_tup rfl (pgs_cons (pg_name (i := 6) scLeast.nd rfl (.inr rfl)) (pgs_cons (pg_name (i := 7) scLeast.nd rfl (.inl rfl)) pgs_nil))))
      (pss_cons (ps_while PassesOwn.never (pt_cmpR op_ne (pe_callB (r := rLenT) call_len_dT (by rfl) T.len PySem.boot_len (pa_cons (pv 6) pa_nil)) (pv 7) (nomark _)) (pss_cons (ps_set (i := 7) scLeast.nd rfl (.inl rfl) (pe_callB (r := rLenT) call_len_dT (by rfl) T.len PySem.boot_len (pa_cons (pv 6) pa_nil)))
      (pss_one (ps_for PassesOwn.never rfl (pi_list (pv 4)) (pg_name (i := 8) scLeast.nd rfl (.inl rfl)) (pss_one (ps_for PassesOwn.never rfl (pi_list (pv 4)) (pg_name (i := 9) scLeast.nd rfl (.inl rfl)) (pss_one (ps_if (PW.pt (pw_and (pt_cmp (pc_dnotin hu1 (pe_tup (pa_cons (pv 8) (pa_cons (pv 9) pa_nil))) (pv 6))) (pw_and1 (pt_val (pe_call AP (hr.mono (by decide)) (by rfl) gAP FAP.kp bAP .nil pass0 (pa_cons (pv 1) (pa_cons (pv 2) (pa_cons (pv 3) (pa_cons (pv 6) (pa_cons (pe_tup (pa_cons (pv 8) (pa_cons (pv 9) pa_nil))) pa_nil)))))))))) (pss_one (ps_asg pe_bl (pg_sub (pv 6) (pe_tup (pa_cons (pv 8) (pa_cons (pv 9) pa_nil))) (set_dict hu1)))) pss_nil))))))))
      (pss_cons (ps_set (i := 10) scLeast.nd rfl (.inr rfl) (pe_lst pa_nil))
      (pss_cons (ps_for PassesOwn.never rfl (pi_list (pv 4)) (pg_name (i := 5) scLeast.nd rfl (.inr rfl)) (pss_one (ps_if (pt_cmpR (op_eqNilL hu0) (pe_lc (own := [("_law_head", 11)]) (g := gName 11) rfl scLeast.nd (pi_list (pv 10)) (blkOk_by (N := ["_law_letters", "_law_rows", "_law_ends", "_law_alive", "_law_states", "_law_state", "_law_held", "_law_many", "_law_one_here", "_law_other", "_law_heads", "_law_head", "_law_found", "_law_row", "_law_item", "_law_same", "_law_at"]) (sc := defScope sLeast) (by decide +kernel)) (fun _ _ _ _ _ => pg_name (i := 11) scLeast.nd rfl (Or.inl rfl)) (fun _ _ _ _ _ => pts_one (pt_cmp (pc_dnotin hu1 (pe_tup (pa_cons (pv 11) (pa_cons (pv 5) pa_nil))) (pv 6)))) (fun _ _ _ _ _ => (pv 11))) (pe_lst pa_nil) (nomark _)) (pss_one (ps_expr (pe_bm PySem.F.plainAttrs_list PySem.F.slot_list_append PySem.F.type_list_append mt_append (pv 10) (pa_cons (pv 5) pa_nil)))) pss_nil)))
      (pss_cons (ps_set (i := 12) scLeast.nd rfl (.inl rfl) (pe_lst pa_nil))
      (pss_cons (ps_for PassesOwn.never rfl (pi_list (pv 10)) (pg_name (i := 11) scLeast.nd rfl (.inl rfl)) (pss_cons (ps_set (i := 13) scLeast.nd rfl (.inl rfl) (pe_lst pa_nil))
      (pss_cons (ps_for PassesOwn.never rfl (pi_tup (pe_ix (r := rIxT K) ix_tup (pv 1) (pv 11) (fun _ _ => rfl))) (pg_name (i := 14) scLeast.nd rfl (.inr rfl)) (pss_cons (ps_setLc (i := 15) (own := [("_law_at", 16)]) (g := gName 16) rfl scLeast.nd rfl rfl (sw_true rfl rfl rfl (by decide +kernel)) (pi_range1 (by rfl) T.range (pa_cons (pe_callB (r := rLen K) call_len_seq (by rfl) T.len PySem.boot_len (pa_cons (pv 10) pa_nil)) pa_nil)) (blkOk_by (N := ["_law_letters", "_law_rows", "_law_ends", "_law_alive", "_law_states", "_law_state", "_law_held", "_law_many", "_law_one_here", "_law_other", "_law_heads", "_law_head", "_law_found", "_law_row", "_law_item", "_law_same", "_law_at"]) (sc := defScope sLeast) (by decide +kernel)) (fun _ _ _ _ _ => pg_name (i := 16) scLeast.nd rfl (Or.inl rfl)) (fun _ _ _ _ _ => pts_one (PW.pt (pw_and (pt_cmp (pc_dinN hu1 (pv 14) (pv 3))) (pw_and1 (pt_cmp (pc_dnotin hu1 (pe_tup (pa_cons (pe_ix (r := rIxL K) ix_list (pv 10) (pv 16) (fun _ _ => rfl)) (pa_cons (pv 14) pa_nil))) (pv 6))))))) (fun _ _ _ _ _ => (pv 16)))
      (pss_one (ps_expr (pe_bm PySem.F.plainAttrs_list PySem.F.slot_list_append PySem.F.type_list_append mt_append (pv 13) (pa_cons (pe_ifExp (pt_cmpR (op_neNilL hu0) (pv 15) (pe_lst pa_nil) (nomark _)) (pe_ix (r := rIxL K) ix_list (pv 15) pe_int (fun _ _ => rfl)) pe_non) pa_nil))))))
      (pss_one (ps_expr (pe_bm PySem.F.plainAttrs_list PySem.F.slot_list_append PySem.F.type_list_append mt_append (pv 12) (pa_cons (pe_callTy (r := rTup K) call_tuple_of (by rfl) T.tuple PyProof.Rows.boot_tuple (pa_cons (pv 13) pa_nil)) pa_nil)))))))
      (pss_one (ps_ret (pe_tup (pa_cons (pv 0) (pa_cons (pe_callTy (r := rTup K) call_tuple_of (by rfl) T.tuple PyProof.Rows.boot_tuple (pa_cons (pv 12) pa_nil)) (pa_cons (pe_callTy (r := rTup K) call_tuple_of (by rfl) T.tuple PyProof.Rows.boot_tuple (pa_cons (pe_lc (own := [("_law_head", 11)]) (g := gName 11) (tt := tYes) rfl scLeast.nd (pi_list (pv 10)) (blkOk_by (N := ["_law_letters", "_law_rows", "_law_ends", "_law_alive", "_law_states", "_law_state", "_law_held", "_law_many", "_law_one_here", "_law_other", "_law_heads", "_law_head", "_law_found", "_law_row", "_law_item", "_law_same", "_law_at"]) (sc := defScope sLeast) (by decide +kernel)) (fun _ _ _ _ _ => pg_name (i := 11) scLeast.nd rfl (Or.inl rfl)) (fun _ _ _ _ _ => pts_nil) (fun _ _ _ _ _ => (pe_callTy call_bool1 (by rfl) T.bool PyProof.Rows.boot_bool (pa_cons (pe_ix (r := rIxT K) ix_tup (pv 2) (pv 11) (fun _ _ => rfl)) pa_nil)))) pa_nil)) pa_nil))))))))))))))), ?_⟩
    have L1 := M.L1
    have L3 := M.L3
    refine ⟨_, rfl, _, rfl, L, rs, es, m, pr, pe, rvs, rfl, M, MM, fun H1 al ks s1 al0 hal lv => ?_⟩
    refine ⟨_, rfl, al, _, rfl, DGet.k (k := .inl ((0 : Nat) : Int)) hal, _, rfl, ?_⟩
    have tb1 := tb_same s1 tb
    by_cases h0 : 0 ∈ ks
    · rw [og_yes (k := 0) opI h0]
      have lv0 := ((lv 0).mp h0).2
      -- the states
      refine ⟨_, rfl, L, rs, es, m, pr, pe, rvs, rfl, M, MM.same s1, fun H2 o found done s2 o0 ho ni hdn flt => ?_⟩
      refine ⟨o, rfl, ⟨_, SqL.of ho⟩, fun D hD => ?_⟩
      have fl := nodup_len ni.nd flt
      refine lc_list (K := K) (a := o) (xs := found.map natV) (KInv (fun s : Nat => decide (s ∈ ks)) natV found H2 D) (kstart hD) (fun i H' _ q => SqL.of (q.1 _ _ ho)) ?_ ?_
      · rintro i x H3 hx p1
        obtain ⟨u, hu, rfl⟩ := natV_of hx
        have hal3 := p1.1 _ _ (s2 _ _ hal)
        refine ⟨rfl, _, rfl, _, rfl, al, _, rfl, DGet.k (k := .inl (u : Int)) hal3, _, rfl, ?_⟩
        by_cases hb : u ∈ ks
        · rw [og_yes opI hb]
          exact ⟨_, rfl, kyes (t := fun s : Nat => decide (s ∈ ks)) (small1000 (by omega)) hD hu (decide_eq_true hb) p1 (Same.refl _)⟩
        · rw [og_nob opI hb]
          exact kno (t := fun s : Nat => decide (s ∈ ks)) hu (decide_eq_false hb) p1 (Same.refl _)
      · rintro H3 p1
        obtain ⟨s3, hl3⟩ := kend (List.length_map _) p1
        have hsts : ∀ s, s ∈ found.filter (fun s : Nat => decide (s ∈ ks)) ↔ (s ∈ found ∧ Live rs es s) := fun s => by
          rw [List.mem_filter, decide_eq_true_eq, lv]
          exact ⟨fun q => ⟨q.1, q.2.2⟩, fun q => ⟨q.1, flt s q.1, q.2⟩⟩
        have snd : (found.filter (fun s : Nat => decide (s ∈ ks))).Nodup := List.Pairwise.filter _ ni.nd
        have sup := met_up ni.nd (fun s : Nat => decide (s ∈ ks))
        have hal3 := s3 _ _ (s2 _ _ hal)
        have s03 := (s1.trans s2).trans s3
        clear p1
        generalize found.filter (fun s : Nat => decide (s ∈ ks)) = sts at *
        have slt : ∀ s ∈ sts, s < rs.length := fun s hs => flt s ((hsts s).mp hs).1
        have sle := nodup_len snd slt
        have MM3 := MM.same s03
        intro d hd
        have sd_ := same_new (o := .dT []) hd
        refine ⟨_, rfl, by show 2 ≤ sizeLine; decide, fun T2 hT => ⟨T2, _, rfl, SqT.of upd_same, rfl, _, _, rfl, _, _, rfl, rfl, ?_⟩⟩
        have s4 : Same H3 (upd (upd H3 d (.dT [])) T2 (.tup [.ref d, .int (-1)])) := sd_.trans (same_new hT)
        have hd4 : (upd (upd H3 d (.dT [])) T2 (.tup [.ref d, .int (-1)])) d = some (.dT (hpK [])) := same_new hT _ _ upd_same
        clear hT
        generalize upd (upd H3 d (.dT [])) T2 (.tup [.ref d, .int (-1)]) = H4 at *
        refine while_by (fun σ H' => ∃ (ps : List (Nat × Nat)) (many : Int) (y8 y9 : Option V), σ = [some (.int (L : Int)), some (.ref pr), some (.ref pe), some (.ref al), some (.ref D), none, some (.ref d), some (.int many), y8, y9, none, none, none, none, none, none, none] ∧ Same H3 H' ∧ H' d = some (.dT (hpK ps)) ∧ ps.Nodup ∧ (∀ p ∈ ps, p.1 ∈ sts ∧ p.2 ∈ sts ∧ ¬ Eqv rs es rs es p.1 p.2) ∧ -1 ≤ many ∧ many ≤ ps.length ∧ (many = ps.length → ∀ a ∈ sts, ∀ b ∈ sts, Apart rs es (fun p q => (p, q) ∈ ps) a b → (a, b) ∈ ps))
          (fun (σ : List (Option V)) (_ : Hp) => match σ[7]? with
            | some (some (V.int i)) => (1000 - i).toNat
            | _ => 0) ⟨[], -1, _, _, rfl, s4, hd4, List.nodup_nil, (fun p hp => absurd hp List.not_mem_nil), Int.le_refl _, by decide, (fun z => by cases z)⟩ ?_ ?_
        · rintro σ H5 ⟨ps, many, y8, y9, rfl, s5, hd5, nd, so, b1, b2, cl⟩
          have plen : ∀ {ps : List (Nat × Nat)}, ps.Nodup → (∀ p ∈ ps, p.1 ∈ sts ∧ p.2 ∈ sts ∧ ¬ Eqv rs es rs es p.1 p.2) → ps.length ≤ 900 := fun {ps} nd so => by
            have := pairs_len nd (fun p hp => ⟨slt _ (so p hp).1, slt _ (so p hp).2.1⟩)
            have h2 : rs.length * rs.length ≤ 30 * 30 := Nat.mul_le_mul n30 n30
            omega
          have pl := plen nd so
          refine ⟨_, rfl, d, _, rfl, hd5, _, rfl, rfl, _, rfl, ite2 (fun h => ?_) (fun h => ?_)⟩
          · have hne : ¬ many = (ps.length : Int) := fun z => of_decide_eq_false (not_cases h) (by rw [z, og_len])
            refine ⟨_, rfl, d, _, rfl, hd5, ?_⟩
            refine ⟨_, rfl, D, rfl, ⟨_, SqL.of (s5 _ _ hl3)⟩, ?_⟩
            refine for_list (K := K) (a := D) (xs := sts.map natV) (fun i σ H' => ∃ (ps' : List (Nat × Nat)) (y8 y9 : Option V), σ = [some (.int (L : Int)), some (.ref pr), some (.ref pe), some (.ref al), some (.ref D), none, some (.ref d), some (.int (ps.length : Int)), y8, y9, none, none, none, none, none, none, none] ∧ Same H3 H' ∧ H' d = some (.dT (hpK ps')) ∧ ps'.Nodup ∧ (∀ p ∈ ps', p.1 ∈ sts ∧ p.2 ∈ sts ∧ ¬ Eqv rs es rs es p.1 p.2) ∧ ps.length ≤ ps'.length ∧ (ps'.length = ps.length → ∀ a ∈ sts.take i, ∀ b ∈ sts, Apart rs es (fun p q => (p, q) ∈ ps') a b → (a, b) ∈ ps'))
              ⟨ps, _, _, by rw [og_len]; rfl, s5, hd5, nd, so, Nat.le_refl _, fun _ a ha => absurd ha (by rw [List.take_zero]; exact List.not_mem_nil)⟩ (fun i σ H' _ p => by
                obtain ⟨_, _, _, _, s', _⟩ := p
                exact SqL.of (s' _ _ hl3)) ?_ ?_
            · rintro i x σ H6 hx ⟨ps1, z8, z9, rfl, s6, hd6, nd1, so1, b3, cl1⟩
              obtain ⟨a, ha, rfl⟩ := natV_of hx
              have ham := List.mem_of_getElem? ha
              have tka : sts.take (i + 1) = sts.take i ++ [a] := by rw [List.take_add_one, ha]; rfl
              refine ⟨_, rfl, D, rfl, ⟨_, SqL.of (s6 _ _ hl3)⟩, ?_⟩
              refine for_list (K := K) (a := D) (xs := sts.map natV) (fun j σ H' => ∃ (ps' : List (Nat × Nat)) (y9 : Option V), σ = [some (.int (L : Int)), some (.ref pr), some (.ref pe), some (.ref al), some (.ref D), none, some (.ref d), some (.int (ps.length : Int)), some (.int (a : Int)), y9, none, none, none, none, none, none, none] ∧ Same H3 H' ∧ H' d = some (.dT (hpK ps')) ∧ ps'.Nodup ∧ (∀ p ∈ ps', p.1 ∈ sts ∧ p.2 ∈ sts ∧ ¬ Eqv rs es rs es p.1 p.2) ∧ ps.length ≤ ps'.length ∧ (ps'.length = ps.length → (∀ a ∈ sts.take i, ∀ b ∈ sts, Apart rs es (fun p q => (p, q) ∈ ps') a b → (a, b) ∈ ps') ∧ ∀ b ∈ sts.take j, Apart rs es (fun p q => (p, q) ∈ ps') a b → (a, b) ∈ ps'))
                ⟨ps1, _, rfl, s6, hd6, nd1, so1, b3, fun e => ⟨cl1 e, fun b hb => absurd hb (by rw [List.take_zero]; exact List.not_mem_nil)⟩⟩ (fun i σ H' _ p => by
                  obtain ⟨_, _, _, s', _⟩ := p
                  exact SqL.of (s' _ _ hl3)) ?_ ?_
              · rintro j x σ H7 hx ⟨ps2, z9', rfl, s7, hd7, nd2, so2, b4, cl2⟩
                obtain ⟨b, hb, rfl⟩ := natV_of hx
                have hbm := List.mem_of_getElem? hb
                have tkb : sts.take (j + 1) = sts.take j ++ [b] := by rw [List.take_add_one, hb]; rfl
                have pl2 := plen nd2 so2
                refine ⟨_, rfl, _, rfl, by show 2 ≤ sizeLine; decide, fun t1 ht1 => ?_⟩
                have sa := same_new (o := .tup [V.int (a : Int), V.int (b : Int)]) ht1
                refine ⟨_, rfl, d, _, rfl, DGet.t (k := [.inl (a : Int), .inl (b : Int)]) (sa _ _ hd7) upd_same, _, rfl, ?_⟩
                by_cases hin : (a, b) ∈ ps2
                · rw [og_yes (k := (a, b)) hpI hin]
                  refine ⟨ps2, _, rfl, s7.trans sa, sa _ _ hd7, nd2, so2, b4, fun e => ⟨(cl2 e).1, fun y hy q => ?_⟩⟩
                  rw [tkb] at hy
                  rcases List.mem_append.mp hy with z | z
                  · exact (cl2 e).2 y z q
                  · rw [List.mem_singleton.mp z]
                    exact hin
                · rw [og_nob (k := (a, b)) hpI hin]
                  have s8 := s7.trans sa
                  have hd8 := sa _ _ hd7
                  clear ht1 sa
                  generalize upd H7 t1 (.tup [V.int (a : Int), V.int (b : Int)]) = H8 at *
                  refine ⟨_, rfl, _, rfl, _, rfl, _, rfl, _, rfl, _, rfl, by show 2 ≤ sizeLine; decide, fun t2 ht2 => ?_⟩
                  have sb := same_new (o := .tup [V.int (a : Int), V.int (b : Int)]) ht2
                  have hd9 := sb _ _ hd8
                  have s9 := s8.trans sb
                  have g9 : (upd H8 t2 (.tup [V.int (a : Int), V.int (b : Int)])) t2 = some (.tup [V.int (a : Int), V.int (b : Int)]) := upd_same
                  refine ⟨L, rs, es, m, pr, pe, rvs, al, d, t2, ks, ps2, a, b, rfl, M, MM3.same s9, s9 _ _ hal3, hd9, g9, slt a ham, slt b hbm, lv, fun H10 t s10 ht => ?_⟩
                  have hd10 := s10 _ _ hd9
                  have s11 := s9.trans s10
                  refine ⟨_, rfl, ?_⟩
                  cases t with
                  | false =>
                    have hno : ¬ Apart rs es (fun p q => (p, q) ∈ ps2) a b := fun z => by
                      have := ht.mpr z
                      cases this
                    refine ⟨ps2, _, rfl, s11, hd10, nd2, so2, b4, fun e => ⟨(cl2 e).1, fun y hy q => ?_⟩⟩
                    rw [tkb] at hy
                    rcases List.mem_append.mp hy with z | z
                    · exact (cl2 e).2 y z q
                    · rw [List.mem_singleton.mp z] at q
                      exact absurd q hno
                  | true =>
                    have yes := ht.mp rfl
                    refine ⟨_, rfl, _, rfl, _, rfl, by show 2 ≤ sizeLine; decide, fun t3 ht3 => ?_⟩
                    have sc := same_new (o := .tup [V.int (a : Int), V.int (b : Int)]) ht3
                    have dp := DPut.t (k := [.inl (a : Int), .inl (b : Int)]) (v := .bl true) (sc _ _ hd10) (upd_same (a := t3) (H := H10) (o := .tup [V.int (a : Int), V.int (b : Int)])) (small1000 (by rw [og_len]; omega))
                    rw [og_put (k := (a, b)) hpI hin] at dp
                    refine ⟨d, _, rfl, dp, ps2 ++ [(a, b)], _, rfl, fun z o e => ?_, upd_same, ?_, fun p hp => ?_, by rw [List.length_append]; omega, fun e => ?_⟩
                    · rw [upd_ne (ne_of_none e hd)]
                      exact (s11.trans sc) _ _ e
                    · rw [List.nodup_append]
                      exact ⟨nd2, List.nodup_cons.mpr ⟨List.not_mem_nil, List.nodup_nil⟩, fun x hx y hy z => hin (by rw [← List.mem_singleton.mp hy, ← z]; exact hx)⟩
                    · rcases List.mem_append.mp hp with z | z
                      · exact so2 p z
                      · rw [List.mem_singleton.mp z]
                        exact ⟨ham, hbm, yes.no fun p q h => (so2 (p, q) h).2.2⟩
                    · rw [List.length_append, List.length_singleton] at e
                      omega
              · rintro σ H7 ⟨ps2, z9', rfl, s7, hd7, nd2, so2, b4, cl2⟩
                rw [List.length_map, List.take_length] at cl2
                refine ⟨ps2, _, _, rfl, s7, hd7, nd2, so2, b4, fun e y hy => ?_⟩
                rw [tka] at hy
                rcases List.mem_append.mp hy with z | z
                · exact (cl2 e).1 y z
                · rw [List.mem_singleton.mp z]
                  exact (cl2 e).2
            · rintro σ H6 ⟨ps1, z8, z9, rfl, s6, hd6, nd1, so1, b3, cl1⟩
              rw [List.length_map, List.take_length] at cl1
              have pl1 := plen nd1 so1
              refine ⟨⟨ps1, _, _, _, rfl, s6, hd6, nd1, so1, by omega, by omega, fun e => cl1 (by omega)⟩, ?_⟩
              show (1000 - (ps.length : Int)).toNat < (1000 - many).toNat
              omega
          · have e := of_decide_eq_true (not_cases' h)
            rw [og_len] at e
            have e : many = (ps.length : Int) := (V.int.inj e).symm
            have cl := cl e
            have eq_ : ∀ a b, a ∈ sts → b ∈ sts → ((a, b) ∉ ps ↔ Eqv rs es rs es a b) := fun a b ha hb => by
              refine ⟨fun n => held_done (H := fun p q => (p, q) ∈ ps) (D := fun s => s ∈ sts) (fun s c t hs w => ?_) (fun a b ha hb => cl a ha b hb) a b ha hb n, fun e z => (so (a, b) z).2.2 e⟩
              exact (hsts t).mpr ⟨ni_on M.row ni hdn ((hsts s).mp hs).1 w.1, w.2⟩
            refine ⟨by show 0 ≤ sizeLine; decide, fun hq hhq => ?_⟩
            have hq3 : H3 hq = none := s5.free hhq
            have sA := s5.trans (same_new (o := .lst []) hhq)
            have hdA := same_new (o := .lst []) hhq _ _ hd5
            have hqA : (upd H5 hq (.lst [])) hq = some (.lst (([] : List Nat).map natV)) := upd_same
            have ndh : d ≠ hq := fun z => by rw [z, hhq] at hd5; cases hd5
            clear hd5 s5 hhq
            generalize upd H5 hq (.lst []) = H6 at *
            refine ⟨_, rfl, D, rfl, ⟨_, SqL.of (sA _ _ hl3)⟩, ?_⟩
            refine for_list (K := K) (a := D) (xs := sts.map natV) (fun i σ H' => ∃ (heads : List Nat) (y5 : Option V), σ = [some (.int (L : Int)), some (.ref pr), some (.ref pe), some (.ref al), some (.ref D), y5, some (.ref d), some (.int many), y8, y9, some (.ref hq), none, none, none, none, none, none] ∧ Same H3 H' ∧ H' d = some (.dT (hpK ps)) ∧ H' hq = some (.lst (heads.map natV)) ∧ HD rs es (fun s => found.idxOf s) (sts.take i) heads)
              ⟨[], _, rfl, sA, hdA, hqA, by rw [List.take_zero]; exact hd_start⟩ (fun i σ H' _ p => by
                obtain ⟨_, _, _, s', _⟩ := p
                exact SqL.of (s' _ _ hl3)) ?_ ?_
            · rintro i x σ H7 hx ⟨heads, y5, rfl, s7, hd7, hq7, HH⟩
              obtain ⟨a, ha, rfl⟩ := natV_of hx
              have ham := List.mem_of_getElem? ha
              have tka : sts.take (i + 1) = sts.take i ++ [a] := by rw [List.take_add_one, ha]; rfl
              have hin : ∀ x ∈ heads, x ∈ sts := fun x hx => List.mem_of_mem_take (HH.mem x hx)
              have hnd : heads.Nodup := HH.up.imp (fun {a b} l e => by rw [e] at l; omega)
              have hle := nodup_len hnd (fun x hx => slt x (hin x hx))
              refine ⟨_, rfl, hq, rfl, ⟨_, SqL.of hq7⟩, fun D2 hD2 => ?_⟩
              refine lc_list (K := K) (a := hq) (xs := heads.map natV) (KInv (fun x : Nat => !decide ((x, a) ∈ ps)) natV heads H7 D2) (kstart hD2) (fun i H' _ q => SqL.of (q.1 _ _ hq7)) ?_ ?_
              · rintro j x H8 hx p1
                obtain ⟨b, hb, rfl⟩ := natV_of hx
                refine ⟨rfl, _, rfl, _, rfl, by show 2 ≤ sizeLine; decide, fun t1 ht1 => ?_⟩
                have sa := same_new (o := .tup [V.int (b : Int), V.int (a : Int)]) ht1
                refine ⟨_, rfl, d, _, rfl, DGet.t (k := [.inl (b : Int), .inl (a : Int)]) (sa _ _ (p1.1 _ _ hd7)) upd_same, _, rfl, ?_⟩
                by_cases hin2 : (b, a) ∈ ps
                · rw [og_yes (k := (b, a)) hpI hin2]
                  exact kno (t := fun x : Nat => !decide ((x, a) ∈ ps)) hb (by rw [decide_eq_true hin2]; rfl) p1 sa
                · rw [og_nob (k := (b, a)) hpI hin2]
                  exact ⟨_, rfl, kyes (t := fun x : Nat => !decide ((x, a) ∈ ps)) (small1000 (by omega)) hD2 hb (by rw [decide_eq_false hin2]; rfl) p1 sa⟩
              · rintro H8 p1
                obtain ⟨s8, hl8⟩ := kend (List.length_map _) p1
                refine ⟨by show 0 ≤ sizeLine; decide, fun e0 he0 => ?_⟩
                have sb := same_new (o := .lst []) he0
                have hl9 := sb _ _ hl8
                have s9 := (s7.trans s8).trans sb
                have hd9 := sb _ _ (s8 _ _ hd7)
                have hq9 := sb _ _ (s8 _ _ hq7)
                refine ⟨D2, e0, _, rfl, rfl, SqL.of hl9, SqL.of upd_same, _, rfl, ?_⟩
                have seenlt : ∀ t ∈ sts.take i, found.idxOf t < found.idxOf a := fun t ht => by
                  obtain ⟨j, hj⟩ := List.mem_iff_getElem?.mp ht
                  rw [List.getElem?_take] at hj
                  split at hj
                  · rename_i ji
                    exact pair_lt sup hj ha ji
                  · cases hj
                clear hl9 hl8 p1
                generalize upd H8 e0 (.lst []) = H9 at *
                by_cases he : heads.filter (fun x : Nat => !decide ((x, a) ∈ ps)) = []
                · rw [he]
                  refine ⟨_, rfl, .inl ⟨rfl, _, SqL.of hq9⟩, _, rfl, hq, _, _, rfl, rfl, hq9, small1000 (by rw [List.length_map]; omega), ?_⟩
                  refine ⟨heads ++ [a], _, rfl, fun z o e => ?_, by rw [upd_ne ndh]; exact hd9, by rw [upd_same, List.map_append]; rfl, ?_⟩
                  · rw [upd_ne (ne_of_none e hq3)]
                    exact s9 _ _ e
                  · rw [tka]
                    refine HH.new seenlt fun x hx e => ?_
                    have hn := (eq_ x a (hin x hx) ham).mpr e
                    have : x ∈ heads.filter (fun x : Nat => !decide ((x, a) ∈ ps)) := List.mem_filter.mpr ⟨hx, by rw [decide_eq_false hn]; rfl⟩
                    rw [he] at this
                    exact List.not_mem_nil this
                · have hne : (decide ((heads.filter (fun x : Nat => !decide ((x, a) ∈ ps))).map natV = [])) = false := decide_eq_false (fun z => he (List.map_eq_nil_iff.mp z))
                  show (if decide ((heads.filter (fun x : Nat => !decide ((x, a) ∈ ps))).map natV = []) = true then _ else _)
                  rw [hne]
                  refine ⟨heads, _, rfl, s9, hd9, hq9, ?_⟩
                  rw [tka]
                  obtain ⟨x, hx⟩ := List.exists_mem_of_ne_nil _ he
                  obtain ⟨h1, h2⟩ := List.mem_filter.mp hx
                  have hn : (x, a) ∉ ps := fun z => by
                    rw [decide_eq_true z] at h2
                    cases h2
                  exact HH.old seenlt h1 ((eq_ x a (hin x h1) ham).mp hn)
            · rintro σ H7 ⟨heads, y5, rfl, s7, hd7, hq7, HH⟩
              rw [List.length_map, List.take_length] at HH
              have hin : ∀ x ∈ heads, x ∈ sts := fun x hx => HH.mem x hx
              have hnd : heads.Nodup := HH.up.imp (fun {a b} l e => by rw [e] at l; omega)
              have hle := nodup_len hnd (fun x hx => slt x (hin x hx))
              have CN := least_made M ni hdn lv0 lv hsts HH eq_
              have hhl : ∀ x ∈ heads, x < rs.length := fun x hx => slt x (hin x hx)
              have s07 := s03.trans s7
              have al7 := s7 _ _ hal3
              have MM7 := MM3.same s7
              have tb7 := tb_same s07 tb
              clear sA hdA hqA hd4 s4 sd_ MM3 tb1
              refine ⟨by show 0 ≤ sizeLine; decide, fun F hF => ?_⟩
              have sF := same_new (o := .lst []) hF
              have hF8 : (upd H7 F (.lst [])) F = some (.lst []) := upd_same
              generalize upd H7 F (.lst []) = H8 at *
              refine ⟨_, rfl, hq, rfl, ⟨_, SqL.of (sF _ _ hq7)⟩, ?_⟩
              refine for_list (K := K) (a := hq) (xs := heads.map natV) (fun i σ H' => ∃ (rvs' : List V) (y11 y13 y14 y15 : Option V), σ = [some (.int (L : Int)), some (.ref pr), some (.ref pe), some (.ref al), some (.ref D), y5, some (.ref d), some (.int many), y8, y9, some (.ref hq), y11, some (.ref F), y13, y14, y15, none] ∧ Same H7 H' ∧ H' F = some (.lst rvs') ∧ DtAll (fun b => B b ∨ b = F) K H' rvs' ((heads.take i).map fun h => rowDt ((rs.getD h []).map (entO ks heads ps))))
                ⟨[], _, _, _, _, rfl, sF, hF8, .nil⟩ (fun i σ H' _ p => by
                  obtain ⟨_, _, _, _, _, _, s', _⟩ := p
                  exact SqL.of (s' _ _ hq7)) ?_ ?_
              · rintro i x σ H9 hx ⟨rvs', y11, y13, y14, y15, rfl, s9, hF9, dr9⟩
                obtain ⟨a, ha, rfl⟩ := natV_of hx
                have ham := List.mem_of_getElem? ha
                have tka : heads.take (i + 1) = heads.take i ++ [a] := by rw [List.take_add_one, ha]; rfl
                have il := (List.getElem?_eq_some_iff.mp ha).1
                have rl := dr9.len
                rw [List.length_map, List.length_take] at rl
                obtain ⟨row, hrow⟩ : ∃ row, rs[a]? = some row := ⟨_, List.getElem?_eq_getElem (hhl a ham)⟩
                have hgd : rs.getD a [] = row := by
                  rw [List.getD_eq_getElem?_getD, hrow]
                  rfl
                have hrl := M.row row (List.mem_of_getElem? hrow)
                refine ⟨by show 0 ≤ sizeLine; decide, fun R hR => ?_⟩
                have dr10 := same_all (same_new (o := .lst []) hR) (DtAll.off hR _ _ dr9)
                have sR := same_new (o := .lst []) hR
                have hR10 : (upd H9 R (.lst [])) R = some (.lst (([] : List (Option Nat)).map oV)) := upd_same
                have nRF : R ≠ F := fun z => by rw [z, hF9] at hR; cases hR
                have R7 : H7 R = none := s9.free hR
                have s10 := s9.trans sR
                have hF10 := sR _ _ hF9
                clear hR sR
                generalize upd H9 R (.lst []) = H10 at *
                obtain ⟨q, hq1, hq2⟩ := (MM7.same s10).row a row hrow
                obtain ⟨q', hq1', hq2'⟩ := MM7.row a row hrow
                have : q' = q := V.ref.inj (Option.some.inj (hq1'.symm.trans hq1))
                subst this
                refine ⟨_, rfl, _, rfl, pr, rvs, (a : Int), _, rfl, rfl, .inl (MM7.same s10).hr, atI_nat hq1, q', rfl, ⟨_, .inl hq2⟩, ?_⟩
                refine for_tup (K := K) (a := q') (xs := row.map oV) (fun j σ H' => (∃ y14 y15, σ = [some (.int (L : Int)), some (.ref pr), some (.ref pe), some (.ref al), some (.ref D), y5, some (.ref d), some (.int many), y8, y9, some (.ref hq), some (.int (a : Int)), some (.ref F), some (.ref R), y14, y15, none]) ∧ Same H7 H' ∧ H' F = some (.lst rvs') ∧ H' R = some (.lst (((row.take j).map (entO ks heads ps)).map oV)) ∧ DtAll (fun b => (B b ∨ b = F) ∨ b = R) K H' rvs' ((heads.take i).map fun h => rowDt ((rs.getD h []).map (entO ks heads ps))))
                  ⟨⟨_, _, rfl⟩, s10, hF10, hR10, dr10⟩ (fun j σ H' _ p => .inl (same_rd p.2.1 hq2')) ?_ ?_
                · rintro j x σ H11 hx ⟨⟨y14', y15', rfl⟩, s11, hF11, hR11, dr11⟩
                  rw [List.getElem?_map] at hx
                  obtain ⟨o, ho, rfl⟩ := Option.map_eq_some_iff.mp hx
                  have jl := (List.getElem?_eq_some_iff.mp ho).1
                  have hq11 := s11 _ _ hq7
                  have hd11 := s11 _ _ hd7
                  have al11 := s11 _ _ al7
                  refine ⟨_, rfl, hq, _, rfl, .inl (SqL.of hq11), ((heads.map natV).length : Int), rfl, by rw [List.length_map]; omega, by rw [List.length_map]; omega, fun D3 hD3 => ?_⟩
                  have hz0 : ∀ j : Nat, (0 : Int) + (j : Int) = (j : Int) := fun j => Int.zero_add _
                  refine lc_range (lo := 0) (n := ((heads.map natV).length : Int).toNat) (KInv (sT ks heads ps o) natV (List.range heads.length) H11 D3) (kstart hD3) ?_ ?_
                  · rintro l H12 hl p1
                    rw [Int.toNat_natCast, List.length_map] at hl
                    have hlr : (List.range heads.length)[l]? = some l := by rw [List.getElem?_range hl]
                    rw [hz0]
                    have sm1 : (List.range heads.length).length < sizeLine := small1000 (by rw [List.length_range]; omega)
                    refine ⟨rfl, _, rfl, _, rfl, ?_⟩
                    cases o with
                    | none => exact .inr ⟨al, _, rfl, rfl, .inl (p1.1 _ _ al11), _, rfl, kno (t := sT ks heads ps none) hlr rfl p1 (Same.refl _)⟩
                    | some t =>
                      refine .inl ⟨al, _, rfl, DGet.k (k := .inl (t : Int)) (p1.1 _ _ al11), _, rfl, ?_⟩
                      by_cases ht : t ∈ ks
                      · rw [og_yes opI ht]
                        obtain ⟨b, hb⟩ : ∃ b, heads[l]? = some b := ⟨_, List.getElem?_eq_getElem hl⟩
                        have hgb : heads.getD l 0 = b := by
                          rw [List.getD_eq_getElem?_getD, hb]
                          rfl
                        refine ⟨_, rfl, _, rfl, hq, _, (l : Int), _, rfl, rfl, SqL.of (p1.1 _ _ hq11), atI_nat (natV_get hb), _, rfl, by show 2 ≤ sizeLine; decide, fun t1 ht1 => ?_⟩
                        have sa := same_new (o := .tup [V.int (b : Int), oV (some t)]) ht1
                        refine ⟨_, rfl, d, _, rfl, DGet.t (k := [.inl (b : Int), .inl (t : Int)]) (sa _ _ (p1.1 _ _ hd11)) upd_same, _, rfl, ?_⟩
                        by_cases hin2 : (b, t) ∈ ps
                        · rw [og_yes (k := (b, t)) hpI hin2]
                          exact kno (t := sT ks heads ps (some t)) hlr (by show (decide (t ∈ ks) && !decide ((heads.getD l 0, t) ∈ ps)) = false; rw [hgb, decide_eq_true hin2]; exact Bool.and_false _) p1 sa
                        · rw [og_nob (k := (b, t)) hpI hin2]
                          exact ⟨_, rfl, kyes (t := sT ks heads ps (some t)) sm1 hD3 hlr (by show (decide (t ∈ ks) && !decide ((heads.getD l 0, t) ∈ ps)) = true; rw [hgb, decide_eq_true ht, decide_eq_false hin2]; rfl) p1 sa⟩
                      · rw [og_nob opI ht]
                        exact kno (t := sT ks heads ps (some t)) hlr (by show (decide (t ∈ ks) && _) = false; rw [decide_eq_false ht]; rfl) p1 (Same.refl _)
                  · rintro H12 p1
                    rw [Int.toNat_natCast, List.length_map] at p1
                    obtain ⟨s12, hl12⟩ := kend (List.length_range.symm) p1
                    rw [sT_same] at hl12
                    have rowt : (row.take (j + 1)).map (entO ks heads ps) = (row.take j).map (entO ks heads ps) ++ [entO ks heads ps o] := by
                      rw [List.take_add_one, ho, List.map_append]
                      rfl
                    have hR12 := s12 _ _ hR11
                    refine ⟨_, rfl, .inl ⟨rfl, _, SqL.of hR12⟩, ?_⟩
                    refine ⟨_, rfl, by show 0 ≤ sizeLine; decide, fun e0 he0 => ?_⟩
                    have sb := same_new (o := .lst []) he0
                    have hl13 := sb _ _ hl12
                    have hR13 := sb _ _ hR12
                    have s13 := s12.trans sb
                    have hF13 := s13 _ _ hF11
                    have dr13 := same_all s13 dr11
                    have s713 := s11.trans s13
                    have smR : (((row.take j).map (entO ks heads ps)).map oV).length < sizeLine := small1000 (by rw [List.length_map, List.length_map, List.length_take]; omega)
                    refine ⟨D3, e0, _, rfl, rfl, SqL.of hl13, SqL.of upd_same, _, rfl, ?_⟩
                    clear p1 hl12 hR12 dr11 hR11 hF11
                    generalize upd H12 e0 (.lst []) = H13 at *
                    have fin_ : ∀ v : V, v = oV (entO ks heads ps o) → ∃ p ys y, V.ref R = V.ref p ∧ [v] = [y] ∧ H13 p = some (.lst ys) ∧ ys.length < sizeLine ∧ ((∃ y14 y15, [some (.int (L : Int)), some (.ref pr), some (.ref pe), some (.ref al), some (.ref D), y5, some (.ref d), some (.int many), y8, y9, some (.ref hq), some (.int (a : Int)), some (.ref F), some (.ref R), some (oV o), some (.ref D3), none] = [some (.int (L : Int)), some (.ref pr), some (.ref pe), some (.ref al), some (.ref D), y5, some (.ref d), some (.int many), y8, y9, some (.ref hq), some (.int (a : Int)), some (.ref F), some (.ref R), y14, y15, none]) ∧ Same H7 (upd H13 p (.lst (ys ++ [y]))) ∧ (upd H13 p (.lst (ys ++ [y]))) F = some (.lst rvs') ∧ (upd H13 p (.lst (ys ++ [y]))) R = some (.lst (((row.take (j + 1)).map (entO ks heads ps)).map oV)) ∧ DtAll (fun b => (B b ∨ b = F) ∨ b = R) K (upd H13 p (.lst (ys ++ [y]))) rvs' ((heads.take i).map fun h => rowDt ((rs.getD h []).map (entO ks heads ps)))) := fun v hv => by
                      refine ⟨R, _, _, rfl, rfl, hR13, smR, ⟨_, _, rfl⟩, fun z o e => ?_, by rw [upd_ne nRF.symm]; exact hF13, by rw [upd_same, rowt, List.map_append, hv]; rfl, DtAll.keep (keep_store (.inr rfl)) _ _ dr13⟩
                      rw [upd_ne (ne_of_none e R7)]
                      exact s713 _ _ e
                    cases hs : sameL ks heads ps o with
                    | nil =>
                      exact fin_ .non (by unfold entO; rw [hs]; rfl)
                    | cons x xs =>
                      rw [hs] at hl13
                      have hne : (!decide ((x :: xs).map natV = [])) = true := by
                        rw [decide_eq_false (fun z => by cases z)]
                        rfl
                      rw [hne]
                      refine ⟨_, rfl, D3, _, 0, _, rfl, rfl, SqL.of hl13, atI_nat (j := 0) rfl, ?_⟩
                      exact fin_ (natV x) (by unfold entO; rw [hs]; rfl)
                · rintro σ H11 ⟨⟨y14', y15', rfl⟩, s11, hF11, hR11, dr11⟩
                  rw [List.length_map, List.take_length] at hR11
                  refine ⟨_, rfl, .inl ⟨rfl, _, SqL.of hF11⟩, _, rfl, R, _, rfl, .inl ⟨SqL.of hR11, fun t nt => ?_⟩⟩
                  have st := same_new (o := .tup ((row.map (entO ks heads ps)).map oV)) nt
                  have hF12 := st _ _ hF11
                  have tb11 := tb_same s11 tb7
                  have tbF : TB (fun b => B b ∨ b = F) H11 := fun b z => by
                    rcases z with z | z
                    · exact tb11 b z
                    · rw [z, hF11]
                      exact fun y => by cases y
                  have F7 : H7 F = none := hF
                  refine ⟨F, _, _, rfl, rfl, hF12, small1000 (by omega), rvs' ++ [.ref t], _, _, _, _, rfl, fun z o e => ?_, upd_same, ?_⟩
                  · rw [upd_ne (ne_of_none e F7)]
                    exact (s11.trans st) _ _ e
                  · rw [tka, List.map_append]
                    refine DtAll.keep (keep_store (.inr rfl)) _ _ ((same_all st (DtAll.weak (fun b z => .inl z) _ _ dr11)).append (.cons ?_ .nil))
                    show Dt _ K _ (V.ref t) (rowDt ((rs.getD a []).map (entO ks heads ps)))
                    rw [hgd]
                    exact .tup (tb_off tbF nt) (.inl upd_same) (dt_cs o_cs _)
              · rintro σ H9 ⟨rvs', y11, y13, y14, y15, rfl, s9, hF9, dr9⟩
                rw [List.length_map, List.take_length] at dr9
                have rl := dr9.len
                rw [List.length_map] at rl
                have tb9 := tb_same s9 tb7
                refine ⟨_, rfl, _, rfl, F, _, rfl, .inl ⟨SqL.of hF9, fun t1 nt1 => ?_⟩⟩
                have st1 := same_new (o := .tup rvs') nt1
                have dt1 : Dt B K (upd H9 t1 (.tup rvs')) (.ref t1) (.tuple (heads.map fun h => rowDt ((rs.getD h []).map (entO ks heads ps)))) := .tup (tb_off tb9 nt1) (.inl upd_same) (same_all st1 (DtAll.weak (fun b z => .inl z) _ _ dr9))
                have s10 := s9.trans st1
                have tb10 := tb_same st1 tb9
                clear nt1
                generalize upd H9 t1 (.tup rvs') = H10 at *
                have hq10 := s10 _ _ hq7
                have MM10 := MM7.same s10
                refine ⟨_, rfl, hq, rfl, ⟨_, SqL.of hq10⟩, fun D4 hD4 => ?_⟩
                refine lc_list (K := K) (a := hq) (xs := heads.map natV) (NInv (fun x : Nat => V.bl (es.getD x false)) heads H10 D4) (nstart hD4) (fun i H' _ q => SqL.of (q.1 _ _ hq10)) ?_ ?_
                · rintro i x H11 hx p1
                  obtain ⟨u, hu, rfl⟩ := natV_of hx
                  have ul : u < es.length := by rw [M.es]; exact hhl u (List.mem_of_getElem? hu)
                  refine ⟨rfl, _, rfl, _, rfl, pe, _, (u : Int), .bl (es.getD u false), rfl, rfl, .inl (MM10.same p1.1).he, atI_nat (by rw [List.getElem?_map, getD_at ul, List.getElem?_eq_getElem ul]; rfl), .inr ⟨_, rfl, ?_⟩⟩
                  exact nturn (f := fun x : Nat => V.bl (es.getD x false)) (small1000 (by omega)) hD4 hu p1 (Same.refl _)
                · rintro H11 p1
                  obtain ⟨s11, hl11⟩ := nend (List.length_map _) p1
                  refine ⟨D4, _, rfl, .inl ⟨SqL.of hl11, fun t2 nt2 => ?_⟩⟩
                  have tb11 := tb_same s11 tb10
                  have n2 := tb_off tb11 nt2
                  have st2 := same_new (o := .tup (heads.map fun x : Nat => V.bl (es.getD x false))) nt2
                  refine ⟨by show 3 ≤ sizeLine; decide, fun r nr => ?_⟩
                  have st3 := same_new (o := .tup [.int (L : Int), .ref t1, .ref t2]) nr
                  have n3 := tb_off (tb_same st2 tb11) nr
                  have s1r := s11.trans (st2.trans st3)
                  have eo : (heads.map fun h => rowDt ((rs.getD h []).map (entO ks heads ps))) = (heads.map fun h => (rs.getD h []).map (entO ks heads ps)).map rowDt := by
                    rw [List.map_map]
                    rfl
                  rw [eo] at dt1
                  have ee : (heads.map fun x : Nat => V.bl (es.getD x false)) = (heads.map fun p => es.getD p false).map V.bl := by
                    rw [List.map_map]
                    rfl
                  refine k _ (.ref r) _ _ (s07.trans (s10.trans s1r)) (.tup n3 (.inl upd_same) (.cons (.int _) (.cons (same_dt s1r dt1) (.cons (.tup n2 (same_rd st3 (.inl upd_same)) ?_) .nil)))) (.inl ⟨heads, CN⟩)
                  rw [ee]
                  exact dt_cs (fun x => Dt.bl x) _
        · rintro σ H1 Q1 Q2 hQ ⟨x, e1, a, kvs, e2, e3, y, e4, e5, b, e6, q⟩
          exact ⟨x, e1, a, kvs, e2, e3, y, e4, e5, b, e6, hQ _ _ q⟩
    · rw [og_nob (k := 0) opI h0]
      have nl : ¬ Live rs es 0 := fun q => h0 ((lv 0).mpr ⟨M.l1, q⟩)
      refine ⟨_, rfl, by show 1 ≤ sizeLine; decide, fun u1 hu1 => ?_⟩
      have e1 := same_new (o := .tup [.non]) hu1
      refine ⟨_, rfl, u1, (L : Int), _, rfl, rfl, .inl upd_same, List.cons_ne_nil _ _, by omega, by omega, by show 1 ≤ 1000; decide, fun q1 H6 s6 hq1 w1 => ?_⟩
      have n1 := nb_of (tb_same e1 tb1) (tb_off tb1 hu1) w1
      have tb6 := tb_same s6 (tb_same e1 tb1)
      refine ⟨by show 1 ≤ sizeLine; decide, fun u2 hu2 => ?_⟩
      have e2 := same_new (o := .tup [.ref q1]) hu2
      have n2 := tb_off tb6 hu2
      refine ⟨by show 1 ≤ sizeLine; decide, fun u3 hu3 => ?_⟩
      have e3 := same_new (o := .tup [.bl false]) hu3
      have n3 := tb_off (tb_same e2 tb6) hu3
      refine ⟨by show 3 ≤ sizeLine; decide, fun r nr => ?_⟩
      have e4 := same_new (o := .tup [.int (L : Int), .ref u2, .ref u3]) nr
      have n4 := tb_off (tb_same e3 (tb_same e2 tb6)) nr
      have er : (List.replicate ((L : Int)).toNat [V.non]).flatten = (List.replicate L (none : Option Nat)).map oV := by
        rw [Int.toNat_natCast, List.map_replicate, List.flatten_replicate_singleton]
        rfl
      rw [er] at hq1
      have s26 := e2.trans (e3.trans e4)
      refine k _ (.ref r) [List.replicate L none] [false] (s1.trans (e1.trans (s6.trans s26))) ?_ (.inr ⟨nl, rfl, rfl⟩)
      exact .tup n4 (.inl upd_same) (.cons (.int _) (.cons (.tup n2 (same_rd (e3.trans e4) (.inl upd_same)) (.cons (.tup n1 (same_rd s26 hq1) (dt_cs o_cs _)) .nil)) (.cons (.tup n3 (same_rd e4 (.inl upd_same)) (.cons (.bl _) .nil)) .nil)))
end
/-! ### rows that are drawn, by what they say of those they come from -/
theorem rd_off {a c q : Addr} {cells : List Int} {n : Int} {H : Hp} {xs : List V} (dk : DeckAt a c cells n H) (h : Rd H q (.tup xs)) : ¬ Bd a c q := by
  rcases h with h | ⟨o, h⟩
  · exact bd_ne h (fun _ z => by cases z) dk.2.1 dk.2.2.1
  · exact bd_ne h (fun _ z => by cases z) dk.2.1 dk.2.2.1
theorem MA.keep {a c : Addr} {cells : List Int} {n : Int} {H H' : Hp} {L : Nat} {rs : Rows} {es : List Bool} {m pr pe : Addr} {rvs : List V} (M : MA H L rs es m pr pe rvs) (dk : DeckAt a c cells n H) (k : Keep (Bd a c) H H') : MA H' L rs es m pr pe rvs :=
  ⟨k.rd (rd_off dk M.hm) M.hm, k.rd (rd_off dk M.hr) M.hr, M.hl, fun u row h => let ⟨q, h1, h2⟩ := M.row u row h; ⟨q, h1, k.rd (rd_off dk h2) h2⟩, k.rd (rd_off dk M.he) M.he⟩
/-- a row that is made at D while the deck is drawn from -/
def WInv (a c D : Addr) (H0 : Hp) (Rel : Nat → Option Nat → Prop) (n0 s : Int) (j : Nat) (H' : Hp) : Prop :=
  ∃ (cells : List Int) (n' : Int) (r : List (Option Nat)), DeckAt a c cells n' H' ∧ n0 ≤ n' ∧ n' ≤ n0 + s * j ∧ Keep (Bd a c) H0 H' ∧ H' D = some (.lst (r.map oV)) ∧ r.length = j ∧ ∀ i x, r[i]? = some x → Rel i x
theorem wstart {a c D : Addr} {H0 : Hp} {Rel : Nat → Option Nat → Prop} {cells : List Int} {n0 s : Int} (dk : DeckAt a c cells n0 H0) (hD : H0 D = none) : WInv a c D H0 Rel n0 s 0 (upd H0 D (.lst [])) :=
  ⟨cells, n0, [], deck_new dk hD, Int.le_refl _, by simp, keep_new hD, upd_same, rfl, fun i v z => by cases z⟩
theorem snoc_at {α : Type} {r : List α} {x y : α} {i : Nat} (h : (r ++ [x])[i]? = some y) : r[i]? = some y ∨ (i = r.length ∧ y = x) := by
  rcases Nat.lt_or_ge i r.length with l | l
  · rw [List.getElem?_append_left l] at h
    exact .inl h
  · have l2 := (List.getElem?_eq_some_iff.mp h).1
    rw [List.length_append, List.length_singleton] at l2
    rw [List.getElem?_append_right l, show i - r.length = 0 by omega] at h
    exact .inr ⟨by omega, (Option.some.inj h).symm⟩
theorem mul_step {s : Int} {j : Nat} : s * ((j + 1 : Nat) : Int) = s * j + s := by
  rw [Int.natCast_add, Int.mul_add]
  simp
theorem wstep {a c D : Addr} {H0 H1 H2 : Hp} {Rel : Nat → Option Nat → Prop} {cells2 : List Int} {n0 s n1 n2 : Int} {j : Nat} {r : List (Option Nat)} {x : Option Nat} (hD0 : H0 D = none) (nD : ¬ Bd a c D) (hj : j ≤ 1000) (h0 : n0 ≤ n1) (h1 : n1 ≤ n0 + s * j) (kp : Keep (Bd a c) H0 H1) (hD : H1 D = some (.lst (r.map oV))) (hl : r.length = j)
    (hG : ∀ i x, r[i]? = some x → Rel i x) (dk : DeckAt a c cells2 n2 H2) (h2 : n1 ≤ n2) (h3 : n2 ≤ n1 + s) (k2 : Keep (Bd a c) H1 H2) (g : Rel j x) :
    ∃ acc', H2 D = some (.lst acc') ∧ acc'.length < sizeLine ∧ WInv a c D H0 Rel n0 s (j + 1) (upd H2 D (.lst (acc' ++ [oV x]))) := by
  refine ⟨_, k2 _ _ nD hD, small1000 (by rw [List.length_map]; omega), cells2, n2, r ++ [x], deck_upd dk nD, by omega, ?_, fun b o nb z => ?_, by rw [upd_same, List.map_append]; rfl, ?_, fun i y hy => ?_⟩
  · rw [mul_step]
    omega
  · rw [upd_ne (ne_of_none z hD0)]
    exact k2 _ _ nb (kp _ _ nb z)
  · rw [List.length_append, hl]
    rfl
  · rcases snoc_at hy with hy | ⟨e1, e2⟩
    · exact hG i y hy
    · rw [e1, e2, hl]
      exact g
/-- the rows that are made so far, in the list at R -/
def XInv (K : PySem.W.Frag) (a c R : Addr) (H : Hp) (Rel : Nat → List (Option Nat) → Prop) (n0 s : Int) (i : Nat) (H' : Hp) : Prop :=
  ∃ (cells : List Int) (n' : Int) (rvs : List V) (rows : Rows), DeckAt a c cells n' H' ∧ n0 ≤ n' ∧ n' ≤ n0 + s * i ∧ Keep (Bd a c) H H' ∧ H' R = some (.lst rvs) ∧ DtAll (B3 a c R) K H' rvs (rows.map rowDt) ∧ rows.length = i ∧ ∀ k r, rows[k]? = some r → Rel k r
theorem rstart {K : PySem.W.Frag} {a c R : Addr} {H : Hp} {Rel : Nat → List (Option Nat) → Prop} {cells : List Int} {n0 s : Int} (dk : DeckAt a c cells n0 H) (hR : H R = none) : XInv K a c R H Rel n0 s 0 (upd H R (.lst [])) :=
  ⟨cells, n0, [], [], deck_new dk hR, Int.le_refl _, by simp, keep_new hR, upd_same, .nil, rfl, fun k r z => by cases z⟩
theorem rstep {K : PySem.W.Frag} {a c R q : Addr} {H H1 H2 : Hp} {Rel : Nat → List (Option Nat) → Prop} {n0 s n1 n2 : Int} {i : Nat} {rvs : List V} {rows : Rows} {r : List (Option Nat)} {cells2 : List Int} (hR0 : H R = none) (nR : ¬ Bd a c R) (hi : i ≤ 1000) (h0 : n0 ≤ n1) (h1 : n1 ≤ n0 + s * i) (kp : Keep (Bd a c) H H1) (hR : H1 R = some (.lst rvs)) (hd : DtAll (B3 a c R) K H1 rvs (rows.map rowDt))
    (hl : rows.length = i) (hr : ∀ k r, rows[k]? = some r → Rel k r) (k2 : Keep (Bd a c) H1 H2) (dk : DeckAt a c cells2 n2 H2) (h2 : n1 ≤ n2) (h3 : n2 ≤ n1 + s) (g : Rel i r) (hq : H2 q = none) :
    ∃ rvs', (upd H2 q (.tup (r.map oV))) R = some (.lst rvs') ∧ rvs'.length < sizeLine ∧ XInv K a c R H Rel n0 s (i + 1) (upd (upd H2 q (.tup (r.map oV))) R (.lst (rvs' ++ [.ref q]))) := by
  have hR2 := k2 _ _ nR hR
  have nq : R ≠ q := ne_of_none hR2 hq
  have k3 : Keep (B3 a c R) H1 (upd (upd H2 q (.tup (r.map oV))) R (.lst (rvs ++ [.ref q]))) := fun b o nb z => by
    rw [upd_ne (fun z : b = R => nb (.inr z)), upd_ne (ne_of_none (k2 _ _ (fun z => nb (.inl z)) z) hq)]
    exact k2 _ _ (fun z => nb (.inl z)) z
  have hlv := hd.len
  rw [List.length_map] at hlv
  refine ⟨rvs, by rw [upd_ne nq]; exact hR2, small1000 (by omega), cells2, n2, rvs ++ [.ref q], rows ++ [r], deck_upd (deck_new dk hq) nR, by omega, ?_, fun b o nb z => ?_, upd_same, ?_, ?_, ?_⟩
  · rw [mul_step]
    omega
  · rw [upd_ne (ne_of_none z hR0), upd_ne (ne_of_none (k2 _ _ nb (kp _ _ nb z)) hq)]
    exact k2 _ _ nb (kp _ _ nb z)
  · rw [List.map_append]
    refine (DtAll.keep k3 _ _ hd).append (.cons (.tup (xs := r.map oV) ?_ (.inl ?_) (dt_cs o_cs _)) .nil)
    · rintro (z | z)
      · exact deck_off dk hq z
      · exact nq z.symm
    · rw [upd_ne nq.symm, upd_same]
  · rw [List.length_append, hl]
    rfl
  · intro k r' hr2
    rcases snoc_at hr2 with z | ⟨e1, e2⟩
    · exact hr k r' z
    · rw [e1, e2, hl]
      exact g
/-- a machine of what was made: the rows in a list, its tuple, the ends -/
theorem deck_tb {a c : Addr} {cells : List Int} {n : Int} {H : Hp} (dk : DeckAt a c cells n H) : TB (Bd a c) H := fun b z => by
  rcases z with z | z
  · rw [z, dk.2.1]
    exact fun y => by cases y
  · rw [z, dk.2.2.1]
    exact fun y => by cases y
theorem XInv.same {K : PySem.W.Frag} {a c R : Addr} {H H1 H2 : Hp} {Rel : Nat → List (Option Nat) → Prop} {n0 s : Int} {i : Nat} (h : XInv K a c R H Rel n0 s i H1) (sm : Same H1 H2) : XInv K a c R H Rel n0 s i H2 := by
  obtain ⟨cells, n1, rvs, rows, dk, h0, h1, k, hR, hd, hl, hr⟩ := h
  exact ⟨cells, n1, rvs, rows, deck_same sm dk, h0, h1, k.trans (Keep.same sm), sm _ _ hR, same_all sm hd, hl, hr⟩
theorem rstep3 {a c R q : Addr} {H1 H2 : Hp} {o o' : HO} (k2 : Keep (Bd a c) H1 H2) (hq : H2 q = none) : Keep (B3 a c R) H1 (upd (upd H2 q o) R o') := fun b u nb z => by
  rw [upd_ne (fun z : b = R => nb (.inr z)), upd_ne (ne_of_none (k2 _ _ (fun z => nb (.inl z)) z) hq)]
  exact k2 _ _ (fun z => nb (.inl z)) z
theorem rel_row {row r : List (Option Nat)} {P : Option Nat → Option Nat → Prop} (p0 : P none none) (hl : r.length = row.length) (h : ∀ (j : Nat) (x : Option Nat), r[j]? = some x → ∃ o : Option Nat, row[j]? = some o ∧ P o x) (c : Nat) : P (row.getD c none) (r.getD c none) := by
  rw [List.getD_eq_getElem?_getD, List.getD_eq_getElem?_getD]
  rcases Nat.lt_or_ge c r.length with l | l
  · obtain ⟨o, e, p⟩ := h c _ (List.getElem?_eq_getElem l)
    rw [e, List.getElem?_eq_getElem l]
    exact p
  · rw [List.getElem?_eq_none l, List.getElem?_eq_none (by omega)]
    exact p0
theorem nx_at {rs : Rws} {s c : Nat} {row : List (Option Nat)} (h : rs[s]? = some row) : nx rs s c = row.getD c none := by
  have e : rs.getD s [] = row := by
    rw [List.getD_eq_getElem?_getD, h]
    rfl
  unfold nx
  rw [e]
theorem row_mem {row : List (Option Nat)} {t : Nat} (h : some t ∈ row) : ∃ c, row.getD c none = some t := by
  obtain ⟨c, hc⟩ := List.mem_iff_getElem?.mp h
  exact ⟨c, by rw [List.getD_eq_getElem?_getD, hc]; rfl⟩
theorem getD_mem {row : List (Option Nat)} {c t : Nat} (h : row.getD c none = some t) : some t ∈ row := by
  rw [List.getD_eq_getElem?_getD] at h
  cases e : row[c]? with
  | none =>
    rw [e] at h
    cases h
  | some x =>
    rw [e] at h
    have h : x = some t := h
    rw [h] at e
    exact List.mem_of_getElem? e
def PD (n : Nat) (o x : Option Nat) : Prop := (o = none ∧ x = none) ∨ ∃ t, o = some t ∧ (x = some t ∨ x = some (t + n))
theorem dbl_of {L : Nat} {rs rows : Rows} {es : List Bool} (M : MOk L rs es) (l2 : rs.length ≤ 200) (hl : rows.length = rs.length + rs.length) (hr : ∀ (k : Nat) (r : List (Option Nat)), rows[k]? = some r → ∃ row : List (Option Nat), (rs ++ rs)[k]? = some row ∧ r.length = row.length ∧ ∀ c, PD rs.length (row.getD c none) (r.getD c none)) : MOk L rows (es ++ es) ∧ Dbl rs rows es (es ++ es) := by
  have l1 := M.l1
  have hm : ∀ r ∈ rows, ∃ row ∈ rs, r.length = row.length ∧ ∀ c, PD rs.length (row.getD c none) (r.getD c none) := fun r h => by
    obtain ⟨k, hk⟩ := List.mem_iff_getElem?.mp h
    obtain ⟨row, e1, e2, e3⟩ := hr k r hk
    refine ⟨row, ?_, e2, e3⟩
    rcases List.mem_append.mp (List.mem_of_getElem? e1) with z | z <;> exact z
  refine ⟨⟨by omega, by omega, fun r h => ?_, fun r h t ht => ?_, by rw [List.length_append, M.es]; exact hl.symm, M.L1, M.L3⟩, ⟨hl, M.es, rfl, fun s s' c hs e => ?_⟩⟩
  · obtain ⟨row, e1, e2, _⟩ := hm r h
    rw [e2]
    exact M.row row e1
  · obtain ⟨row, e1, e2, e3⟩ := hm r h
    obtain ⟨c, hc⟩ := row_mem ht
    rcases e3 c with ⟨_, z⟩ | ⟨t', z1, z2⟩
    · rw [hc] at z
      cases z
    · have := M.tgt row e1 t' (getD_mem z1)
      rw [hc] at z2
      rcases z2 with z2 | z2
      · cases z2
        omega
      · cases z2
        omega
  · have hs' : s' < rows.length := by omega
    obtain ⟨row, e1, _, e3⟩ := hr s' _ (List.getElem?_eq_getElem hs')
    have e0 : rs[s]? = some row := by
      rcases e with e | e
      · rw [e, List.getElem?_append_left hs] at e1
        exact e1
      · rw [e, List.getElem?_append_right (by omega), show s + rs.length - rs.length = s by omega] at e1
        exact e1
    rw [nx_at e0, nx_at (List.getElem?_eq_getElem hs')]
    exact e3 c

/-! ### each state twice -/
section
variable {P : Program} {w : World} {K : PySem.W.Frag} {mg : Str → Option Value} {base : Heap}
theorem scDoubled : FnScope ["_law_deck_here", "_law_machine_here", "_law_letters", "_law_rows", "_law_ends", "_law_many", "_law_found", "_law_row", "_law_item"] ["_law_deck_here", "_law_machine_here"] (defScope sDoubled) := ⟨rfl, rfl, rfl, by decide +kernel, rfl, by decide +kernel, by decide +kernel⟩
def spDoubled (K : PySem.W.Frag) : Sp := fun vs H Q _ => ∃ (a c : Addr) (cells : List Int) (n : Int) (x : V) (L : Nat) (rs : Rows) (es : List Bool), vs = [.ref a, x] ∧ DeckAt a c cells n H ∧ 0 ≤ n ∧ n ≤ 900000 ∧ Dt (Bd a c) K H x (machDt L rs es) ∧ MOk L rs es ∧ rs.length ≤ 200 ∧
  ∀ (H' : Hp) (cells' : List Int) (n' : Int) (v : V) (rs' : Rows) (es' : List Bool), DeckAt a c cells' n' H' → n ≤ n' → n' ≤ n + 3000 → Keep (Bd a c) H H' → Dt (Bd a c) K H' v (machDt L rs' es') → MOk L rs' es' → Dbl rs rs' es es' → Q v H'
theorem ok_doubled {f fDR : Addr} {fd fdDR : FuncData} (F : Fun K "_law_doubled" "_law_doubled" sDoubled f fd)
    (DR : FnOk P w K mg base CX0 1 fDR fdDR ["_law_deck_here", "_law_many"] spDraw) (FDR : Fun K "_law_draw" "_law_draw" sDraw fDR fdDR) (bDR : Binds K fdDR ["_law_deck_here", "_law_many"] []) (gDR : mg "_law_draw" = some (.ref fDR)) (T : Mg mg) : FnOk P w K mg base CX0 2 f fd ["_law_deck_here", "_law_machine_here"] (spDoubled K) := by
  refine F.ok scDoubled (fun vs H Q E h => ?_) (fun cdv A outer s H vs Q E hr h => ?_)
  · obtain ⟨a, c, cells, n, x, L, rs, es, rfl, _⟩ := h
    rfl
  · obtain ⟨a, c, cells, n, x, L, rs, es, rfl, dk, n0, n9, hx, M, l2, k⟩ := h
    refine ⟨_, (pss_cons (ps_asg (pv 1) (pg_tup rfl (pgs_cons (pg_name (i := 2) scDoubled.nd rfl (.inl rfl)) (pgs_cons (pg_name (i := 3) scDoubled.nd rfl (.inl rfl)) (pgs_cons (pg_name (i := 4) scDoubled.nd rfl (.inl rfl)) pgs_nil)))))
      (pss_cons (ps_asg (pe_tup (pa_cons (pe_callB (r := rLen K) call_len_seq (by rfl) T.len PySem.boot_len (pa_cons (pv 3) pa_nil)) (pa_cons (pe_lst pa_nil) pa_nil))) (pg_tup rfl (pgs_cons (pg_name (i := 5) scDoubled.nd rfl (.inr rfl)) (pgs_cons (pg_name (i := 6) scDoubled.nd rfl (.inl rfl)) pgs_nil))))
      (pss_cons (ps_for PassesOwn.never rfl (pi_tup (pe_op op_catS (pv 3) (pv 3))) (pg_name (i := 7) scDoubled.nd rfl (.inl rfl)) (pss_one (ps_expr (pe_bm PySem.F.plainAttrs_list PySem.F.slot_list_append PySem.F.type_list_append mt_append (pv 6) (pa_cons (pe_callTy (r := rTup K) call_tuple_of (by rfl) T.tuple PyProof.Rows.boot_tuple (pa_cons (pe_lc (own := [("_law_item", 8)]) (g := gName 8) (tt := tYes) rfl scDoubled.nd (pi_tup (pv 7)) (blkOk_by (N := ["_law_deck_here", "_law_machine_here", "_law_letters", "_law_rows", "_law_ends", "_law_many", "_law_found", "_law_row", "_law_item"]) (sc := defScope sDoubled) (by decide +kernel)) (fun _ _ _ _ _ => pg_name (i := 8) scDoubled.nd rfl (Or.inl rfl)) (fun _ _ _ _ _ => pts_nil) (fun _ _ _ _ _ => (pe_ifExp (pt_cmp (pc_isN (pv 8))) pe_non (pe_op op_add (pv 8) (pe_op op_mul (pv 5) (pe_call DR (hr.mono (by decide)) (by rfl) gDR FDR.kp bDR .nil pass0 (pa_cons (pv 0) (pa_cons pe_int pa_nil)))))))) pa_nil)) pa_nil)))))
      (pss_one (ps_ret (pe_tup (pa_cons (pv 2) (pa_cons (pe_callTy (r := rTup K) call_tuple_of (by rfl) T.tuple PyProof.Rows.boot_tuple (pa_cons (pv 6) pa_nil)) (pa_cons (pe_op op_catS (pv 4) (pv 4)) pa_nil))))))))), ?_⟩
    have L1 := M.L1
    have L3 := M.L3
    have l1 := M.l1
    obtain ⟨m, pr, pe, rvs, rfl, nm, MM⟩ := dt_mach hx
    have hlv := MM.hl
    refine ⟨_, rfl, m, _, rfl, .inl MM.hm, rfl, _, _, rfl, _, _, rfl, _, _, rfl, rfl, ?_⟩
    refine ⟨_, rfl, pr, rvs, rfl, .inr (.inl MM.hr), by show 0 ≤ sizeLine; decide, fun R hR => ?_⟩
    have X0 : XInv K a c R H (fun (k : Nat) (r : List (Option Nat)) => ∃ row : List (Option Nat), (rs ++ rs)[k]? = some row ∧ r.length = row.length ∧ ∀ c, PD rs.length (row.getD c none) (r.getD c none)) n 6 0 _ := rstart dk hR
    have nR := deck_off dk hR
    generalize upd H R (.lst []) = G0 at *
    refine ⟨by show 2 ≤ sizeLine; decide, fun T2 hT => ⟨T2, _, rfl, SqT.of upd_same, rfl, _, _, rfl, _, _, rfl, rfl, ?_⟩⟩
    have X1 := X0.same (same_new (o := .tup [.int (rvs.length : Int), .ref R]) hT)
    clear X0 hT
    generalize upd G0 T2 (.tup [.int (rvs.length : Int), .ref R]) = G1 at *
    have MM1 : MA G1 L rs es m pr pe rvs := by
      obtain ⟨_, _, _, _, _, _, _, k1, _⟩ := X1
      exact MM.keep dk k1
    refine ⟨_, rfl, _, rfl, pr, pr, rvs, rvs, rfl, rfl, MM1.hr, MM1.hr, sz_of (by omega), fun q2 G2 s2 hq2 _ => ?_⟩
    have X2 := X1.same s2
    clear X1 MM1 s2
    refine ⟨q2, rfl, ⟨_, .inl hq2⟩, ?_⟩
    refine for_tup (K := K) (a := q2) (xs := rvs ++ rvs) (fun i σ H' => (∃ y7, σ = [some (.ref a), some (.ref m), some (.int (L : Int)), some (.ref pr), some (.ref pe), some (.int (rvs.length : Int)), some (.ref R), y7, none]) ∧ XInv K a c R H (fun (k : Nat) (r : List (Option Nat)) => ∃ row : List (Option Nat), (rs ++ rs)[k]? = some row ∧ r.length = row.length ∧ ∀ c, PD rs.length (row.getD c none) (r.getD c none)) n 6 i H' ∧ Rd H' q2 (.tup (rvs ++ rvs)))
      ⟨⟨_, rfl⟩, X2, hq2⟩ (fun i σ H' _ p => .inl p.2.2) ?_ ?_
    · rintro i x σ H1 hx1 ⟨⟨y7, rfl⟩, ⟨cells1, n1, rvs1, rows1, dk1, g0, g1, k1, hR1, hd1, hl1, hr1⟩, hq1⟩
      have il := (List.getElem?_eq_some_iff.mp hx1).1
      rw [List.length_append] at il
      have MM1 := MM.keep dk k1
      obtain ⟨row, q, hrow, e, hq⟩ : ∃ row q, (rs ++ rs)[i]? = some row ∧ x = .ref q ∧ Rd H1 q (.tup (row.map oV)) := by
        rcases Nat.lt_or_ge i rs.length with z | z
        · obtain ⟨q, e1, e2⟩ := MM1.row i _ (List.getElem?_eq_getElem z)
          rw [List.getElem?_append_left (by omega), e1] at hx1
          exact ⟨_, q, by rw [List.getElem?_append_left z]; exact List.getElem?_eq_getElem z, (Option.some.inj hx1).symm, e2⟩
        · have z2 : i - rs.length < rs.length := by omega
          obtain ⟨q, e1, e2⟩ := MM1.row (i - rs.length) _ (List.getElem?_eq_getElem z2)
          rw [List.getElem?_append_right (by omega), hlv, e1] at hx1
          exact ⟨_, q, by rw [List.getElem?_append_right z]; exact List.getElem?_eq_getElem z2, (Option.some.inj hx1).symm, e2⟩
      subst e
      have hrl : row.length = L := M.row row (by rcases List.mem_append.mp (List.mem_of_getElem? hrow) with z | z <;> exact z)
      refine ⟨_, rfl, .inl ⟨rfl, _, SqL.of hR1⟩, ?_⟩
      refine ⟨_, rfl, q, rfl, ⟨_, .inl hq⟩, fun D hD => ?_⟩
      have nD := deck_off dk1 hD
      refine lc_tup (K := K) (a := q) (xs := row.map oV) (WInv a c D H1 (fun (j : Nat) (x : Option Nat) => ∃ o : Option Nat, row[j]? = some o ∧ PD rs.length o x) n1 1) (wstart dk1 hD) (fun j H' _ p => by
        obtain ⟨_, _, _, _, _, _, kk, _⟩ := p
        exact .inl (kk.rd (rd_off dk1 hq) hq)) ?_ ?_
      · rintro j x H2 hx2 ⟨cells2, n2, r2, dk2, f0, f1, k2, hD2, hl2, hg2⟩
        rw [List.getElem?_map] at hx2
        obtain ⟨o, ho, rfl⟩ := Option.map_eq_some_iff.mp hx2
        have jl := (List.getElem?_eq_some_iff.mp ho).1
        refine ⟨rfl, _, rfl, _, rfl, ?_⟩
        cases o with
        | none => exact wstep (x := none) hD nD (by omega) f0 f1 k2 hD2 hl2 hg2 dk2 (Int.le_refl _) (by omega) Keep.rfl' ⟨none, ho, .inl ⟨rfl, rfl⟩⟩
        | some t =>
          refine ⟨_, rfl, _, rfl, _, rfl, a, c, cells2, n2, 2, rfl, dk2, by decide, by decide, by omega, by omega, fun H3 cells3 r r0 r1 dk3 k3 => ?_⟩
          obtain ⟨t2, e2, p2⟩ : ∃ t2 : Nat, V.int ((t : Int) + (rvs.length : Int) * r) = oV (some t2) ∧ (some t2 = some t ∨ some t2 = some (t + rs.length)) := by
            have : r = 0 ∨ r = 1 := by omega
            rcases this with z | z
            · exact ⟨t, by rw [z, Int.mul_zero, Int.add_zero]; rfl, .inl rfl⟩
            · exact ⟨t + rs.length, by rw [z, Int.mul_one, hlv]; rfl, .inr rfl⟩
          obtain ⟨acc', e3, e4, e5⟩ := wstep (x := some t2) (H2 := H3) hD nD (by omega) f0 f1 k2 hD2 hl2 hg2 dk3 (by omega) (by omega) k3 ⟨some t, ho, .inr ⟨t, rfl, p2⟩⟩
          rw [← e2] at e5
          exact ⟨_, _, rfl, rfl, .inr ⟨by omega, by omega⟩, _, _, rfl, rfl, acc', e3, e4, e5⟩
      · rintro H2 ⟨cells2, n2, r2, dk2, f0, f1, k2, hD2, hl2, hg2⟩
        rw [List.length_map] at f1 hl2
        refine ⟨D, _, rfl, .inl ⟨SqL.of hD2, fun q3 hq3 => ?_⟩⟩
        obtain ⟨rvs', e1, e2, e3⟩ := rstep hR nR (by omega) g0 g1 k1 hR1 hd1 hl1 hr1 k2 dk2 f0 (by omega) ⟨row, hrow, hl2, rel_row (.inl ⟨rfl, rfl⟩) hl2 hg2⟩ hq3
        exact ⟨R, _, _, rfl, rfl, e1, e2, ⟨_, rfl⟩, e3, (rstep3 k2 hq3).rd (fun z => by
          rcases z with z | z
          · exact rd_off dk1 hq1 z
          · rw [z] at hq1
            rcases hq1 with hq1 | ⟨_, hq1⟩
            · rw [hR1] at hq1
              cases hq1
            · rw [hR1] at hq1
              cases hq1) hq1⟩
    · rintro σ H1 ⟨⟨y7, rfl⟩, ⟨cells1, n1, rvs1, rows1, dk1, g0, g1, k1, hR1, hd1, hl1, hr1⟩, hq1⟩
      rw [List.length_append, hlv] at hl1 g1
      obtain ⟨M2, DB⟩ := dbl_of M l2 hl1 hr1
      have MM1 := MM.keep dk k1
      refine ⟨_, rfl, _, rfl, R, _, rfl, .inl ⟨SqL.of hR1, fun t1 nt1 => ?_⟩⟩
      have st := same_new (o := .tup rvs1) nt1
      have dk2 := deck_same st dk1
      have MM2 := MM1.same st
      have dt1 : Dt (Bd a c) K (upd H1 t1 (.tup rvs1)) (.ref t1) (.tuple (rows1.map rowDt)) := .tup (deck_off dk1 nt1) (.inl upd_same) (same_all st (DtAll.weak (fun b z => .inl z) _ _ hd1))
      generalize upd H1 t1 (.tup rvs1) = H2 at *
      refine ⟨_, rfl, _, rfl, pe, pe, _, _, rfl, rfl, MM2.he, MM2.he, sz_of (by rw [List.length_map, M.es]; omega), fun q3 H3 s3 hq3 _ => ?_⟩
      have dk3 := deck_same s3 dk2
      rw [← List.map_append] at hq3
      have n3 := rd_off dk3 hq3
      refine ⟨by show 3 ≤ sizeLine; decide, fun r nr => ?_⟩
      have s4 := same_new (o := .tup [.int (L : Int), .ref t1, .ref q3]) nr
      refine k _ cells1 n1 (.ref r) rows1 (es ++ es) (deck_same s4 dk3) g0 (by omega) (k1.trans (Keep.same ((st.trans s3).trans s4))) ?_ M2 DB
      exact .tup (deck_off dk3 nr) (.inl upd_same) (.cons (.int _) (.cons (same_dt (s3.trans s4) dt1) (.cons (.tup n3 (same_rd s4 hq3) (dt_cs (fun x => Dt.bl x) _)) .nil)))
end
/-! ### more ways, to a state without words -/
def PM (n : Nat) (o x : Option Nat) : Prop := (o = none ∧ (x = none ∨ x = some n)) ∨ ∃ t, o = some t ∧ x = some t
theorem more_of {L : Nat} {rs rows : Rows} {es : List Bool} {last : List (Option Nat)} {b : Bool} (M : MOk L rs es) (l2 : rs.length ≤ 200) (hl : rows.length = rs.length) (hr : ∀ (k : Nat) (r : List (Option Nat)), rows[k]? = some r → ∃ row : List (Option Nat), rs[k]? = some row ∧ r.length = row.length ∧ ∀ c, PM rs.length (row.getD c none) (r.getD c none))
    (ll : last.length = L) (lt : ∀ t, some t ∈ last → t < rs.length + 2) : MOk L (rows ++ [List.replicate L (some rs.length)] ++ [last]) (es ++ [false, b]) ∧ Mor rs (rows ++ [List.replicate L (some rs.length)] ++ [last]) es (es ++ [false, b]) := by
  have l1 := M.l1
  have le := M.es
  have len : (rows ++ [List.replicate L (some rs.length)] ++ [last]).length = rs.length + 2 := by
    rw [List.length_append, List.length_append, List.length_singleton, List.length_singleton, hl]
  have hm : ∀ r ∈ rows, ∃ row ∈ rs, r.length = row.length ∧ ∀ c, PM rs.length (row.getD c none) (r.getD c none) := fun r h => by
    obtain ⟨k, hk⟩ := List.mem_iff_getElem?.mp h
    obtain ⟨row, e1, e2, e3⟩ := hr k r hk
    exact ⟨row, List.mem_of_getElem? e1, e2, e3⟩
  have low : ∀ {s : Nat}, s < rs.length → ∃ r, (rows ++ [List.replicate L (some rs.length)] ++ [last])[s]? = some r ∧ rows[s]? = some r := fun {s} hs => by
    have hs' : s < rows.length := by omega
    exact ⟨rows[s], by rw [List.append_assoc, List.getElem?_append_left hs']; exact List.getElem?_eq_getElem hs', List.getElem?_eq_getElem hs'⟩
  have mid : (rows ++ [List.replicate L (some rs.length)] ++ [last])[rs.length]? = some (List.replicate L (some rs.length)) := by
    rw [List.append_assoc, List.getElem?_append_right (by omega), show rs.length - rows.length = 0 by omega]
    rfl
  refine ⟨⟨by omega, by omega, fun r h => ?_, fun r h t ht => ?_, by rw [List.length_append, len, le]; rfl, M.L1, M.L3⟩, ⟨le, fun s hs => ?_, ⟨?_, fun c t e => ?_⟩, fun s c hs => ?_⟩⟩
  · rcases List.mem_append.mp h with h | h
    · rcases List.mem_append.mp h with h | h
      · obtain ⟨row, e1, e2, _⟩ := hm r h
        rw [e2]
        exact M.row row e1
      · rw [List.mem_singleton.mp h, List.length_replicate]
    · rw [List.mem_singleton.mp h]
      exact ll
  · rw [len]
    rcases List.mem_append.mp h with h | h
    · rcases List.mem_append.mp h with h | h
      · obtain ⟨row, e1, e2, e3⟩ := hm r h
        obtain ⟨c, hc⟩ := row_mem ht
        rcases e3 c with ⟨_, z⟩ | ⟨t', z1, z2⟩
        · rw [hc] at z
          rcases z with z | z
          · cases z
          · cases z
            omega
        · have := M.tgt row e1 t' (getD_mem z1)
          rw [hc] at z2
          cases z2
          omega
      · rw [List.mem_singleton.mp h] at ht
        have := (List.mem_replicate.mp ht).2
        cases this
        omega
    · rw [List.mem_singleton.mp h] at ht
      exact lt t ht
  · rw [List.getD_eq_getElem?_getD, List.getD_eq_getElem?_getD, List.getElem?_append_left (by omega)]
  · rw [List.getD_eq_getElem?_getD, List.getElem?_append_right (by omega), show rs.length - es.length = 0 by omega]
    rfl
  · rw [nx_at mid] at e
    have := (List.mem_replicate.mp (getD_mem e)).2
    exact Option.some.inj this
  · obtain ⟨r, h1, h2⟩ := low hs
    obtain ⟨row, e1, _, e3⟩ := hr s r h2
    rw [nx_at e1, nx_at h1]
    exact e3 c

section
variable {P : Program} {w : World} {K : PySem.W.Frag} {mg : Str → Option Value} {base : Heap}
theorem scMore : FnScope ["_law_deck_here", "_law_machine_here", "_law_letters", "_law_rows", "_law_ends", "_law_dead", "_law_found", "_law_row", "_law_item", "_law_at"] ["_law_deck_here", "_law_machine_here"] (defScope sMore) := ⟨rfl, rfl, rfl, by decide +kernel, rfl, by decide +kernel, by decide +kernel⟩
def spMore (K : PySem.W.Frag) : Sp := fun vs H Q _ => ∃ (a c : Addr) (cells : List Int) (n : Int) (x : V) (L : Nat) (rs : Rows) (es : List Bool), vs = [.ref a, x] ∧ DeckAt a c cells n H ∧ 0 ≤ n ∧ n ≤ 900000 ∧ Dt (Bd a c) K H x (machDt L rs es) ∧ MOk L rs es ∧ rs.length ≤ 200 ∧
  ∀ (H' : Hp) (cells' : List Int) (n' : Int) (v : V) (rs' : Rows) (es' : List Bool), DeckAt a c cells' n' H' → n ≤ n' → n' ≤ n + 3000 → Keep (Bd a c) H H' → Dt (Bd a c) K H' v (machDt L rs' es') → MOk L rs' es' → rs'.length = rs.length + 2 → Mor rs rs' es es' → Q v H'
theorem ok_more {f fDR fON : Addr} {fd fdDR fdON : FuncData} (F : Fun K "_law_more" "_law_more" sMore f fd)
    (DR : FnOk P w K mg base CX0 1 fDR fdDR ["_law_deck_here", "_law_many"] spDraw) (FDR : Fun K "_law_draw" "_law_draw" sDraw fDR fdDR) (bDR : Binds K fdDR ["_law_deck_here", "_law_many"] []) (gDR : mg "_law_draw" = some (.ref fDR))
    (ON : FnOk P w K mg base CX0 2 fON fdON ["_law_deck_here", "_law_items"] (spOne K)) (FON : Fun K "_law_one" "_law_one" sOne fON fdON) (bON : Binds K fdON ["_law_deck_here", "_law_items"] []) (gON : mg "_law_one" = some (.ref fON)) (T : Mg mg) : FnOk P w K mg base CX0 3 f fd ["_law_deck_here", "_law_machine_here"] (spMore K) := by
  refine F.ok scMore (fun vs H Q E h => ?_) (fun cdv A outer s H vs Q E hr h => ?_)
  · obtain ⟨a, c, cells, n, x, L, rs, es, rfl, _⟩ := h
    rfl
  · obtain ⟨a, c, cells, n, x, L, rs, es, rfl, dk, n0, n9, hx, M, l2, k⟩ := h
    refine ⟨_, (pss_cons (ps_asg (pv 1) (pg_tup rfl (pgs_cons (pg_name (i := 2) scMore.nd rfl (.inl rfl)) (pgs_cons (pg_name (i := 3) scMore.nd rfl (.inl rfl)) (pgs_cons (pg_name (i := 4) scMore.nd rfl (.inl rfl)) pgs_nil)))))
      (pss_cons (ps_asg (pe_tup (pa_cons (pe_callB (r := rLen K) call_len_seq (by rfl) T.len PySem.boot_len (pa_cons (pv 3) pa_nil)) (pa_cons (pe_lst pa_nil) pa_nil))) (pg_tup rfl (pgs_cons (pg_name (i := 5) scMore.nd rfl (.inr rfl)) (pgs_cons (pg_name (i := 6) scMore.nd rfl (.inl rfl)) pgs_nil))))
      (pss_cons (ps_for PassesOwn.never rfl (pi_tup (pv 3)) (pg_name (i := 7) scMore.nd rfl (.inl rfl)) (pss_one (ps_expr (pe_bm PySem.F.plainAttrs_list PySem.F.slot_list_append PySem.F.type_list_append mt_append (pv 6) (pa_cons (pe_callTy (r := rTup K) call_tuple_of (by rfl) T.tuple PyProof.Rows.boot_tuple (pa_cons (pe_lc (own := [("_law_item", 8)]) (g := gName 8) (tt := tYes) rfl scMore.nd (pi_tup (pv 7)) (blkOk_by (N := ["_law_deck_here", "_law_machine_here", "_law_letters", "_law_rows", "_law_ends", "_law_dead", "_law_found", "_law_row", "_law_item", "_law_at"]) (sc := defScope sMore) (by decide +kernel)) (fun _ _ _ _ _ => pg_name (i := 8) scMore.nd rfl (Or.inl rfl)) (fun _ _ _ _ _ => pts_nil) (fun _ _ _ _ _ => (pe_ifExp (pt_cmp (pc_isN (pv 8))) (pe_call ON (hr.mono (by decide)) (by rfl) gON FON.kp bON .nil pass0 (pa_cons (pv 0) (pa_cons (pe_lst (pa_cons pe_non (pa_cons (pv 5) pa_nil))) pa_nil))) (pv 8)))) pa_nil)) pa_nil)))))
      (pss_cons (ps_expr (pe_bm PySem.F.plainAttrs_list PySem.F.slot_list_append PySem.F.type_list_append mt_append (pv 6) (pa_cons (pe_op op_repS (pe_tup (pa_cons (pv 5) pa_nil)) (pv 2)) pa_nil)))
      (pss_cons (ps_expr (pe_bm PySem.F.plainAttrs_list PySem.F.slot_list_append PySem.F.type_list_append mt_append (pv 6) (pa_cons (pe_callTy (r := rTup K) call_tuple_of (by rfl) T.tuple PyProof.Rows.boot_tuple (pa_cons (pe_lc (own := [("_law_at", 9)]) (g := gName 9) (tt := tYes) rfl scMore.nd (pi_range1 (by rfl) T.range (pa_cons (pv 2) pa_nil)) (blkOk_by (N := ["_law_deck_here", "_law_machine_here", "_law_letters", "_law_rows", "_law_ends", "_law_dead", "_law_found", "_law_row", "_law_item", "_law_at"]) (sc := defScope sMore) (by decide +kernel)) (fun _ _ _ _ _ => pg_name (i := 9) scMore.nd rfl (Or.inl rfl)) (fun _ _ _ _ _ => pts_nil) (fun _ _ _ _ _ => (pe_call DR (hr.mono (by decide)) (by rfl) gDR FDR.kp bDR .nil pass0 (pa_cons (pv 0) (pa_cons (pe_op op_add (pv 5) pe_int) pa_nil))))) pa_nil)) pa_nil)))
      (pss_one (ps_ret (pe_tup (pa_cons (pv 2) (pa_cons (pe_callTy (r := rTup K) call_tuple_of (by rfl) T.tuple PyProof.Rows.boot_tuple (pa_cons (pv 6) pa_nil)) (pa_cons (pe_op op_catS (pv 4) (pe_tup (pa_cons pe_bl (pa_cons (pe_cmpR op_eq (pe_call DR (hr.mono (by decide)) (by rfl) gDR FDR.kp bDR .nil pass0 (pa_cons (pv 0) (pa_cons pe_int pa_nil))) pe_int (nomark _)) pa_nil)))) pa_nil))))))))))), ?_⟩
    have L1 := M.L1
    have L3 := M.L3
    have l1 := M.l1
    obtain ⟨m, pr, pe, rvs, rfl, nm, MM⟩ := dt_mach hx
    have hlv := MM.hl
    refine ⟨_, rfl, m, _, rfl, .inl MM.hm, rfl, _, _, rfl, _, _, rfl, _, _, rfl, rfl, ?_⟩
    refine ⟨_, rfl, pr, rvs, rfl, .inr (.inl MM.hr), by show 0 ≤ sizeLine; decide, fun R hR => ?_⟩
    have X0 : XInv K a c R H (fun (k : Nat) (r : List (Option Nat)) => ∃ row : List (Option Nat), rs[k]? = some row ∧ r.length = row.length ∧ ∀ c, PM rs.length (row.getD c none) (r.getD c none)) n 6 0 _ := rstart dk hR
    have nR := deck_off dk hR
    generalize upd H R (.lst []) = G0 at *
    refine ⟨by show 2 ≤ sizeLine; decide, fun T2 hT => ⟨T2, _, rfl, SqT.of upd_same, rfl, _, _, rfl, _, _, rfl, rfl, ?_⟩⟩
    have X1 := X0.same (same_new (o := .tup [.int (rvs.length : Int), .ref R]) hT)
    clear X0 hT
    generalize upd G0 T2 (.tup [.int (rvs.length : Int), .ref R]) = G1 at *
    have hpr1 : Rd G1 pr (.tup rvs) := by
      obtain ⟨_, _, _, _, _, _, _, k1, _⟩ := X1
      exact (MM.keep dk k1).hr
    refine ⟨_, rfl, pr, rfl, ⟨_, .inl hpr1⟩, ?_⟩
    refine for_tup (K := K) (a := pr) (xs := rvs) (fun i σ H' => (∃ y7, σ = [some (.ref a), some (.ref m), some (.int (L : Int)), some (.ref pr), some (.ref pe), some (.int (rvs.length : Int)), some (.ref R), y7, none, none]) ∧ XInv K a c R H (fun (k : Nat) (r : List (Option Nat)) => ∃ row : List (Option Nat), rs[k]? = some row ∧ r.length = row.length ∧ ∀ c, PM rs.length (row.getD c none) (r.getD c none)) n 6 i H')
      ⟨⟨_, rfl⟩, X1⟩ (fun i σ H' _ p => by
        obtain ⟨_, ⟨_, _, _, _, _, _, _, k1, _⟩⟩ := p
        exact .inl (MM.keep dk k1).hr) ?_ ?_
    · rintro i x σ H1 hx1 ⟨⟨y7, rfl⟩, ⟨cells1, n1, rvs1, rows1, dk1, g0, g1, k1, hR1, hd1, hl1, hr1⟩⟩
      have il := (List.getElem?_eq_some_iff.mp hx1).1
      have MM1 := MM.keep dk k1
      obtain ⟨row, q, hrow, e, hq⟩ : ∃ row q, rs[i]? = some row ∧ x = .ref q ∧ Rd H1 q (.tup (row.map oV)) := by
        obtain ⟨q, e1, e2⟩ := MM1.row i _ (List.getElem?_eq_getElem (show i < rs.length by omega))
        rw [e1] at hx1
        exact ⟨_, q, List.getElem?_eq_getElem (show i < rs.length by omega), (Option.some.inj hx1).symm, e2⟩
      subst e
      have hrl : row.length = L := M.row row (List.mem_of_getElem? hrow)
      refine ⟨_, rfl, .inl ⟨rfl, _, SqL.of hR1⟩, ?_⟩
      refine ⟨_, rfl, q, rfl, ⟨_, .inl hq⟩, fun D hD => ?_⟩
      have nD := deck_off dk1 hD
      refine lc_tup (K := K) (a := q) (xs := row.map oV) (WInv a c D H1 (fun (j : Nat) (x : Option Nat) => ∃ o : Option Nat, row[j]? = some o ∧ PM rs.length o x) n1 1) (wstart dk1 hD) (fun j H' _ p => by
        obtain ⟨_, _, _, _, _, _, kk, _⟩ := p
        exact .inl (kk.rd (rd_off dk1 hq) hq)) ?_ ?_
      · rintro j x H2 hx2 ⟨cells2, n2, r2, dk2, f0, f1, k2, hD2, hl2, hg2⟩
        rw [List.getElem?_map] at hx2
        obtain ⟨o, ho, rfl⟩ := Option.map_eq_some_iff.mp hx2
        have jl := (List.getElem?_eq_some_iff.mp ho).1
        refine ⟨rfl, _, rfl, _, rfl, ?_⟩
        cases o with
        | some t => exact ⟨_, rfl, wstep (x := some t) hD nD (by omega) f0 f1 k2 hD2 hl2 hg2 dk2 (Int.le_refl _) (by omega) Keep.rfl' ⟨some t, ho, .inr ⟨t, rfl, rfl⟩⟩⟩
        | none =>
          refine ⟨_, rfl, _, rfl, by show 2 ≤ sizeLine; decide, fun l hl => ?_⟩
          have dkl := deck_new (o := .lst [.non, .int (rvs.length : Int)]) dk2 hl
          refine ⟨a, c, l, cells2, n2, _, rfl, dkl, by omega, by omega, SqL.of upd_same, deck_off dk2 hl, List.cons_ne_nil _ _, by show 2 ≤ 1000; decide, fun H3 cells3 x hx3 dk3 k3 => ?_⟩
          have k4 : Keep (Bd a c) H2 H3 := (keep_new hl).trans k3
          obtain ⟨o2, e2, p2⟩ : ∃ o2 : Option Nat, x = oV o2 ∧ (o2 = none ∨ o2 = some rs.length) := by
            rcases List.mem_cons.mp hx3 with z | z
            · exact ⟨none, z, .inl rfl⟩
            · exact ⟨some rs.length, by rw [List.mem_singleton.mp z, hlv]; rfl, .inr rfl⟩
          rw [e2]
          exact wstep (x := o2) (H2 := H3) hD nD (by omega) f0 f1 k2 hD2 hl2 hg2 dk3 (by omega) (by omega) k4 ⟨none, ho, .inl ⟨rfl, p2⟩⟩
      · rintro H2 ⟨cells2, n2, r2, dk2, f0, f1, k2, hD2, hl2, hg2⟩
        rw [List.length_map] at f1 hl2
        refine ⟨D, _, rfl, .inl ⟨SqL.of hD2, fun q3 hq3 => ?_⟩⟩
        obtain ⟨rvs', e1, e2, e3⟩ := rstep hR nR (by omega) g0 g1 k1 hR1 hd1 hl1 hr1 k2 dk2 f0 (by omega) ⟨row, hrow, hl2, rel_row (.inl ⟨rfl, .inl rfl⟩) hl2 hg2⟩ hq3
        exact ⟨R, _, _, rfl, rfl, e1, e2, ⟨_, rfl⟩, e3⟩
    · rintro σ H1 ⟨⟨y7, rfl⟩, ⟨cells1, n1, rvs1, rows1, dk1, g0, g1, k1, hR1, hd1, hl1, hr1⟩⟩
      rw [hlv] at hl1 g1
      have rl := hd1.len
      rw [List.length_map] at rl
      have sml : ∀ j : Nat, j ≤ 3 → rvs1.length + j < sizeLine := fun j hj => small1000 (by omega)
      -- the dead one
      refine ⟨_, rfl, .inl ⟨rfl, _, SqL.of hR1⟩, ?_⟩
      refine ⟨_, rfl, by show 1 ≤ sizeLine; decide, fun u1 hu1 => ?_⟩
      have e1 := same_new (o := .tup [.int (rvs.length : Int)]) hu1
      have dk1' := deck_same e1 dk1
      refine ⟨_, rfl, u1, (L : Int), _, rfl, rfl, .inl upd_same, List.cons_ne_nil _ _, by omega, by omega, by show 1 ≤ 1000; decide, fun q1 H2 s2 hq1 _ => ?_⟩
      have er : (List.replicate ((L : Int)).toNat [V.int (rvs.length : Int)]).flatten = (List.replicate L (some rs.length)).map oV := by
        rw [Int.toNat_natCast, List.map_replicate, List.flatten_replicate_singleton, hlv]
        rfl
      rw [er] at hq1
      have dk2 := deck_same s2 dk1'
      have nq1 := rd_off dk2 hq1
      have hR2 := s2 _ _ (e1 _ _ hR1)
      have nqR : q1 ≠ R := fun z => by
        rw [z] at hq1
        rcases hq1 with hq1 | ⟨_, hq1⟩
        · rw [hR2] at hq1
          cases hq1
        · rw [hR2] at hq1
          cases hq1
      refine ⟨R, _, _, rfl, rfl, hR2, sml 0 (by omega), ?_⟩
      have hd3 : DtAll (B3 a c R) K (upd H2 R (.lst (rvs1 ++ [.ref q1]))) (rvs1 ++ [.ref q1]) ((rows1 ++ [List.replicate L (some rs.length)]).map rowDt) := by
        rw [List.map_append]
        refine DtAll.keep (keep_store (.inr rfl)) _ _ ((same_all (e1.trans s2) hd1).append (.cons (.tup ?_ hq1 (dt_cs o_cs _)) .nil))
        rintro (z | z)
        · exact nq1 z
        · exact nqR z
      have dk3 := deck_upd (o := .lst (rvs1 ++ [.ref q1])) dk2 nR
      have hR3 : (upd H2 R (.lst (rvs1 ++ [.ref q1]))) R = some (.lst (rvs1 ++ [.ref q1])) := upd_same
      have k3 : Keep (Bd a c) H (upd H2 R (.lst (rvs1 ++ [.ref q1]))) := fun b o nb z => by
        rw [upd_ne (ne_of_none z hR)]
        exact s2 _ _ (e1 _ _ (k1 _ _ nb z))
      clear hR2 hq1 s2 hu1 e1 dk1' dk2
      generalize upd H2 R (.lst (rvs1 ++ [.ref q1])) = H3 at *
      -- the one that nothing leads to
      refine ⟨_, rfl, .inl ⟨rfl, _, SqL.of hR3⟩, ?_⟩
      refine ⟨_, rfl, (L : Int), rfl, by omega, by omega, fun D hD => ?_⟩
      have nD := deck_off dk3 hD
      refine lc_range (lo := 0) (n := ((L : Int)).toNat) (WInv a c D H3 (fun (_ : Nat) (x : Option Nat) => ∃ t, x = some t ∧ t < rs.length + 2) n1 1) (wstart dk3 hD) ?_ ?_
      · rintro j H4 hj ⟨cells4, n4, r4, dk4, f0, f1, k4, hD4, hl4, hg4⟩
        refine ⟨rfl, _, rfl, _, rfl, _, _, rfl, rfl, a, c, cells4, n4, _, rfl, dk4, by omega, by omega, by omega, by omega, fun H5 cells5 r r0 r1 dk5 k5 => ?_⟩
        have er : V.int r = oV (some r.toNat) := by
          show V.int r = V.int ((r.toNat : Nat) : Int)
          rw [Int.toNat_of_nonneg r0]
        rw [er]
        exact wstep (x := some r.toNat) (H2 := H5) hD nD (by omega) f0 f1 k4 hD4 hl4 hg4 dk5 (by omega) (by omega) k5 ⟨_, rfl, by omega⟩
      · rintro H4 ⟨cells4, n4, r4, dk4, f0, f1, k4, hD4, hl4, hg4⟩
        rw [Int.toNat_natCast] at f1 hl4
        refine ⟨D, _, rfl, .inl ⟨SqL.of hD4, fun q3 hq3 => ?_⟩⟩
        have st := same_new (o := .tup (r4.map oV)) hq3
        have g3 : (upd H4 q3 (.tup (r4.map oV))) q3 = some (.tup (r4.map oV)) := upd_same
        have hR5 := st _ _ (k4 _ _ nR hR3)
        have nq3 := deck_off dk4 hq3
        have nqR3 : q3 ≠ R := fun z => by
          rw [z, k4 _ _ nR hR3] at hq3
          cases hq3
        refine ⟨R, _, _, rfl, rfl, hR5, by rw [List.length_append]; exact sml 1 (by omega), ?_⟩
        have hd6 : DtAll (B3 a c R) K (upd (upd H4 q3 (.tup (r4.map oV))) R (.lst (rvs1 ++ [.ref q1] ++ [.ref q3]))) (rvs1 ++ [.ref q1] ++ [.ref q3]) ((rows1 ++ [List.replicate L (some rs.length)] ++ [r4]).map rowDt) := by
          rw [List.map_append]
          refine DtAll.keep (keep_store (.inr rfl)) _ _ ((same_all st (DtAll.keep (Keep.wide (fun b z => .inl z) k4) _ _ hd3)).append (.cons (.tup ?_ (.inl g3) (dt_cs o_cs _)) .nil))
          rintro (z | z)
          · exact nq3 z
          · exact nqR3 z
        have dk6 := deck_upd (o := .lst (rvs1 ++ [.ref q1] ++ [.ref q3])) (deck_same st dk4) nR
        have hR6 : (upd (upd H4 q3 (.tup (r4.map oV))) R (.lst (rvs1 ++ [.ref q1] ++ [.ref q3]))) R = some (.lst (rvs1 ++ [.ref q1] ++ [.ref q3])) := upd_same
        have k6 : Keep (Bd a c) H (upd (upd H4 q3 (.tup (r4.map oV))) R (.lst (rvs1 ++ [.ref q1] ++ [.ref q3]))) := fun b o nb z => by
          rw [upd_ne (ne_of_none z hR)]
          exact st _ _ (k4 _ _ nb (k3 _ _ nb z))
        have lst_ : ∀ t, some t ∈ r4 → t < rs.length + 2 := fun t ht => by
          obtain ⟨j, hj⟩ := List.mem_iff_getElem?.mp ht
          obtain ⟨t', e, lt⟩ := hg4 j _ hj
          cases e
          exact lt
        clear st g3 hR5 hq3 hd3 dk3 hR3 k3
        generalize upd (upd H4 q3 (.tup (r4.map oV))) R (.lst (rvs1 ++ [.ref q1] ++ [.ref q3])) = H6 at *
        have MM6 := MM.keep dk k6
        -- the machine
        refine ⟨_, rfl, _, rfl, R, _, rfl, .inl ⟨SqL.of hR6, fun t1 nt1 => ?_⟩⟩
        have st := same_new (o := .tup (rvs1 ++ [.ref q1] ++ [.ref q3])) nt1
        have dk7 := deck_same st dk6
        have MM7 := MM6.same st
        have dt1 : Dt (Bd a c) K (upd H6 t1 (.tup (rvs1 ++ [.ref q1] ++ [.ref q3]))) (.ref t1) (.tuple ((rows1 ++ [List.replicate L (some rs.length)] ++ [r4]).map rowDt)) := .tup (deck_off dk6 nt1) (.inl upd_same) (same_all st (DtAll.weak (fun b z => .inl z) _ _ hd6))
        have k7 := k6.trans (Keep.same st)
        clear nt1 hR6 hd6
        generalize upd H6 t1 (.tup (rvs1 ++ [.ref q1] ++ [.ref q3])) = H7 at *
        refine ⟨_, rfl, _, rfl, a, c, cells4, n4, 2, rfl, dk7, by decide, by decide, by omega, by omega, fun H8 cells8 r r0 r1 dk8 k8 => ?_⟩
        have MM8 := MM7.keep dk7 k8
        refine ⟨rfl, by show 2 ≤ sizeLine; decide, fun u2 hu2 => ?_⟩
        obtain ⟨b, hb⟩ : ∃ b, b = decide (V.int r = V.int 0) := ⟨_, rfl⟩
        rw [← hb]
        have s9 := same_new (o := .tup [.bl false, .bl b]) hu2
        refine ⟨pe, u2, _, _, rfl, rfl, (MM8.same s9).he, .inl upd_same, sz_of (by rw [List.length_map, M.es]; show _ + 2 ≤ _; omega), fun q5 H10 s10 hq5 _ => ?_⟩
        have dk10 := deck_same s10 (deck_same s9 dk8)
        have n5 := rd_off dk10 hq5
        refine ⟨by show 3 ≤ sizeLine; decide, fun r' nr => ?_⟩
        have s11 := same_new (o := .tup [.int (L : Int), .ref t1, .ref q5]) nr
        obtain ⟨M2, MR⟩ := more_of (last := r4) (b := b) M l2 hl1 hr1 hl4 lst_
        refine k _ cells8 (n4 + 1) (.ref r') _ _ (deck_same s11 dk10) (by omega) (by omega) ((k7.trans k8).trans (Keep.same ((s9.trans s10).trans s11))) ?_ M2 (by rw [List.length_append, List.length_append, hl1]; rfl) MR
        have eb : es.map V.bl ++ [V.bl false, V.bl b] = (es ++ [false, b]).map V.bl := by
          rw [List.map_append]
          rfl
        rw [eb] at hq5
        exact .tup (deck_off dk10 nr) (.inl upd_same) (.cons (.int _) (.cons (same_dt ((s9.trans s10).trans s11) (Dt.keep k8 _ _ dt1)) (.cons (.tup n5 (same_rd s11 hq5) (dt_cs (fun x => Dt.bl x) _)) .nil)))
end
/-! ### the states in another order -/
section
variable {X : Cx}
theorem cr_range2 : CallR X (.type "range") (fun vs H Q => ∃ b n : Int, vs = [V.int b, V.int n] ∧ ∀ p, H p = none → Q (.ref p) (upd H p (.rng b n))) := by
  intro pins s σ H vs us Q I r h
  obtain ⟨b, n, rfl, q⟩ := h
  cases r with
  | cons r1 r2 =>
    rename_i u1 ut
    obtain ⟨u2, rfl, ri2⟩ := vals1 r2
    obtain ⟨t1, rfl⟩ := r1
    obtain ⟨t2, rfl⟩ := ri2
    refine call_range_2 ⟨.ref s.heap.objs.size, upd H s.heap.objs.size (.rng b n), I.laid (t' := _) (fun b o e => Heap.get?_push_of_some _ e) (Nat.le_refl _) ?_, rfl, q _ (I.hok.fresh (Nat.le_refl _))⟩
    exact ⟨_, _, _, Heap.get?_push_size _ rfl⟩
def rListR1 : List V → Hp → VK → Prop := fun xs H Q => ∃ (a : Addr) (n : Nat), xs = [.ref a] ∧ H a = some (.rng 1 (n : Int)) ∧ 1 ≤ n ∧ n ≤ 1000 ∧ ∀ p H', Same H H' → H p = none → H' p = some (.lst ((List.range' 1 (n - 1)).map natV)) → Q (.ref p) H'
theorem call_listR1 (hc : X.calm = true) : CallR X (.type "list") rListR1 := by
  intro pins s σ H xs us Q I r h
  obtain ⟨a, n, rfl, ha, hn1, hn, q⟩ := h
  obtain ⟨u, rfl, rx⟩ := vals1 r
  cases rx
  obtain ⟨t1, t2, t3, ho⟩ := I.hok a _ ha
  refine call_list_range (n := n - 1) (I.ok.hd hc) ho ?_ ?_ (by omega) (fun h' tk acc c hk hS hacc => ?_)
  · have fl : ∀ z : Int, -1000 ≤ z → z ≤ 1000 → Builtin.Range.rangeFitsLong z = true := fun z h1 h2 => by
      unfold Builtin.Range.rangeFitsLong
      simp
      omega
    have es : Builtin.Range.rangeSize 1 (n : Int) 1 = ((n - 1 : Nat) : Int) := by
      rw [PySem.rangeSize_one]
      split <;> omega
    unfold Builtin.Range.small
    simp
    rw [es]
    refine ⟨⟨⟨⟨fl 1 (by omega) (by omega), fl _ (by omega) (by omega)⟩, fl 1 (by omega) (by omega)⟩, fl _ (by omega) (by omega)⟩, .inr (fl _ (by omega) (by omega))⟩
  · rw [PySem.rangeSize_one]
    split <;> omega
  · have hv : Vals ((List.range' 1 (n - 1)).map natV) acc.toList := by
      refine vals_range (n - 1) 1 acc.toList (by rw [Array.length_toList, hacc.1]) fun j v hv => ?_
      obtain ⟨t, e⟩ := hacc.2 j v (by rw [← Array.getElem?_toList]; exact hv)
      exact ⟨t, by rw [e]; congr 1; omega⟩
    have np := I.fresh
    refine ⟨.ref s.heap.objs.size, _, I.laid (o := .lst ((List.range' 1 (n - 1)).map natV)) (t' := tk) hk (Nat.le_refl _) ⟨?_, acc.toList, c, hv, by simpa using hS⟩, rfl, q _ _ (same_new np) np upd_same⟩
    rw [List.length_map, List.length_range']
    exact Nat.le_trans (show n - 1 ≤ 1000 by omega) (by decide)
end
structure Ordr (n : Nat) (order rest : List Nat) : Prop where
  nd : (order ++ rest).Nodup
  lt : ∀ x ∈ order ++ rest, x < n
  ln : order.length + rest.length = n
  zero : order[0]? = some 0
theorem ordr_start {n : Nat} (h : 1 ≤ n) : Ordr n [0] (List.range' 1 (n - 1)) where
  nd := by
    show (0 :: List.range' 1 (n - 1)).Nodup
    refine List.nodup_cons.mpr ⟨fun z => ?_, List.nodup_range'⟩
    have := (List.mem_range'_1.mp z).1
    omega
  lt := fun x hx => by
    rcases List.mem_append.mp hx with z | z
    · rw [List.mem_singleton.mp z]
      exact h
    · have := (List.mem_range'_1.mp z).2
      omega
  ln := by
    rw [List.length_range']
    show 1 + (n - 1) = n
    omega
  zero := rfl
theorem erase_perm : ∀ {rest : List Nat} {k y : Nat}, rest[k]? = some y → (y :: rest.eraseIdx k).Perm rest
  | [], _, _, h => by cases h
  | x :: rest, 0, y, h => by
    cases h
    exact List.Perm.refl _
  | x :: rest, k + 1, y, h => (List.Perm.swap x y _).trans ((erase_perm (rest := rest) h).cons x)
theorem Ordr.step {n k y : Nat} {order rest : List Nat} (h : Ordr n order rest) (hk : rest[k]? = some y) : Ordr n (order ++ [y]) (rest.eraseIdx k) := by
  obtain ⟨kl, e⟩ := List.getElem?_eq_some_iff.mp hk
  have pm : (order ++ [y] ++ rest.eraseIdx k).Perm (order ++ rest) := by
    rw [List.append_assoc]
    refine List.Perm.append_left _ ?_
    exact erase_perm hk
  refine ⟨pm.nodup_iff.mpr h.nd, fun x hx => h.lt x (pm.mem_iff.mp hx), ?_, ?_⟩
  · have h1 := pm.length_eq
    have h2 := h.ln
    rw [List.length_append, List.length_append (as := order) (bs := rest)] at h1
    omega
  · have l0 := (List.getElem?_eq_some_iff.mp h.zero).1
    rw [List.getElem?_append_left l0]
    exact h.zero
theorem Ordr.all {n : Nat} {order : List Nat} (h : Ordr n order []) {t : Nat} (ht : t < n) : ∃ j : Nat, order[j]? = some t := by
  have nd := h.nd
  have lt := h.lt
  have ln := h.ln
  rw [List.append_nil] at nd lt
  have := cnt_all (xs := List.range n) (ys := order) List.nodup_range nd (fun y hy => List.mem_range.mpr (lt y hy)) (by rw [List.length_range]; rw [List.length_nil] at ln; omega) t (List.mem_range.mpr ht)
  exact List.mem_iff_getElem?.mp this
def PX (order : List Nat) (o x : Option Nat) : Prop := (o = none ∧ x = none) ∨ ∃ t j : Nat, o = some t ∧ x = some j ∧ order[j]? = some t
theorem mix_of {L : Nat} {rs rows : Rows} {es : List Bool} {order : List Nat} (M : MOk L rs es) (O : Ordr rs.length order []) (hl : rows.length = order.length) (hr : ∀ (k : Nat) (r : List (Option Nat)), rows[k]? = some r → ∃ (s : Nat) (row : List (Option Nat)), order[k]? = some s ∧ rs[s]? = some row ∧ r.length = row.length ∧ ∀ c, PX order (row.getD c none) (r.getD c none)) :
    MOk L rows (order.map fun s => es.getD s false) ∧ Mix rs rows es (order.map fun s => es.getD s false) order := by
  have l1 := M.l1
  have l4 := M.l400
  have ln := O.ln
  rw [List.length_nil] at ln
  have hm : ∀ r ∈ rows, ∃ row ∈ rs, r.length = row.length ∧ ∀ c, PX order (row.getD c none) (r.getD c none) := fun r h => by
    obtain ⟨k, hk⟩ := List.mem_iff_getElem?.mp h
    obtain ⟨s, row, e1, e2, e3, e4⟩ := hr k r hk
    exact ⟨row, List.mem_of_getElem? e2, e3, e4⟩
  refine ⟨⟨by omega, by omega, fun r h => ?_, fun r h t ht => ?_, by rw [List.length_map]; exact hl.symm, M.L1, M.L3⟩, ⟨by omega, O.zero, rfl, fun i s c hi => ?_⟩⟩
  · obtain ⟨row, e1, e2, _⟩ := hm r h
    rw [e2]
    exact M.row row e1
  · obtain ⟨row, e1, e2, e3⟩ := hm r h
    obtain ⟨c, hc⟩ := row_mem ht
    rcases e3 c with ⟨_, z⟩ | ⟨t', j, _, z2, z3⟩
    · rw [hc] at z
      cases z
    · rw [hc] at z2
      cases z2
      have := (List.getElem?_eq_some_iff.mp z3).1
      omega
  · have il := (List.getElem?_eq_some_iff.mp hi).1
    obtain ⟨s', row, e1, e2, _, e4⟩ := hr i _ (List.getElem?_eq_getElem (show i < rows.length by omega))
    rw [hi] at e1
    cases e1
    rw [nx_at e2, nx_at (List.getElem?_eq_getElem (show i < rows.length by omega))]
    exact e4 c
theorem pe_K {X : Cx} {K : PySem.W.Frag} {e : Expr} {f : PySem.W.Frag → TE} (hK : X.K = K) (h : PE X e (f X.K)) : PE X e (f K) := hK ▸ h
theorem seq_nat {r : Int} {len : Nat} (h0 : 0 ≤ r) (h1 : r < len) : seqIndex? r len = some r.toNat := by
  unfold seqIndex?
  rw [if_neg (show ¬ r < 0 by omega)]
  show (if (decide (0 ≤ r) && decide (r < (len : Int))) = true then some r.toNat else none) = _
  rw [decide_eq_true h0, decide_eq_true h1]
  rfl
theorem erase_map {α β : Type} {f : α → β} : ∀ (xs : List α) (k : Nat), (xs.map f).eraseIdx k = (xs.eraseIdx k).map f
  | [], _ => rfl
  | x :: xs, 0 => rfl
  | x :: xs, k + 1 => congrArg (f x :: ·) (erase_map xs k)

section
variable {P : Program} {w : World} {K : PySem.W.Frag} {mg : Str → Option Value} {base : Heap}
theorem scMixed : FnScope ["_law_deck_here", "_law_machine_here", "_law_letters", "_law_rows", "_law_ends", "_law_rest", "_law_order", "_law_turn", "_law_found", "_law_state", "_law_item"] ["_law_deck_here", "_law_machine_here"] (defScope sMixed) := ⟨rfl, rfl, rfl, by decide +kernel, rfl, by decide +kernel, by decide +kernel⟩
def spMixed (K : PySem.W.Frag) : Sp := fun vs H Q _ => ∃ (a c : Addr) (cells : List Int) (n : Int) (x : V) (L : Nat) (rs : Rows) (es : List Bool), vs = [.ref a, x] ∧ DeckAt a c cells n H ∧ 0 ≤ n ∧ n ≤ 900000 ∧ Dt (Bd a c) K H x (machDt L rs es) ∧ MOk L rs es ∧
  ∀ (H' : Hp) (cells' : List Int) (n' : Int) (v : V) (rs' : Rows) (es' : List Bool) (order : List Nat), DeckAt a c cells' n' H' → n ≤ n' → n' ≤ n + 3000 → Keep (Bd a c) H H' → Dt (Bd a c) K H' v (machDt L rs' es') → MOk L rs' es' → rs'.length = rs.length → Mix rs rs' es es' order → Q v H'
theorem ok_mixed {f fDR : Addr} {fd fdDR : FuncData} (F : Fun K "_law_mixed" "_law_mixed" sMixed f fd)
    (DR : FnOk P w K mg base CX0 1 fDR fdDR ["_law_deck_here", "_law_many"] spDraw) (FDR : Fun K "_law_draw" "_law_draw" sDraw fDR fdDR) (bDR : Binds K fdDR ["_law_deck_here", "_law_many"] []) (gDR : mg "_law_draw" = some (.ref fDR)) (T : Mg mg) : FnOk P w K mg base CX0 2 f fd ["_law_deck_here", "_law_machine_here"] (spMixed K) := by
  refine F.ok scMixed (fun vs H Q E h => ?_) (fun cdv A outer s H vs Q E hr h => ?_)
  · obtain ⟨a, c, cells, n, x, L, rs, es, rfl, _⟩ := h
    rfl
  · obtain ⟨a, c, cells, n, x, L, rs, es, rfl, dk, n0, n9, hx, M, k⟩ := h
    refine ⟨_, (pss_cons (ps_asg (pv 1) (pg_tup rfl (pgs_cons (pg_name (i := 2) scMixed.nd rfl (.inl rfl)) (pgs_cons (pg_name (i := 3) scMixed.nd rfl (.inl rfl)) (pgs_cons (pg_name (i := 4) scMixed.nd rfl (.inr rfl)) pgs_nil)))))
      (pss_cons (ps_asg (pe_tup (pa_cons (pe_callTy (r := rListR1) (call_listR1 rfl) (by rfl) T.list (by decide +kernel) (pa_cons (pe_callTy cr_range2 (by rfl) T.range (by decide +kernel) (pa_cons pe_int (pa_cons (pe_callB (r := rLen K) call_len_seq (by rfl) T.len PySem.boot_len (pa_cons (pv 3) pa_nil)) pa_nil))) pa_nil)) (pa_cons (pe_lst (pa_cons pe_int pa_nil)) pa_nil))) (pg_tup rfl (pgs_cons (pg_name (i := 5) scMixed.nd rfl (.inl rfl)) (pgs_cons (pg_name (i := 6) scMixed.nd rfl (.inr rfl)) pgs_nil))))
      (pss_cons (ps_for PassesOwn.never rfl (pi_range1 (by rfl) T.range (pa_cons (pe_op op_sub (pe_callB (r := rLen K) call_len_seq (by rfl) T.len PySem.boot_len (pa_cons (pv 3) pa_nil)) pe_int) pa_nil)) (pg_name (i := 7) scMixed.nd rfl (.inl rfl)) (pss_one (ps_expr (pe_bm PySem.F.plainAttrs_list PySem.F.slot_list_append PySem.F.type_list_append mt_append (pv 6) (pa_cons (pe_bm PySem.F.plainAttrs_list PySem.F.slot_list_pop PySem.F.type_list_pop mt_popAt (pv 5) (pa_cons (pe_call DR (hr.mono (by decide)) (by rfl) gDR FDR.kp bDR .nil pass0 (pa_cons (pv 0) (pa_cons (pe_callB (r := rLen K) call_len_seq (by rfl) T.len PySem.boot_len (pa_cons (pv 5) pa_nil)) pa_nil))) pa_nil)) pa_nil)))))
      (pss_cons (ps_set (i := 8) scMixed.nd rfl (.inl rfl) (pe_lst pa_nil))
      (pss_cons (ps_for PassesOwn.never rfl (pi_list (pv 6)) (pg_name (i := 9) scMixed.nd rfl (.inl rfl)) (pss_one (ps_expr (pe_bm PySem.F.plainAttrs_list PySem.F.slot_list_append PySem.F.type_list_append mt_append (pv 8) (pa_cons (pe_callTy (r := rTup K) call_tuple_of (by rfl) T.tuple PyProof.Rows.boot_tuple (pa_cons (pe_lc (own := [("_law_item", 10)]) (g := gName 10) (tt := tYes) rfl scMixed.nd (pi_tup (pe_ix (r := rIxT K) ix_tup (pv 3) (pv 9) (fun _ _ => rfl))) (blkOk_by (N := ["_law_deck_here", "_law_machine_here", "_law_letters", "_law_rows", "_law_ends", "_law_rest", "_law_order", "_law_turn", "_law_found", "_law_state", "_law_item"]) (sc := defScope sMixed) (by decide +kernel)) (fun _ _ _ _ _ => pg_name (i := 10) scMixed.nd rfl (Or.inl rfl)) (fun _ _ _ _ _ => pts_nil) (fun _ _ _ _ _ => (pe_ifExp (pt_cmp (pc_isN (pv 10))) pe_non (pe_K (f := fun K => tBM K "list" (rIndex K) _ _) rfl (pe_bm (r := rIndex K) PySem.F.plainAttrs_list PySem.F.slot_list_index PySem.F.type_list_index mt_index (pv 6) (pa_cons (pv 10) pa_nil)))))) pa_nil)) pa_nil)))))
      (pss_one (ps_ret (pe_tup (pa_cons (pv 2) (pa_cons (pe_callTy (r := rTup K) call_tuple_of (by rfl) T.tuple PyProof.Rows.boot_tuple (pa_cons (pv 8) pa_nil)) (pa_cons (pe_callTy (r := rTup K) call_tuple_of (by rfl) T.tuple PyProof.Rows.boot_tuple (pa_cons (pe_lc (own := [("_law_state", 9)]) (g := gName 9) (tt := tYes) rfl scMixed.nd (pi_list (pv 6)) (blkOk_by (N := ["_law_deck_here", "_law_machine_here", "_law_letters", "_law_rows", "_law_ends", "_law_rest", "_law_order", "_law_turn", "_law_found", "_law_state", "_law_item"]) (sc := defScope sMixed) (by decide +kernel)) (fun _ _ _ _ _ => pg_name (i := 9) scMixed.nd rfl (Or.inl rfl)) (fun _ _ _ _ _ => pts_nil) (fun _ _ _ _ _ => (pe_ix (r := rIxT K) ix_tup (pv 4) (pv 9) (fun _ _ => rfl)))) pa_nil)) pa_nil))))))))))), ?_⟩
    have L1 := M.L1
    have L3 := M.L3
    have l1 := M.l1
    have l4 := M.l400
    obtain ⟨m, pr, pe, rvs, rfl, nm, MM⟩ := dt_mach hx
    have hlv := MM.hl
    refine ⟨_, rfl, m, _, rfl, .inl MM.hm, rfl, _, _, rfl, _, _, rfl, _, _, rfl, rfl, ?_⟩
    refine ⟨_, rfl, pr, rvs, rfl, .inr (.inl MM.hr), 1, (rvs.length : Int), rfl, fun p hp => ?_⟩
    have sp_ := same_new (o := .rng 1 (rvs.length : Int)) hp
    refine ⟨p, rvs.length, rfl, upd_same, by omega, by omega, fun rst G1 s1 hr0 hr1 => ?_⟩
    have s01 := sp_.trans s1
    have hr00 : H rst = none := sp_.free hr0
    clear hp sp_ s1 hr0
    refine ⟨by show 1 ≤ sizeLine; decide, fun ord ho => ?_⟩
    have s2 := same_new (o := .lst [.int 0]) ho
    have hr2 := s2 _ _ hr1
    have ho2 : (upd G1 ord (.lst [.int 0])) ord = some (.lst (([0] : List Nat).map natV)) := upd_same
    have ho0 : H ord = none := s01.free ho
    have nro : rst ≠ ord := fun z => by rw [z, ho] at hr1; cases hr1
    have s02 := s01.trans s2
    clear ho s2 hr1 s01
    generalize upd G1 ord (.lst [.int 0]) = G2 at *
    refine ⟨by show 2 ≤ sizeLine; decide, fun T2 hT => ⟨T2, _, rfl, SqT.of upd_same, rfl, _, _, rfl, _, _, rfl, rfl, ?_⟩⟩
    have s3 := same_new (o := .tup [.ref rst, .ref ord]) hT
    have hr3 := s3 _ _ hr2
    have ho3 := s3 _ _ ho2
    have s03 := s02.trans s3
    clear hT s3 hr2 ho2 s02
    generalize upd G2 T2 (.tup [.ref rst, .ref ord]) = G3 at *
    have nbr : ¬ Bd a c rst := deck_off dk hr00
    have nbo : ¬ Bd a c ord := deck_off dk ho0
    refine ⟨_, rfl, pr, rvs, rfl, .inr (.inl (MM.same s03).hr), _, _, rfl, rfl, ((rvs.length : Int) - 1), rfl, by omega, by omega, ?_⟩
    refine for_range (lo := 0) (n := ((rvs.length : Int) - 1).toNat) (fun i σ H' => (∃ y7, σ = [some (.ref a), some (.ref m), some (.int (L : Int)), some (.ref pr), some (.ref pe), some (.ref rst), some (.ref ord), y7, none, none, none]) ∧ ∃ (cells' : List Int) (n' : Int) (order rest : List Nat), DeckAt a c cells' n' H' ∧ n ≤ n' ∧ n' ≤ n + i ∧ Keep (Bd a c) H H' ∧ H' rst = some (.lst (rest.map natV)) ∧ H' ord = some (.lst (order.map natV)) ∧ Ordr rs.length order rest ∧ order.length = i + 1)
      ⟨⟨_, rfl⟩, cells, n, [0], List.range' 1 (rs.length - 1), deck_same s03 dk, Int.le_refl _, by omega, Keep.same s03, by rw [← hlv]; exact hr3, ho3, ordr_start l1, rfl⟩ ?_ ?_
    · rintro i σ H1 hi ⟨⟨y7, rfl⟩, cells1, n1, order, rest, dk1, g0, g1, k1, hr1, ho1, O, lo⟩
      have ln := O.ln
      have rl : rest.length < 1000 := by omega
      refine ⟨_, rfl, .inl ⟨rfl, _, SqL.of ho1⟩, ?_⟩
      refine ⟨_, rfl, .inl ⟨rfl, _, SqL.of hr1⟩, ?_⟩
      refine ⟨_, rfl, _, rfl, rst, _, rfl, .inl (SqL.of hr1), a, c, cells1, n1, _, rfl, dk1, by rw [List.length_map]; omega, by rw [List.length_map]; omega, by omega, by omega, fun H2 cells2 r r0 r1 dk2 k2 => ?_⟩
      rw [List.length_map] at r1
      have hr2 := k2 _ _ nbr hr1
      have ho2 := k2 _ _ nbo ho1
      obtain ⟨y, hy⟩ : ∃ y, rest[r.toNat]? = some y := ⟨_, List.getElem?_eq_getElem (show r.toNat < rest.length by omega)⟩
      refine ⟨rst, _, r, r.toNat, natV y, rfl, rfl, hr2, by omega, by omega, seq_nat r0 (by rw [List.length_map]; exact r1), natV_get hy, ?_⟩
      have er : (rest.map natV).eraseIdx r.toNat = (rest.eraseIdx r.toNat).map natV := erase_map _ _
      rw [er]
      have ho3 : (upd H2 rst (.lst ((rest.eraseIdx r.toNat).map natV))) ord = some (.lst (order.map natV)) := by rw [upd_ne nro.symm]; exact ho2
      refine ⟨ord, _, _, rfl, rfl, ho3, small1000 (by rw [List.length_map]; omega), ⟨_, rfl⟩, cells2, n1 + 1, order ++ [y], rest.eraseIdx r.toNat, deck_upd (deck_upd dk2 nbr) nbo, by omega, by omega, fun b o nb z => ?_, by rw [upd_ne nro]; exact upd_same, by rw [upd_same, List.map_append]; rfl, O.step hy, by rw [List.length_append, lo]; rfl⟩
      rw [upd_ne (ne_of_none z ho0), upd_ne (ne_of_none z hr00)]
      exact k2 _ _ nb (k1 _ _ nb z)
    · rintro σ H1 ⟨⟨y7, rfl⟩, cells1, n1, order, rest, dk1, g0, g1, k1, hr1, ho1, O, lo⟩
      have ln := O.ln
      have re : rest = [] := List.eq_nil_of_length_eq_zero (by omega)
      subst re
      rw [List.length_nil] at ln
      have olt : ∀ x ∈ order, x < rs.length := fun x hx => O.lt x (List.mem_append.mpr (.inl hx))
      have ond : order.Nodup := by
        have := O.nd
        rwa [List.append_nil] at this
      refine ⟨by show 0 ≤ sizeLine; decide, fun R hR => ?_⟩
      have X0 : XInv K a c R H1 (fun (k : Nat) (r : List (Option Nat)) => ∃ (s : Nat) (row : List (Option Nat)), order[k]? = some s ∧ rs[s]? = some row ∧ r.length = row.length ∧ ∀ c, PX order (row.getD c none) (r.getD c none)) n1 0 0 _ := rstart dk1 hR
      have nR := deck_off dk1 hR
      have ho2 := same_new (o := .lst []) hR _ _ ho1
      generalize upd H1 R (.lst []) = G4 at *
      refine ⟨_, rfl, ord, rfl, ⟨_, SqL.of ho2⟩, ?_⟩
      refine for_list (K := K) (a := ord) (xs := order.map natV) (fun i σ H' => (∃ y7 y9, σ = [some (.ref a), some (.ref m), some (.int (L : Int)), some (.ref pr), some (.ref pe), some (.ref rst), some (.ref ord), y7, some (.ref R), y9, none]) ∧ XInv K a c R H1 (fun (k : Nat) (r : List (Option Nat)) => ∃ (s : Nat) (row : List (Option Nat)), order[k]? = some s ∧ rs[s]? = some row ∧ r.length = row.length ∧ ∀ c, PX order (row.getD c none) (r.getD c none)) n1 0 i H')
        ⟨⟨_, _, rfl⟩, X0⟩ (fun i σ H' _ p => by
          obtain ⟨_, ⟨_, _, _, _, _, _, _, kk, _⟩⟩ := p
          exact SqL.of (kk _ _ nbo ho1)) ?_ ?_
      · rintro i x σ H2 hx1 ⟨⟨y7', y9, rfl⟩, ⟨cells2, n2, rvs2, rows2, dk2, f0, f1, k2, hR2, hd2, hl2, hr2⟩⟩
        obtain ⟨u, hu, rfl⟩ := natV_of hx1
        have il := (List.getElem?_eq_some_iff.mp hu).1
        have hun := olt u (List.mem_of_getElem? hu)
        have MM2 := MM.keep dk (k1.trans k2)
        obtain ⟨row, hrow⟩ : ∃ row, rs[u]? = some row := ⟨_, List.getElem?_eq_getElem hun⟩
        obtain ⟨q, hq1, hq⟩ := MM2.row u row hrow
        have hmr := List.mem_of_getElem? hrow
        have hrl : row.length = L := M.row row hmr
        refine ⟨_, rfl, .inl ⟨rfl, _, SqL.of hR2⟩, ?_⟩
        refine ⟨_, rfl, _, rfl, pr, rvs, (u : Int), _, rfl, rfl, .inl MM2.hr, atI_nat hq1, q, rfl, ⟨_, .inl hq⟩, fun D hD => ?_⟩
        have nD := deck_off dk2 hD
        refine lc_tup (K := K) (a := q) (xs := row.map oV) (WInv a c D H2 (fun (j : Nat) (x : Option Nat) => ∃ o : Option Nat, row[j]? = some o ∧ PX order o x) n2 0) (wstart dk2 hD) (fun j H' _ p => by
          obtain ⟨_, _, _, _, _, _, kk, _⟩ := p
          exact .inl (kk.rd (rd_off dk2 hq) hq)) ?_ ?_
        · rintro j x H3 hx2 ⟨cells3, n3, r3, dk3, e0, e1, k3, hD3, hl3, hg3⟩
          rw [List.getElem?_map] at hx2
          obtain ⟨o, hoj, rfl⟩ := Option.map_eq_some_iff.mp hx2
          have jl := (List.getElem?_eq_some_iff.mp hoj).1
          refine ⟨rfl, _, rfl, _, rfl, ?_⟩
          cases o with
          | none => exact wstep (x := none) hD nD (by omega) e0 e1 k3 hD3 hl3 hg3 dk3 (Int.le_refl _) (by omega) Keep.rfl' ⟨none, hoj, .inl ⟨rfl, rfl⟩⟩
          | some t =>
            have ht := M.tgt row hmr t (List.mem_of_getElem? hoj)
            obtain ⟨j2, hj2⟩ := O.all ht
            have ho3 := k3 _ _ nbo (k2 _ _ nbo ho1)
            refine ⟨_, rfl, .inl ⟨rfl, _, SqL.of ho3⟩, _, rfl, ord, order.map natV, _, j2, natV t, rfl, rfl, SqL.of ho3, rfl, flat_nat, natV_get hj2, ?_, fun m' z' hm hz => ?_, ?_⟩
            · show ((t : Int) == (t : Int)) = true
              exact beq_self_eq_true _
            · obtain ⟨y, hy, rfl⟩ := natV_of hz
              show ((y : Int) == (t : Int)) = false
              refine beq_eq_false_iff_ne.mpr fun e => ?_
              have : y = t := by omega
              subst this
              have := nodup_at ond hy hj2
              omega
            · exact wstep (x := some j2) hD nD (by omega) e0 e1 k3 hD3 hl3 hg3 dk3 (Int.le_refl _) (by omega) Keep.rfl' ⟨some t, hoj, .inr ⟨t, j2, rfl, rfl, hj2⟩⟩
        · rintro H3 ⟨cells3, n3, r3, dk3, e0, e1, k3, hD3, hl3, hg3⟩
          rw [List.length_map] at e1 hl3
          refine ⟨D, _, rfl, .inl ⟨SqL.of hD3, fun q3 hq3 => ?_⟩⟩
          obtain ⟨rvs', a1, a2, a3⟩ := rstep hR nR (by omega) f0 f1 k2 hR2 hd2 hl2 hr2 k3 dk3 e0 (by omega) ⟨u, row, hu, hrow, hl3, rel_row (.inl ⟨rfl, rfl⟩) hl3 hg3⟩ hq3
          exact ⟨R, _, _, rfl, rfl, a1, a2, ⟨_, _, rfl⟩, a3⟩
      · rintro σ H2 ⟨⟨y7', y9, rfl⟩, ⟨cells2, n2, rvs2, rows2, dk2, f0, f1, k2, hR2, hd2, hl2, hr2⟩⟩
        rw [List.length_map] at hl2 f1
        obtain ⟨M2, MX⟩ := mix_of M O hl2 hr2
        have k02 := k1.trans k2
        refine ⟨_, rfl, _, rfl, R, _, rfl, .inl ⟨SqL.of hR2, fun t1 nt1 => ?_⟩⟩
        have st := same_new (o := .tup rvs2) nt1
        have dk3 := deck_same st dk2
        have MM3 := (MM.keep dk k02).same st
        have ho3 := st _ _ (k2 _ _ nbo ho1)
        have dt1 : Dt (Bd a c) K (upd H2 t1 (.tup rvs2)) (.ref t1) (.tuple (rows2.map rowDt)) := .tup (deck_off dk2 nt1) (.inl upd_same) (same_all st (DtAll.weak (fun b z => .inl z) _ _ hd2))
        have k03 := k02.trans (Keep.same st)
        clear nt1 hR2 hd2
        generalize upd H2 t1 (.tup rvs2) = H3 at *
        refine ⟨_, rfl, ord, rfl, ⟨_, SqL.of ho3⟩, fun D hD => ?_⟩
        refine lc_list (K := K) (a := ord) (xs := order.map natV) (NInv (fun x : Nat => V.bl (es.getD x false)) order H3 D) (nstart hD) (fun i H' _ q => SqL.of (q.1 _ _ ho3)) ?_ ?_
        · rintro i x H4 hx p1
          obtain ⟨u, hu, rfl⟩ := natV_of hx
          have ul : u < es.length := by rw [M.es]; exact olt u (List.mem_of_getElem? hu)
          refine ⟨rfl, _, rfl, _, rfl, pe, _, (u : Int), .bl (es.getD u false), rfl, rfl, .inl (MM3.same p1.1).he, atI_nat (by rw [List.getElem?_map, getD_at ul, List.getElem?_eq_getElem ul]; rfl), ?_⟩
          exact nturn (f := fun x : Nat => V.bl (es.getD x false)) (small1000 (by omega)) hD hu p1 (Same.refl _)
        · rintro H4 p1
          obtain ⟨s4, hl4⟩ := nend (List.length_map _) p1
          have dk4 := deck_same s4 dk3
          refine ⟨D, _, rfl, .inl ⟨SqL.of hl4, fun t2 nt2 => ?_⟩⟩
          have n2' := deck_off dk4 nt2
          have st2 := same_new (o := .tup (order.map fun x : Nat => V.bl (es.getD x false))) nt2
          have dk5 := deck_same st2 dk4
          refine ⟨by show 3 ≤ sizeLine; decide, fun r nr => ?_⟩
          have st3 := same_new (o := .tup [.int (L : Int), .ref t1, .ref t2]) nr
          have s1r := s4.trans (st2.trans st3)
          have ee : (order.map fun x : Nat => V.bl (es.getD x false)) = (order.map fun p => es.getD p false).map V.bl := by
            rw [List.map_map]
            rfl
          refine k _ cells2 n2 (.ref r) _ _ order (deck_same st3 dk5) (by omega) (by omega) (k03.trans (Keep.same s1r)) (.tup (deck_off dk5 nr) (.inl upd_same) (.cons (.int _) (.cons (same_dt s1r dt1) (.cons (.tup n2' (same_rd st3 (.inl upd_same)) ?_) .nil)))) M2 (by omega) MX
          rw [ee]
          exact dt_cs (fun x => Dt.bl x) _
end
/-! ### rules that hide the heap; a def that shows, called -/
def tLstA (t : TA) : TE := fun σ H Q => t σ H fun xs H1 => xs.length ≤ sizeLine ∧ ∀ p H', Same H1 H' → H1 p = none → p ≠ sysModules → H' p = some (.lst xs) → Q (.ref p) H'
def tCallG (sp : Sp) (n : Nat) (t : TA) : TE := fun σ H Q => t σ H fun vs H1 => vs.length = n ∧ sp vs H1 Q E0
section
variable {X : Cx} {k : Nat} {f : Addr} {fd : FuncData} {sp : Sp} {x : Str} {p pos : Pos} {e : Expr} {es : List Expr} {t : TA} {ps : List Str}
theorem pe_lstA {es : List Expr} {t : TA} {pos : Pos} (ht : PA X es t) : PE X (.List es pos) (tLstA t) := by
  refine ⟨fun pins s σ H Q I h => wpAny_List_spliced (thn (ht.run pos pins s σ H _ I h) ?_)⟩
  rintro us s1 ⟨xs, H1, I1, r, hz, q⟩
  have hl := r.length
  have np := I1.hok.fresh (Nat.le_refl s1.heap.objs.size)
  exact ⟨by rw [← hl]; exact hz, .ref s1.heap.objs.size, _, I1.laid (o := .lst xs) (t' := s1.toks) (fun b u e => Heap.get?_push_of_some _ e) (Nat.le_refl _) ⟨hz, us, 0, r, Heap.get?_push_size _ rfl⟩, rfl, q _ _ (same_new np) np (Nat.ne_of_gt I1.big) upd_same⟩
/-- f(e, ..), where nothing is being shown -/
theorem pe_callG (F : GRun X.prog X.w X.K X.mg X.base k f fd ps sp) (hG : X.A.guards = some []) (hr : Room k X.A) (hg : Gl X x) (hm : X.mg x = some (.ref f)) (hk : PySem.W.keepIn X.K (.ref f) = true) (hb : Binds X.K fd ps [])
    (ha : PA X (e :: es) t) (hdb : (x == ("__debug__" : Str)) = false := by decide) (he : starEach (e :: es) X.env = (false, eval e X.env) :: starEach es X.env := by rfl) (hpl : (backTo pos (starEach es X.env)).any (·.1) = false := by rfl) :
    PE X (.Call (.Name x p) (e :: es) [] pos) (tCallG sp ps.length t) := by
  refine ⟨fun pins s σ H Q I h => ?_⟩
  refine wpAny_Call_Name_kw (ld_glob I hg hm ?_ hdb)
  refine PySem.W.callWith_K (h₀ := X.base) I.ok.mod.kin hk (thn (ha.run pos pins s σ H _ I h) fun us s1 ⟨vs, H1, I1, r, hl, q⟩ => ⟨I1.kIn, ?_⟩) he hpl
  have bd := hb s1 us I1.kIn (by rw [List.append_nil, ← r.length]; exact hl)
  rw [List.append_nil] at bd
  refine wpAny_call (codeAny_mono (F X.A X.stack s1 H1 us vs Q hG hr I1.env0 bd r hl q) fun r s' hq => ?_)
  cases r with
  | error e => exact hq.elim
  | ok fl =>
    cases fl with
    | ret u => exact I1.after hq
    | next => exact False.elim hq
    | brk => exact False.elim hq
    | cont => exact False.elim hq
end
/-! ### machines shown -/
theorem nodes_flat {α : Type} {f : α → PyData} {m : Nat} : ∀ {xs : List α}, (∀ x ∈ xs, nodes (f x) ≤ m) → nodesAll (xs.map f) ≤ m * xs.length
  | [], _ => by
    rw [List.map_nil, nodesAll_nil]
    exact Nat.zero_le _
  | x :: xs, h => by
    have h1 := h x List.mem_cons_self
    have h2 := nodes_flat (xs := xs) fun y hy => h y (List.mem_cons_of_mem _ hy)
    rw [List.map_cons, nodesAll_cons, List.length_cons, Nat.mul_add, Nat.mul_one]
    omega
section
variable {L : Nat} {rs : Rows} {es : List Bool}
theorem mach_nodes (M : MOk L rs es) : nodes (machDt L rs es) ≤ 2010 := by
  have L3 := M.L3
  have l4 := M.l400
  have h1 : nodesAll (rs.map rowDt) ≤ 4 * rs.length := nodes_flat fun row hrow => by
    unfold rowDt
    rw [nodes_tup]
    have h2 : nodesAll (row.map oD) ≤ 1 * row.length := nodes_flat fun o _ => by
      cases o with
      | none => exact Nat.le_refl _
      | some k => exact Nat.le_refl _
    have := M.row row hrow
    omega
  have h3 : nodesAll (es.map PyData.bool) ≤ 1 * es.length := nodes_flat fun b _ => Nat.le_refl _
  have := M.es
  unfold machDt
  rw [nodes_tup, nodesAll_cons, nodesAll_cons, nodesAll_cons, nodesAll_nil, nodes_tup, nodes_tup, show nodes (.int (L : Int)) = 1 from rfl]
  omega
theorem mach_sm (M : MOk L rs es) : sm (machDt L rs es) = true := by
  have L3 := M.L3
  have l4 := M.l400
  have nat_ : ∀ k : Nat, k ≤ 400 → sm (.int (k : Int)) = true := fun k hk => by
    rw [sm, decide_eq_true_eq, Int.natAbs_natCast]
    exact Nat.le_trans hk (by decide)
  unfold machDt
  rw [sm_tup]
  intro x hx
  rcases List.mem_cons.mp hx with z | hx
  · rw [z]
    exact nat_ L (by omega)
  rcases List.mem_cons.mp hx with z | hx
  · rw [z, sm_tup]
    intro y hy
    obtain ⟨row, hrow, rfl⟩ := List.mem_map.mp hy
    unfold rowDt
    rw [sm_tup]
    intro d hd
    obtain ⟨o, ho, rfl⟩ := List.mem_map.mp hd
    cases o with
    | none => rfl
    | some t =>
      have := M.tgt row hrow t ho
      exact nat_ t (by omega)
  · rw [List.mem_singleton.mp hx, sm_tup]
    intro y hy
    obtain ⟨b, _, rfl⟩ := List.mem_map.mp hy
    rfl
theorem mach_depth : (machDt L rs es).depth ≤ 3 := by
  unfold machDt
  rw [depth_tup]
  refine Nat.succ_le_succ (depthAll_le.mpr fun x hx => ?_)
  rcases List.mem_cons.mp hx with z | hx
  · rw [z]
    exact Nat.zero_le _
  rcases List.mem_cons.mp hx with z | hx
  · rw [z, depth_tup]
    refine Nat.succ_le_succ (depthAll_le.mpr fun y hy => ?_)
    obtain ⟨row, hrow, rfl⟩ := List.mem_map.mp hy
    unfold rowDt
    rw [depth_tup]
    refine Nat.succ_le_succ (depthAll_le.mpr fun d hd => ?_)
    obtain ⟨o, ho, rfl⟩ := List.mem_map.mp hd
    cases o <;> exact Nat.le_refl _
  · rw [List.mem_singleton.mp hx, depth_tup]
    refine Nat.succ_le_succ (depthAll_le.mpr fun y hy => ?_)
    obtain ⟨b, _, rfl⟩ := List.mem_map.mp hy
    exact Nat.zero_le _
/-- two machines in a list, shown -/
theorem two_show {L' : Nat} {rs' : Rows} {es' : List Bool} (M : MOk L rs es) (M' : MOk L' rs' es') : (PyData.list [machDt L rs es, machDt L' rs' es']).showable = true ∧ (PyData.list [machDt L rs es, machDt L' rs' es']).depth ≤ 60 ∧ (PyData.list [machDt L rs es, machDt L' rs' es']).shown.length ≤ sizeLine := by
  have hs : sm (PyData.list [machDt L rs es, machDt L' rs' es']) = true := by
    rw [sm_lst]
    intro x hx
    rcases List.mem_cons.mp hx with z | hx
    · rw [z]
      exact mach_sm M
    · rw [List.mem_singleton.mp hx]
      exact mach_sm M'
  refine ⟨sm_show _ hs, ?_, sm_fits hs ?_⟩
  · rw [depth_lst]
    refine Nat.succ_le_of_lt (Nat.lt_of_le_of_lt (depthAll_le (n := 3) |>.mpr fun x hx => ?_) (by decide))
    rcases List.mem_cons.mp hx with z | hx
    · rw [z]
      exact mach_depth
    · rw [List.mem_singleton.mp hx]
      exact mach_depth
  · have h1 := mach_nodes M
    have h2 := mach_nodes M'
    rw [nodes_lst, nodesAll_cons, nodesAll_cons, nodesAll_nil]
    omega
theorem one_show (M : MOk L rs es) : (machDt L rs es).showable = true ∧ (machDt L rs es).depth ≤ 60 ∧ (machDt L rs es).shown.length ≤ sizeLine :=
  ⟨sm_show _ (mach_sm M), Nat.le_trans mach_depth (by decide), sm_fits (mach_sm M) (Nat.le_trans (mach_nodes M) (by decide))⟩
theorem mok_tgt (M : MOk L rs es) : ∀ s c t, nx rs s c = some t → t < rs.length := fun s c t h => by
  obtain ⟨_, _, r, hr, ht⟩ := nx_lt M.row h
  exact M.tgt r hr t ht
theorem smallest_mok {out : Rws} {oe : List Bool} (M : MOk L rs es) (h : Smallest rs es L out oe) : MOk L out oe := by
  have el := smallest_len h
  rcases h with ⟨ps, C⟩ | ⟨_, rfl, rfl⟩
  · have lo := C.lo
    have l0 := (List.getElem?_eq_some_iff.mp C.zero).1
    have l4 := M.l400
    have cm := (canon_many C M.row M.es).2
    refine ⟨by omega, by omega, C.wide, fun row hr t ht => ?_, el, M.L1, M.L3⟩
    obtain ⟨i, hi⟩ := List.mem_iff_getElem?.mp hr
    obtain ⟨c, hc⟩ := row_mem ht
    have il := (List.getElem?_eq_some_iff.mp hi).1
    have e : nx out i c = some t := by rw [nx_at hi]; exact hc
    obtain ⟨_, q, _, hq, _⟩ := C.some_ i _ c t (List.getElem?_eq_getElem (show i < ps.length by omega)) e
    have := (List.getElem?_eq_some_iff.mp hq).1
    omega
  · refine ⟨Nat.le_refl _, by show 1 ≤ 400; decide, fun row hr => ?_, fun row hr t ht => ?_, rfl, M.L1, M.L3⟩
    · rw [List.mem_singleton.mp hr, List.length_replicate]
    · rw [List.mem_singleton.mp hr] at ht
      have := (List.mem_replicate.mp ht).2
      cases this
/-- the smallest machine of one with the same words -/
theorem small_due {rs' out out' : Rws} {es' oe oe' : List Bool} (h : Smallest rs es L out oe) (g : Smallest rs' es' L out' oe') (e : Eqv rs' es' rs es 0 0) : out' = out ∧ oe' = oe := smallest_eq g h e
theorem lng_of {n : Nat} {ring : Bool} (h : 2 ≤ n) : Lng n ring (rsLong n ring) (esLong n) := by
  have hl := long_len (n := n) (ring := ring) (by omega)
  have lm : ((List.range (n - 1)).map fun i => [some (i + 1)]).length = n - 1 := by rw [List.length_map, List.length_range]
  have el : (esLong n).length = n := by
    unfold esLong
    rw [List.length_append, List.length_replicate, List.length_singleton]
    omega
  refine ⟨by omega, hl, el, fun r hr => ?_, fun s hs => ?_, ?_, fun s hs => ?_⟩
  · unfold rsLong at hr
    rcases List.mem_append.mp hr with z | z
    · obtain ⟨i, _, rfl⟩ := List.mem_map.mp z
      rfl
    · rw [List.mem_singleton.mp z]
      rfl
  · refine (nx_at (row := [some (s + 1)]) ?_).trans rfl
    unfold rsLong
    rw [List.getElem?_append_left (by omega), List.getElem?_map, List.getElem?_range (by omega)]
    rfl
  · refine (nx_at (row := [if ring then some 0 else none]) ?_).trans ?_
    · unfold rsLong
      rw [List.getElem?_append_right (by omega), lm, Nat.sub_self]
      rfl
    · show (if ring then some 0 else none) = _
      rfl
  · have := @long_end n s (by omega)
    have hv : (esLong n)[s]? = some ((esLong n).getD s false) := by
      rw [getD_at (by omega)]
      exact List.getElem?_eq_getElem (by omega)
    rw [hv] at this
    by_cases z : s = n - 1
    · rw [decide_eq_true z]
      exact Option.some.inj (this.mpr (by omega))
    · rw [decide_eq_false z]
      cases q : (esLong n).getD s false with
      | false => rfl
      | true =>
        rw [q] at this
        have := this.mp rfl
        omega
theorem long_small {n : Nat} {ring : Bool} (h : 2 ≤ n) : Smallest (rsLong n ring) (esLong n) 1 (rsLong n ring) (esLong n) := .inl ⟨_, (lng_of h).canon⟩
end

/-! ### long rows and rings, right -/
section
variable {P : Program} {w : World} {K : PySem.W.Frag} {mg : Str → Option Value} {base : Heap}
theorem scLongR : FnScope ["_law_deck_here", "_law_many", "_law_row", "_law_ring"] ["_law_deck_here"] (defScope sLongR) := ⟨rfl, rfl, rfl, by decide +kernel, rfl, by decide +kernel, by decide +kernel⟩
def spLongR : Sp := fun vs H Q _ => ∃ (a c : Addr) (cells : List Int) (n : Int), vs = [.ref a] ∧ DeckAt a c cells n H ∧ 0 ≤ n ∧ n ≤ 100000 ∧
  ∀ (H' : Hp) (cells' : List Int) (n' : Int), DeckAt a c cells' n' H' → n ≤ n' → n' ≤ n + 10000 → Q (.bl true) H'
theorem ok_longR {f fDR fON fLG fDB fSM : Addr} {fd fdDR fdON fdLG fdDB fdSM : FuncData} (F : Fun K "_law_long_right" "_law_long_right" sLongR f fd)
    (DR : FnOk P w K mg base CX0 1 fDR fdDR ["_law_deck_here", "_law_many"] spDraw) (FDR : Fun K "_law_draw" "_law_draw" sDraw fDR fdDR) (bDR : Binds K fdDR ["_law_deck_here", "_law_many"] []) (gDR : mg "_law_draw" = some (.ref fDR))
    (ON : FnOk P w K mg base CX0 2 fON fdON ["_law_deck_here", "_law_items"] (spOne K)) (FON : Fun K "_law_one" "_law_one" sOne fON fdON) (bON : Binds K fdON ["_law_deck_here", "_law_items"] []) (gON : mg "_law_one" = some (.ref fON))
    (LG : FnOk P w K mg base CX0 1 fLG fdLG ["_law_many", "_law_is_ring"] (spLong K)) (FLG : Fun K "_law_long" "_law_long" sLong fLG fdLG) (bLG : Binds K fdLG ["_law_many", "_law_is_ring"] []) (gLG : mg "_law_long" = some (.ref fLG))
    (DB : FnOk P w K mg base CX0 2 fDB fdDB ["_law_deck_here", "_law_machine_here"] (spDoubled K)) (FDB : Fun K "_law_doubled" "_law_doubled" sDoubled fDB fdDB) (bDB : Binds K fdDB ["_law_deck_here", "_law_machine_here"] []) (gDB : mg "_law_doubled" = some (.ref fDB))
    (SM : FnOk P w K mg base CX0 5 fSM fdSM ["machine"] (spSmallest K)) (FSM : Fun K "smallest" "smallest" sSmallest fSM fdSM) (bSM : Binds K fdSM ["machine"] []) (gSM : mg "smallest" = some (.ref fSM)) (T : Mg mg) : GRun P w K mg base 6 f fd ["_law_deck_here"] spLongR := by
  refine grun F scLongR (fun cdv A outer s H vs Q hG0 hr h => ?_)
  obtain ⟨a, c, cells, n, rfl, dk, n0, n9, k⟩ := h
  have hG : (A.deeper (envOfC "_law_long_right" (defScope sLongR) s.heap.objs.size f cdv)).guards = some [] := hG0
  have hu := hr.units
  have hu0 := hr.units0
  refine ⟨_, (pss_cons (ps_set (i := 1) scLongR.nd rfl (.inl rfl) (pe_call ON (hr.mono (by decide)) (by rfl) gON FON.kp bON .nil pass0 (pa_cons (pv 0) (pa_cons (pe_lstA (pa_cons pe_int (pa_cons pe_int (pa_cons (pe_op op_add pe_int (pe_call DR (hr.mono (by decide)) (by rfl) gDR FDR.kp bDR .nil pass0 (pa_cons (pv 0) (pa_cons pe_int pa_nil)))) pa_nil)))) pa_nil))))
      (pss_cons (ps_par (i := 2) (j := 3) rfl scLongR.nd rfl rfl (by decide) rfl rfl (pa_cons (pe_call LG (hr.mono (by decide)) (by rfl) gLG FLG.kp bLG .nil pass0 (pa_cons (pv 1) (pa_cons pe_bl pa_nil))) (pa_cons (pe_call LG (hr.mono (by decide)) (by rfl) gLG FLG.kp bLG .nil pass0 (pa_cons (pv 1) (pa_cons pe_bl pa_nil))) pa_nil)) (by rfl))
      (pss_cons (ps_if (pt_cmpR op_ne (pe_callB (call_reprD hG hu) (by rfl) T.repr (by decide +kernel) (pa_cons (pe_lstA (pa_cons (pe_call SM (hr.mono (by decide)) (by rfl) gSM FSM.kp bSM .nil pass0 (pa_cons (pe_call DB (hr.mono (by decide)) (by rfl) gDB FDB.kp bDB .nil pass0 (pa_cons (pv 0) (pa_cons (pv 2) pa_nil))) pa_nil)) (pa_cons (pe_call SM (hr.mono (by decide)) (by rfl) gSM FSM.kp bSM .nil pass0 (pa_cons (pv 2) pa_nil)) pa_nil))) pa_nil)) (pe_callB (call_reprD hG hu) (by rfl) T.repr (by decide +kernel) (pa_cons (pe_lstA (pa_cons (pv 2) (pa_cons (pv 2) pa_nil))) pa_nil)) (nomark _)) (pss_one (ps_ret pe_bl)) pss_nil)
      (pss_one (ps_ret (pe_cmpR op_eq (pe_callB (call_reprD hG hu) (by rfl) T.repr (by decide +kernel) (pa_cons (pe_call SM (hr.mono (by decide)) (by rfl) gSM FSM.kp bSM .nil pass0 (pa_cons (pe_call DB (hr.mono (by decide)) (by rfl) gDB FDB.kp bDB .nil pass0 (pa_cons (pv 0) (pa_cons (pv 3) pa_nil))) pa_nil)) pa_nil)) (pe_callB (call_reprD hG hu) (by rfl) T.repr (by decide +kernel) (pa_cons (pv 3) pa_nil)) (nomark _))))))), ?_⟩
  refine ⟨_, rfl, _, rfl, a, c, cells, n, 199, rfl, dk, by decide, by decide, n0, by omega, fun H1 cells1 r r0 r1 dk1 k1 => ?_⟩
  refine ⟨_, _, rfl, rfl, by show 3 ≤ sizeLine; decide, fun l H2 s2 l0 _ hl => ?_⟩
  have dk2 := deck_same s2 dk1
  refine ⟨a, c, l, cells1, n + 1, _, rfl, dk2, by omega, by omega, SqL.of hl, deck_off dk1 l0, List.cons_ne_nil _ _, by show 3 ≤ 1000; decide, fun H3 cells3 x hx dk3 k3 => ?_⟩
  obtain ⟨N, eN, N2, N200⟩ : ∃ N : Nat, x = .int (N : Int) ∧ 2 ≤ N ∧ N ≤ 200 := by
    rcases List.mem_cons.mp hx with z | hx
    · exact ⟨200, z, by decide, by decide⟩
    rcases List.mem_cons.mp hx with z | hx
    · exact ⟨199, z, by decide, by decide⟩
    · refine ⟨(2 + r).toNat, ?_, by omega, by omega⟩
      rw [List.mem_singleton.mp hx, Int.toNat_of_nonneg (by omega)]
  subst eN
  have Mr := mok_long (ring := false) N2 (by omega)
  have Mg_ := mok_long (ring := true) N2 (by omega)
  have lr : (rsLong N false).length = N := long_len (by omega)
  have lg : (rsLong N true).length = N := long_len (by omega)
  refine ⟨_, rfl, N, false, rfl, N2, by omega, fun H4 vr s4 hr4 => ?_⟩
  refine ⟨_, rfl, N, true, rfl, N2, by omega, fun H5 vg s5 hg5 => ⟨_, _, rfl, ?_⟩⟩
  have dk4 := deck_same s4 dk3
  have dk5 := deck_same s5 dk4
  have hrow := same_dt s5 (hr4 (Bd a c) (deck_tb dk3))
  have hrng := hg5 (Bd a c) (deck_tb dk4)
  have d2 : ∀ {rs rs' : Rows} {es es' : List Bool}, MOk 1 rs es → Dbl rs rs' es es' → Eqv rs' es' rs es 0 0 := fun M D => dbl_eqv D (mok_tgt M) M.l1
  -- the row
  refine ⟨_, rfl, _, rfl, a, c, cells3, n + 1 + 1, vr, 1, _, _, rfl, dk5, by omega, by omega, hrow, Mr, by omega, fun H6 cells6 n6 vd rs' es' dk6 m1 m2 k6 hd6 Md DBL => ?_⟩
  refine ⟨1, rs', es', vd, Bd a c, rfl, hd6, Md, deck_tb dk6, fun H7 v1 out oe s7 ho7 sm7 => ?_⟩
  obtain ⟨rfl, rfl⟩ := small_due (long_small N2) sm7 (d2 Mr DBL)
  have hrow7 := same_dt s7 (Dt.keep k6 _ _ hrow)
  have hrng7 := same_dt s7 (Dt.keep k6 _ _ hrng)
  have dk7 := deck_same s7 dk6
  refine ⟨_, rfl, 1, _, _, vr, Bd a c, rfl, hrow7, Mr, deck_tb dk7, fun H8 v2 out2 oe2 s8 ho8 sm8 => ?_⟩
  obtain ⟨rfl, rfl⟩ := small_due (long_small N2) sm8 (Eqv.refl 0)
  have dk8 := deck_same s8 dk7
  obtain ⟨h1, h2, h3⟩ := two_show Mr Mr
  refine ⟨by show 2 ≤ sizeLine; decide, fun l1 H9 s9 l10 ns1 hl1 => ?_⟩
  have dk9 := deck_same s9 dk8
  refine ⟨_, .list [machDt 1 (rsLong N false) (esLong N), machDt 1 (rsLong N false) (esLong N)], Bd a c, rfl, .lst (deck_off dk8 l10) ns1 (.inl hl1) (.cons (same_dt s9 (same_dt s8 ho7)) (.cons (same_dt s9 ho8) .nil)), h1, h2, h3, ?_⟩
  have hrow9 := same_dt s9 (same_dt s8 hrow7)
  have hrng9 := same_dt s9 (same_dt s8 hrng7)
  refine ⟨_, rfl, _, rfl, by show 2 ≤ sizeLine; decide, fun l2 H10 s10 l20 ns2 hl2 => ?_⟩
  have dk10 := deck_same s10 dk9
  refine ⟨_, .list [machDt 1 (rsLong N false) (esLong N), machDt 1 (rsLong N false) (esLong N)], Bd a c, rfl, .lst (deck_off dk9 l20) ns2 (.inl hl2) (.cons (same_dt s10 hrow9) (.cons (same_dt s10 hrow9) .nil)), h1, h2, h3, ?_⟩
  generalize (PyData.list [machDt 1 (rsLong N false) (esLong N), machDt 1 (rsLong N false) (esLong N)]).shown = S1
  refine ⟨rfl, _, rfl, ite2 (fun z => ?_) (fun _ => ?_)⟩
  · exact absurd rfl (of_decide_eq_false (not_cases z))
  -- the ring
  have hrng10 := same_dt s10 hrng9
  refine ⟨_, rfl, _, rfl, a, c, cells6, n6, vg, 1, _, _, rfl, dk10, by omega, by omega, hrng10, Mg_, by omega, fun H11 cells11 n11 vd2 rs2 es2 dk11 m3 m4 k11 hd11 Md2 DBL2 => ?_⟩
  refine ⟨1, rs2, es2, vd2, Bd a c, rfl, hd11, Md2, deck_tb dk11, fun H12 v3 out3 oe3 s12 ho12 sm12 => ?_⟩
  obtain ⟨rfl, rfl⟩ := small_due (long_small N2) sm12 (d2 Mg_ DBL2)
  obtain ⟨g1, g2, g3⟩ := one_show Mg_
  refine ⟨_, _, Bd a c, rfl, ho12, g1, g2, g3, ?_⟩
  have hrng12 := same_dt s12 (Dt.keep k11 _ _ hrng10)
  refine ⟨_, rfl, _, _, Bd a c, rfl, hrng12, g1, g2, g3, ?_⟩
  generalize (machDt 1 (rsLong N true) (esLong N)).shown = S2
  refine ⟨rfl, ?_⟩
  rw [show decide (V.str S2 = V.str S2) = true from decide_eq_true rfl]
  exact k H12 cells11 n11 (deck_same s12 dk11) (by omega) (by omega)
end
/-! ### the law -/
def rCatA : R2 := fun x y H Q => ∃ l b xs zs, x = .ref l ∧ y = .ref b ∧ H l = some (.lst xs) ∧ H b = some (.lst zs) ∧ xs.length + zs.length ≤ sizeLine ∧ ∀ p H', Same H H' → H p = none → H' p = some (.lst (xs ++ zs)) → Q (.ref p) H'
section
variable {X : Cx}
theorem op_catA : OpR X (binaryOp .Add) rCatA := by
  intro pins s σ H x y v u Q I rx ry h
  obtain ⟨l, b, xs, zs, rfl, rfl, hx, hy, hz, q⟩ := h
  cases rx
  cases ry
  obtain ⟨_, its, n, r, h1, e⟩ := I.lstM hx
  obtain ⟨_, jts, m, r2, h2, e2⟩ := I.lstM hy
  refine PySem.P.add_list e e2 ?_ (by rw [List.size_toArray, List.size_toArray]; omega)
  rw [show its.toArray ++ jts.toArray = (its ++ jts).toArray by simp]
  exact ⟨.ref _, _, I.lnew (t' := s.toks) (r.append r2) (by rw [List.length_append]; omega), rfl, q _ _ (same_new I.fresh) I.fresh upd_same⟩
end
section
variable {B : Addr → Prop} {K : PySem.W.Frag} {H : Hp} {lo : Addr} {zs : List V}
theorem tup_ne {a : Addr} {xs : List V} (hl : H lo = some (.lst zs)) (h : Rd H a (.tup xs)) : a ≠ lo := fun e => by
  rw [e] at h
  rcases h with h | ⟨_, h⟩
  · rw [hl] at h
    cases h
  · rw [hl] at h
    cases h
theorem offL_rows (hl : H lo = some (.lst zs)) : ∀ (rs : Rows) (rvs : List V), DtAll B K H rvs (rs.map rowDt) → DtAll (fun b => B b ∨ b = lo) K H rvs (rs.map rowDt)
  | [], _, h => by
    cases h
    exact .nil
  | row :: rs, _, h => by
    cases h with
    | cons h1 h2 =>
      refine .cons ?_ (offL_rows hl rs _ h2)
      obtain ⟨q, xs, rfl, nb, hq, ha, _⟩ := h1.tup_rd
      rw [dt_sc o_sc ha] at hq
      exact .tup (fun z => by
        rcases z with z | z
        · exact nb z
        · exact tup_ne hl hq z) hq (dt_cs o_cs row)
/-- a machine does not hold a list: it stays where one is written -/
theorem offL_mach (hl : H lo = some (.lst zs)) {L : Nat} {rs : Rows} {es : List Bool} {v : V} (h : Dt B K H v (machDt L rs es)) : Dt (fun b => B b ∨ b = lo) K H v (machDt L rs es) := by
  obtain ⟨m, xs, rfl, nm, hm, ha, _⟩ := h.tup_rd
  cases ha with
  | cons h1 ha =>
    cases ha with
    | cons h2 ha =>
      cases ha with
      | cons h3 ha =>
        cases ha
        cases h1
        obtain ⟨pr, rvs, rfl, n2, hr, har, _⟩ := h2.tup_rd
        obtain ⟨pe, evs, rfl, n3, he, hae, _⟩ := h3.tup_rd
        have off : ∀ {q : Addr} {ys : List V}, ¬ B q → Rd H q (.tup ys) → ¬ (B q ∨ q = lo) := fun nb hq z => by
          rcases z with z | z
          · exact nb z
          · exact tup_ne hl hq z
        have ee := dt_sc b_sc hae
        rw [ee] at he
        exact .tup (off nm hm) hm (.cons (.int _) (.cons (.tup (off n2 hr) hr (offL_rows hl rs _ har)) (.cons (.tup (off n3 he) he (dt_cs (fun x => Dt.bl x) es)) .nil)))
theorem mach_wr (hl : H lo = some (.lst zs)) {L : Nat} {rs : Rows} {es : List Bool} {v : V} {o : HO} (h : Dt B K H v (machDt L rs es)) : Dt B K (upd H lo o) v (machDt L rs es) :=
  Dt.weak (fun b z => .inl z) _ _ (Dt.keep (keep_store (.inr rfl)) _ _ (offL_mach hl h))
theorem dp_cs {α : Type} {fD : α → PyData} {fV : α → V} (h1 : ∀ x, Dp K H (fV x) (fD x)) : ∀ xs : List α, DpAll K H (xs.map fV) (xs.map fD)
  | [] => .nil
  | x :: xs => .cons (h1 x) (dp_cs h1 xs)
theorem dp_rows : ∀ (rs : Rows) (rvs : List V), DtAll B K H rvs (rs.map rowDt) → DpAll K H rvs (rs.map rowDt)
  | [], _, h => by
    cases h
    exact .nil
  | row :: rs, _, h => by
    cases h with
    | cons h1 h2 =>
      refine .cons ?_ (dp_rows rs _ h2)
      obtain ⟨q, xs, rfl, nb, hq, ha, _⟩ := h1.tup_rd
      rw [dt_sc o_sc ha] at hq
      refine .tup (.inl hq) (dp_cs (fun o => ?_) row)
      cases o with
      | none => exact .non
      | some k => exact .int _
theorem mach_dp {L : Nat} {rs : Rows} {es : List Bool} {v : V} (h : Dt B K H v (machDt L rs es)) : Dp K H v (machDt L rs es) := by
  obtain ⟨m, xs, rfl, nm, hm, ha, _⟩ := h.tup_rd
  cases ha with
  | cons h1 ha =>
    cases ha with
    | cons h2 ha =>
      cases ha with
      | cons h3 ha =>
        cases ha
        cases h1
        obtain ⟨pr, rvs, rfl, n2, hr, har, _⟩ := h2.tup_rd
        obtain ⟨pe, evs, rfl, n3, he, hae, _⟩ := h3.tup_rd
        rw [dt_sc b_sc hae] at he
        exact .tup (.inl hm) (.cons (.int _) (.cons (.tup (.inl hr) (dp_rows rs _ har)) (.cons (.tup (.inl he) (dp_cs (fun x => Dp.bl x) es)) .nil)))
end
theorem dead_all {rs : Rws} {es : List Bool} (h : ∀ s, es.getD s false = false) : ∀ (w : List Nat) (s : Nat), acc rs es w s = false
  | [], s => h s
  | c :: w, s => by
    cases e : nx rs s c with
    | none => exact acc_none e
    | some t =>
      rw [acc_cons e]
      exact dead_all h w t
theorem dead_out {rs out : Rws} {es oe : List Bool} {L : Nat} (h : ∀ s, es.getD s false = false) (g : Smallest rs es L out oe) : out = [List.replicate L none] ∧ oe = [false] := by
  rcases g with ⟨ps, C⟩ | ⟨_, e1, e2⟩
  · obtain ⟨w, hw⟩ := canon_live C
    rw [dead_all h] at hw
    cases hw
  · exact ⟨e1, e2⟩
theorem mok_none : MOk 2 [[none, none]] [false] := by
  refine ⟨Nat.le_refl _, by show 1 ≤ 400; decide, fun row hr => ?_, fun row hr t ht => ?_, rfl, by decide, by decide⟩
  · rw [List.mem_singleton.mp hr]
    rfl
  · rw [List.mem_singleton.mp hr] at ht
    rcases List.mem_cons.mp ht with z | z
    · cases z
    · cases List.mem_singleton.mp z
theorem mok_dead : MOk 2 [[some 1, some 1], [some 0, some 1]] [false, false] := by
  refine ⟨by decide, by show 2 ≤ 400; decide, fun row hr => ?_, fun row hr t ht => ?_, rfl, by decide, by decide⟩
  · rcases List.mem_cons.mp hr with z | z
    · rw [z]
      rfl
    · rw [List.mem_singleton.mp z]
      rfl
  · have key : t = 0 ∨ t = 1 := by
      rcases List.mem_cons.mp hr with z | z
      · rw [z] at ht
        rcases List.mem_cons.mp ht with z | z
        · exact .inr (Option.some.inj z)
        · exact .inr (Option.some.inj (List.mem_singleton.mp z))
      · rw [List.mem_singleton.mp z] at ht
        rcases List.mem_cons.mp ht with z | z
        · exact .inl (Option.some.inj z)
        · exact .inr (Option.some.inj (List.mem_singleton.mp z))
    show t < 2
    omega
theorem none_eq : PyData.eqv (machDt 2 [List.replicate 2 none] [false]) (machDt 2 [[none, none]] [false]) = true := by decide +kernel
theorem none_sh : SeqAt.shaped (machDt 2 [[none, none]] [false]) = true := by decide +kernel
theorem none_sh' : SeqAt.shaped (machDt 2 [List.replicate 2 none] [false]) = true := by decide +kernel

section
variable {P : Program} {w : World} {K : PySem.W.Frag} {mg : Str → Option Value} {base : Heap}
theorem scLaw : FnScope ["_law_script", "_law_deck_here", "_law_turn", "_law_machine_here", "_law_due", "_law_others", "_law_own", "_law_shown", "_law_none"] ["_law_script"] (defScope sLaw) := ⟨rfl, rfl, rfl, by decide +kernel, rfl, by decide +kernel, by decide +kernel⟩
def spLaw (K : PySem.W.Frag) : Sp := fun vs H Q _ => ∃ (l : Addr) (ns : List Int), vs = [.ref l] ∧ SqL K H l (ns.map V.int) ∧ ns.length ≤ 63 ∧ ∀ H', Q (.bl true) H'
theorem ok_law {f fDK fDR fLR fMC fLE fDB fMO fMX fSM : Addr} {fd fdDK fdDR fdLR fdMC fdLE fdDB fdMO fdMX fdSM : FuncData} (F : Fun K "law" "law" sLaw f fd)
    (DK : FnOk P w K mg base CX0 1 fDK fdDK ["_law_script"] (spDeck K)) (FDK : Fun K "_law_deck" "_law_deck" sDeck fDK fdDK) (bDK : Binds K fdDK ["_law_script"] []) (gDK : mg "_law_deck" = some (.ref fDK))
    (DR : FnOk P w K mg base CX0 1 fDR fdDR ["_law_deck_here", "_law_many"] spDraw) (FDR : Fun K "_law_draw" "_law_draw" sDraw fDR fdDR) (bDR : Binds K fdDR ["_law_deck_here", "_law_many"] []) (gDR : mg "_law_draw" = some (.ref fDR))
    (LR : GRun P w K mg base 6 fLR fdLR ["_law_deck_here"] spLongR) (FLR : Fun K "_law_long_right" "_law_long_right" sLongR fLR fdLR) (bLR : Binds K fdLR ["_law_deck_here"] []) (gLR : mg "_law_long_right" = some (.ref fLR))
    (MC : FnOk P w K mg base CX0 3 fMC fdMC ["_law_deck_here", "_law_letters", "_law_most"] (spMach K)) (FMC : Fun K "_law_machine" "_law_machine" sMach fMC fdMC) (bMC : Binds K fdMC ["_law_deck_here", "_law_letters", "_law_most"] []) (gMC : mg "_law_machine" = some (.ref fMC))
    (LE : FnOk P w K mg base CX0 2 fLE fdLE ["_law_letters", "_law_rows", "_law_ends"] (spLeast K)) (FLE : Fun K "_law_least" "_law_least" sLeast fLE fdLE) (bLE : Binds K fdLE ["_law_letters", "_law_rows", "_law_ends"] []) (gLE : mg "_law_least" = some (.ref fLE))
    (DB : FnOk P w K mg base CX0 2 fDB fdDB ["_law_deck_here", "_law_machine_here"] (spDoubled K)) (FDB : Fun K "_law_doubled" "_law_doubled" sDoubled fDB fdDB) (bDB : Binds K fdDB ["_law_deck_here", "_law_machine_here"] []) (gDB : mg "_law_doubled" = some (.ref fDB))
    (MO : FnOk P w K mg base CX0 3 fMO fdMO ["_law_deck_here", "_law_machine_here"] (spMore K)) (FMO : Fun K "_law_more" "_law_more" sMore fMO fdMO) (bMO : Binds K fdMO ["_law_deck_here", "_law_machine_here"] []) (gMO : mg "_law_more" = some (.ref fMO))
    (MX : FnOk P w K mg base CX0 2 fMX fdMX ["_law_deck_here", "_law_machine_here"] (spMixed K)) (FMX : Fun K "_law_mixed" "_law_mixed" sMixed fMX fdMX) (bMX : Binds K fdMX ["_law_deck_here", "_law_machine_here"] []) (gMX : mg "_law_mixed" = some (.ref fMX))
    (SM : FnOk P w K mg base CX0 5 fSM fdSM ["machine"] (spSmallest K)) (FSM : Fun K "smallest" "smallest" sSmallest fSM fdSM) (bSM : Binds K fdSM ["machine"] []) (gSM : mg "smallest" = some (.ref fSM)) (T : Mg mg) : GRun P w K mg base 7 f fd ["_law_script"] (spLaw K) := by
  refine grun F scLaw (fun cdv A outer s H vs Q hG0 hr h => ?_)
  obtain ⟨l, ns, rfl, hS, hlen, k⟩ := h
  have hG : (A.deeper (envOfC "law" (defScope sLaw) s.heap.objs.size f cdv)).guards = some [] := hG0
  have hu := hr.units
  have hu0 := hr.units0
  refine ⟨_, (pss_cons (ps_set (i := 1) scLaw.nd rfl (.inl rfl) (pe_call DK (hr.mono (by decide)) (by rfl) gDK FDK.kp bDK .nil pass0 (pa_cons (pv 0) pa_nil)))
      (pss_cons (ps_if (pt_not (pt_val (pe_callG LR hG (hr.mono (by decide)) (by rfl) gLR FLR.kp bLR (pa_cons (pv 1) pa_nil)))) (pss_one (ps_ret pe_bl)) pss_nil)
      (pss_cons (ps_for PassesOwn.never rfl (pi_range1 (by rfl) T.range (pa_cons pe_int pa_nil)) (pg_name (i := 2) scLaw.nd rfl (.inl rfl)) (pss_cons (ps_set (i := 3) scLaw.nd rfl (.inl rfl) (pe_call MC (hr.mono (by decide)) (by rfl) gMC FMC.kp bMC .nil pass0 (pa_cons (pv 1) (pa_cons (pe_op op_add pe_int (pe_call DR (hr.mono (by decide)) (by rfl) gDR FDR.kp bDR .nil pass0 (pa_cons (pv 1) (pa_cons pe_int pa_nil)))) (pa_cons pe_int pa_nil)))))
      (pss_cons (ps_set (i := 4) scLaw.nd rfl (.inl rfl) (pe_call LE (hr.mono (by decide)) (by rfl) gLE FLE.kp bLE .nil pass0 (pa_cons (pe_ix (r := rIxT K) ix_tup (pv 3) pe_int (fun _ _ => rfl)) (pa_cons (pe_ix (r := rIxT K) ix_tup (pv 3) pe_int (fun _ _ => rfl)) (pa_cons (pe_ix (r := rIxT K) ix_tup (pv 3) pe_int (fun _ _ => rfl)) pa_nil)))))
      (pss_cons (ps_set (i := 5) scLaw.nd rfl (.inl rfl) (pe_lstA (pa_cons (pe_call DB (hr.mono (by decide)) (by rfl) gDB FDB.kp bDB .nil pass0 (pa_cons (pv 1) (pa_cons (pv 3) pa_nil))) (pa_cons (pe_call MO (hr.mono (by decide)) (by rfl) gMO FMO.kp bMO .nil pass0 (pa_cons (pv 1) (pa_cons (pv 3) pa_nil))) (pa_cons (pe_call MX (hr.mono (by decide)) (by rfl) gMX FMX.kp bMX .nil pass0 (pa_cons (pv 1) (pa_cons (pv 3) pa_nil))) pa_nil)))))
      (pss_cons (ps_expr (pe_bm PySem.F.plainAttrs_list PySem.F.slot_list_append PySem.F.type_list_append mt_append (pv 5) (pa_cons (pe_call MX (hr.mono (by decide)) (by rfl) gMX FMX.kp bMX .nil pass0 (pa_cons (pv 1) (pa_cons (pe_call MO (hr.mono (by decide)) (by rfl) gMO FMO.kp bMO .nil pass0 (pa_cons (pv 1) (pa_cons (pe_call DB (hr.mono (by decide)) (by rfl) gDB FDB.kp bDB .nil pass0 (pa_cons (pv 1) (pa_cons (pv 3) pa_nil))) pa_nil))) pa_nil))) pa_nil)))
      (pss_one (ps_for PassesOwn.never rfl (pi_list (pe_op op_catA (pe_lstA (pa_cons (pv 3) (pa_cons (pv 4) pa_nil))) (pv 5))) (pg_name (i := 6) scLaw.nd rfl (.inl rfl)) (pss_cons (ps_set (i := 7) scLaw.nd rfl (.inl rfl) (pe_callB (call_reprD hG hu) (by rfl) T.repr (by decide +kernel) (pa_cons (pv 6) pa_nil)))
      (pss_one (ps_if (PW.pt (pw_or (pt_cmpR op_ne (pe_callB (call_reprD hG hu) (by rfl) T.repr (by decide +kernel) (pa_cons (pe_lstA (pa_cons (pe_call SM (hr.mono (by decide)) (by rfl) gSM FSM.kp bSM .nil pass0 (pa_cons (pv 6) pa_nil)) (pa_cons (pe_call SM (hr.mono (by decide)) (by rfl) gSM FSM.kp bSM .nil pass0 (pa_cons (pv 6) pa_nil)) pa_nil))) pa_nil)) (pe_callB (call_reprD hG hu) (by rfl) T.repr (by decide +kernel) (pa_cons (pe_lstA (pa_cons (pv 4) (pa_cons (pv 4) pa_nil))) pa_nil)) (nomark _)) (pw_or1 (pt_cmpR op_ne (pe_callB (call_reprD hG hu) (by rfl) T.repr (by decide +kernel) (pa_cons (pv 6) pa_nil)) (pv 7) (nomark _))))) (pss_one (ps_ret pe_bl)) pss_nil))))))))))
      (pss_cons (ps_set (i := 8) scLaw.nd rfl (.inl rfl) (pe_tup (pa_cons pe_int (pa_cons (pe_tup (pa_cons (pe_tup (pa_cons pe_non (pa_cons pe_non pa_nil))) pa_nil)) (pa_cons (pe_tup (pa_cons pe_bl pa_nil)) pa_nil)))))
      (pss_one (ps_ret (pe_and (pe_cmpR (op_eqD hu) (pe_call SM (hr.mono (by decide)) (by rfl) gSM FSM.kp bSM .nil pass0 (pa_cons (pe_tup (pa_cons pe_int (pa_cons (pe_tup (pa_cons (pe_tup (pa_cons pe_int (pa_cons pe_int pa_nil))) (pa_cons (pe_tup (pa_cons pe_int (pa_cons pe_int pa_nil))) pa_nil))) (pa_cons (pe_tup (pa_cons pe_bl (pa_cons pe_bl pa_nil))) pa_nil)))) pa_nil)) (pv 8) (nomark _)) (pe_one (pe_cmpR (op_eqD hu) (pe_call SM (hr.mono (by decide)) (by rfl) gSM FSM.kp bSM .nil pass0 (pa_cons (pv 8) pa_nil)) (pv 8) (nomark _)))))))))), ?_⟩
  refine ⟨_, rfl, l, ns, rfl, hS, hlen, fun H1 a c cells0 s1 na nc dk0 => ?_⟩
  refine ⟨_, rfl, rfl, a, c, cells0, 0, rfl, dk0, by decide, by decide, fun H2 cells2 n2 dk2 b1 b2 => ⟨_, rfl, ?_⟩⟩
  refine ⟨8, rfl, by decide, by decide, for_range (lo := 0) (n := 8) (fun i σ H' => (∃ y2 y3 y4 y5 y6 y7 y8 : Option V, σ = [some (.ref l), some (.ref a), y2, y3, y4, y5, y6, y7, y8]) ∧ ∃ (cells : List Int) (n : Int), DeckAt a c cells n H' ∧ 0 ≤ n ∧ n ≤ 10000 + 20000 * i)
    ⟨⟨_, _, _, _, _, _, _, rfl⟩, cells2, n2, dk2, by omega, by omega⟩ ?_ ?_⟩
  · rintro i σ H2 hi ⟨⟨y2, y3, y4, y5, y6, y7, y8, rfl⟩, cells, n, dk, n0, nb⟩
    refine ⟨_, rfl, _, rfl, a, c, cells, n, 3, rfl, dk, by decide, by decide, n0, by omega, fun H3 cells3 r r0 r3 dk3 k3 => ?_⟩
    obtain ⟨L, hL⟩ : ∃ L : Nat, (L : Int) = 1 + r := ⟨(1 + r).toNat, by omega⟩
    refine ⟨1, r, rfl, rfl, a, c, cells3, n + 1, 1 + r, 8, rfl, dk3, by omega, by omega, by omega, by omega, by decide, by decide, fun H4 cells4 n4 vm rs0 es0 dk4 m1 m2 k4 hM => ?_⟩
    rw [← hL] at hM
    obtain ⟨rows, bs, hdm, M, l8⟩ := mach_of hM (by omega) (by omega) (by decide)
    clear hM
    obtain ⟨m, pr, pe, rvs, rfl, nm, MM⟩ := dt_mach hdm
    have l8 : rows.length ≤ 8 := by omega
    have tb4 := deck_tb dk4
    -- the due one
    refine ⟨_, rfl, m, _, 0, _, rfl, rfl, .inl MM.hm, atI_nat (j := 0) rfl, _, rfl, m, _, 1, _, rfl, rfl, .inl MM.hm, atI_nat (j := 1) rfl, _, rfl, m, _, 2, _, rfl, rfl, .inl MM.hm, atI_nat (j := 2) rfl, L, rows, bs, m, pr, pe, rvs, Bd a c, rfl, M, MM, tb4, by omega, fun H5 vd out oe s5 hdue sm5 => ?_⟩
    have Mo := smallest_mok M sm5
    have dk5 := deck_same s5 dk4
    have hdm5 := same_dt s5 hdm
    have eqo := smallest_eqv sm5
    -- the others
    refine ⟨_, rfl, _, rfl, a, c, cells4, n4, .ref m, L, rows, bs, rfl, dk5, by omega, by omega, hdm5, M, by omega, fun H6 cells6 n6 v1 rs1 es1 dk6 m3 m4 k6 hd1 M1 DBL => ?_⟩
    have hdm6 := Dt.keep k6 _ _ hdm5
    have hdue6 := Dt.keep k6 _ _ hdue
    have eq1 := dbl_eqv DBL (mok_tgt M) M.l1
    refine ⟨_, rfl, _, rfl, a, c, cells6, n6, .ref m, L, rows, bs, rfl, dk6, by omega, by omega, hdm6, M, by omega, fun H7 cells7 n7 v2 rs2 es2 dk7 m5 m6 k7 hd2 M2 len2 MOR => ?_⟩
    have hdm7 := Dt.keep k7 _ _ hdm6
    have hdue7 := Dt.keep k7 _ _ hdue6
    have hd17 := Dt.keep k7 _ _ hd1
    have eq2 := mor_eqv MOR (mok_tgt M) M.l1
    refine ⟨_, rfl, _, rfl, a, c, cells7, n7, .ref m, L, rows, bs, rfl, dk7, by omega, by omega, hdm7, M, fun H8 cells8 n8 v3 rs3 es3 ord3 dk8 m7 m8 k8 hd3 M3 len3 MIX => ?_⟩
    have hdm8 := Dt.keep k8 _ _ hdm7
    have hdue8 := Dt.keep k8 _ _ hdue7
    have hd18 := Dt.keep k8 _ _ hd17
    have hd28 := Dt.keep k8 _ _ hd2
    have eq3 := mix_eqv MIX
    refine ⟨by show 3 ≤ sizeLine; decide, fun lo H9 s9 lo0 _ hlo => ?_⟩
    have nlo := deck_off dk8 lo0
    have dk9 := deck_same s9 dk8
    have hdm9 := same_dt s9 hdm8
    refine ⟨_, rfl, .inl ⟨rfl, _, SqL.of hlo⟩, ?_⟩
    refine ⟨_, rfl, _, rfl, _, rfl, _, rfl, a, c, cells8, n8, .ref m, L, rows, bs, rfl, dk9, by omega, by omega, hdm9, M, by omega, fun H10 cells10 n10 w1 qs1 fs1 dk10 m9 m10 k10 hw1 Q1 DBL2 => ?_⟩
    have qlen := DBL2.len
    refine ⟨a, c, cells10, n10, w1, L, qs1, fs1, rfl, dk10, by omega, by omega, hw1, Q1, by omega, fun H11 cells11 n11 w2 qs2 fs2 dk11 m11 m12 k11 hw2 Q2 len12 MOR2 => ?_⟩
    refine ⟨a, c, cells11, n11, w2, L, qs2, fs2, rfl, dk11, by omega, by omega, hw2, Q2, fun H12 cells12 n12 v4 rs4 es4 ord4 dk12 m13 m14 k12 hd4 M4 len4 MIX2 => ?_⟩
    have eq4 : Eqv rs4 es4 rows bs 0 0 := (mix_eqv MIX2).trans ((mor_eqv MOR2 (mok_tgt Q1) Q1.l1).trans (dbl_eqv DBL2 (mok_tgt M) M.l1))
    have k912 := (k10.trans k11).trans k12
    have hlo12 := k912 _ _ nlo hlo
    have up : ∀ {v : V} {qs : Rows} {fs : List Bool}, Dt (Bd a c) K H8 v (machDt L qs fs) → Dt (Bd a c) K H12 v (machDt L qs fs) := fun h => Dt.keep k912 _ _ (same_dt s9 h)
    have hdm12 := up hdm8
    have hdue12 := up hdue8
    have hd112 := up hd18
    have hd212 := up hd28
    have hd312 := up hd3
    refine ⟨lo, _, _, rfl, rfl, hlo12, by show 3 < sizeLine; decide, ?_⟩
    have hdm13 := mach_wr (o := .lst ([v1, v2, v3] ++ [v4])) hlo12 hdm12
    have hdue13 := mach_wr (o := .lst ([v1, v2, v3] ++ [v4])) hlo12 hdue12
    have hd113 := mach_wr (o := .lst ([v1, v2, v3] ++ [v4])) hlo12 hd112
    have hd213 := mach_wr (o := .lst ([v1, v2, v3] ++ [v4])) hlo12 hd212
    have hd313 := mach_wr (o := .lst ([v1, v2, v3] ++ [v4])) hlo12 hd312
    have hd413 := mach_wr (o := .lst ([v1, v2, v3] ++ [v4])) hlo12 hd4
    have dk13 := deck_upd (o := .lst ([v1, v2, v3] ++ [v4])) dk12 nlo
    have hlo13 : (upd H12 lo (.lst ([v1, v2, v3] ++ [v4]))) lo = some (.lst ([v1, v2, v3] ++ [v4])) := upd_same
    clear up hdm12 hdue12 hd112 hd212 hd312 hd4 hdm9 hdm8 hdue8 hd18 hd28 hd3 hdm7 hdue7 hd17 hd2 hdm6 hdue6 hd1 hdm5 hdue hw1 hw2 hlo12 hlo
    generalize upd H12 lo (.lst ([v1, v2, v3] ++ [v4])) = H13 at *
    refine ⟨_, rfl, _, rfl, by show 2 ≤ sizeLine; decide, fun l2 H14 s14 l20 _ hl2 => ?_⟩
    refine ⟨_, rfl, l2, lo, _, _, rfl, rfl, hl2, s14 _ _ hlo13, by show 6 ≤ sizeLine; decide, fun l3 H15 s15 l30 hl3 => ?_⟩
    have s1315 := s14.trans s15
    have dk15 := deck_same s1315 dk13
    have hdue15 := same_dt s1315 hdue13
    have own : ∀ x ∈ ([.ref m, vd] ++ ([v1, v2, v3] ++ [v4]) : List V), ∃ (qs : Rows) (fs : List Bool), Dt (Bd a c) K H15 x (machDt L qs fs) ∧ MOk L qs fs ∧ Eqv qs fs rows bs 0 0 := fun x hx => by
      rcases List.mem_cons.mp hx with z | hx
      · rw [z]
        exact ⟨_, _, same_dt s1315 hdm13, M, Eqv.refl 0⟩
      rcases List.mem_cons.mp hx with z | hx
      · rw [z]
        exact ⟨_, _, hdue15, Mo, eqo⟩
      rcases List.mem_cons.mp hx with z | hx
      · rw [z]
        exact ⟨_, _, same_dt s1315 hd113, M1, eq1⟩
      rcases List.mem_cons.mp hx with z | hx
      · rw [z]
        exact ⟨_, _, same_dt s1315 hd213, M2, eq2⟩
      rcases List.mem_cons.mp hx with z | hx
      · rw [z]
        exact ⟨_, _, same_dt s1315 hd313, M3, eq3⟩
      · rw [List.mem_singleton.mp hx]
        exact ⟨_, _, same_dt s1315 hd413, M4, eq4⟩
    clear hdm13 hdue13 hd113 hd213 hd313 hd413 hl2 hlo13
    refine ⟨l3, rfl, ⟨_, SqL.of hl3⟩, ?_⟩
    refine for_list (K := K) (a := l3) (xs := [.ref m, vd] ++ ([v1, v2, v3] ++ [v4])) (fun j σ H' => (∃ y6 y7 : Option V, σ = [some (.ref l), some (.ref a), some (.int (0 + (i : Int))), some (.ref m), some vd, some (.ref lo), y6, y7, y8]) ∧ Same H15 H')
      ⟨⟨_, _, rfl⟩, Same.refl _⟩ (fun j σ H' _ p => SqL.of (p.2 _ _ hl3)) ?_ ?_
    · rintro j x σ H16 hx ⟨⟨y6, y7, rfl⟩, s16⟩
      obtain ⟨qs, fs, hd, Mq, eq⟩ := own x (List.mem_of_getElem? hx)
      have dk16 := deck_same s16 dk15
      have hd16 := same_dt s16 hd
      have hdue16 := same_dt s16 hdue15
      obtain ⟨g1, g2, g3⟩ := one_show Mq
      obtain ⟨h1, h2, h3⟩ := two_show Mo Mo
      refine ⟨_, rfl, _, machDt L qs fs, Bd a c, rfl, hd16, g1, g2, g3, ?_⟩
      refine ⟨_, rfl, L, qs, fs, x, Bd a c, rfl, hd16, Mq, deck_tb dk16, fun H17 va o1 e1 s17 ha sm1 => ?_⟩
      obtain ⟨rfl, rfl⟩ := small_due sm5 sm1 eq
      have dk17 := deck_same s17 dk16
      have hd17 := same_dt s17 hd16
      refine ⟨_, rfl, L, qs, fs, x, Bd a c, rfl, hd17, Mq, deck_tb dk17, fun H18 vb o2 e2 s18 hb sm2 => ?_⟩
      obtain ⟨rfl, rfl⟩ := small_due sm5 sm2 eq
      have dk18 := deck_same s18 dk17
      refine ⟨by show 2 ≤ sizeLine; decide, fun l4 H19 s19 l40 ns4 hl4 => ?_⟩
      have dk19 := deck_same s19 dk18
      have s1619 := s17.trans (s18.trans s19)
      refine ⟨_, .list [machDt L o2 e2, machDt L o2 e2], Bd a c, rfl, .lst (deck_off dk18 l40) ns4 (.inl hl4) (.cons (same_dt (s18.trans s19) ha) (.cons (same_dt s19 hb) .nil)), h1, h2, h3, ?_⟩
      have hdue19 := same_dt s1619 hdue16
      refine ⟨_, rfl, _, rfl, by show 2 ≤ sizeLine; decide, fun l5 H20 s20 l50 ns5 hl5 => ?_⟩
      refine ⟨_, .list [machDt L o2 e2, machDt L o2 e2], Bd a c, rfl, .lst (deck_off dk19 l50) ns5 (.inl hl5) (.cons (same_dt s20 hdue19) (.cons (same_dt s20 hdue19) .nil)), h1, h2, h3, ?_⟩
      have hd20 := same_dt (s1619.trans s20) hd16
      have s1520 := s16.trans (s1619.trans s20)
      generalize (PyData.list [machDt L o2 e2, machDt L o2 e2]).shown = S1
      refine ⟨rfl, _, rfl, ite2 (fun z => ?_) (fun _ => ?_)⟩
      · exact absurd rfl (of_decide_eq_false (not_cases z))
      refine ⟨_, rfl, _, machDt L qs fs, Bd a c, rfl, hd20, g1, g2, g3, ?_⟩
      generalize (machDt L qs fs).shown = S2
      refine ⟨_, rfl, rfl, _, rfl, ite2 (fun z => ?_) (fun _ => ?_)⟩
      · exact absurd rfl (of_decide_eq_false (not_cases z))
      exact ⟨⟨_, _, rfl⟩, s1520⟩
    · rintro σ H16 ⟨⟨y6, y7, rfl⟩, s16⟩
      refine ⟨⟨_, _, _, _, _, _, _, rfl⟩, cells12, n12, deck_same s16 dk15, by omega, ?_⟩
      rw [Int.natCast_add]
      omega
  · rintro σ H2 ⟨⟨y2, y3, y4, y5, y6, y7, y8, rfl⟩, cells, n, dk, n0, nb⟩
    have tb := deck_tb dk
    refine ⟨by show 2 ≤ sizeLine; decide, fun t1 nt1 => ?_⟩
    have s1' := same_new (o := .tup [.non, .non]) nt1
    have tb1 := tb_same s1' tb
    refine ⟨by show 1 ≤ sizeLine; decide, fun t2 nt2 => ?_⟩
    have s2' := same_new (o := .tup [.ref t1]) nt2
    have tb2 := tb_same s2' tb1
    refine ⟨by show 1 ≤ sizeLine; decide, fun t3 nt3 => ?_⟩
    have s3' := same_new (o := .tup [.bl false]) nt3
    have tb3 := tb_same s3' tb2
    refine ⟨by show 3 ≤ sizeLine; decide, fun t4 nt4 => ?_⟩
    have s4' := same_new (o := .tup [.int 2, .ref t2, .ref t3]) nt4
    have tb4 := tb_same s4' tb3
    have hn : Dt (Bd a c) K _ (.ref t4) (machDt 2 [[none, none]] [false]) := .tup (tb_off tb3 nt4) (.inl upd_same) (.cons (.int _) (.cons (.tup (tb_off tb1 nt2) (same_rd (s3'.trans s4') (.inl upd_same)) (.cons (.tup (tb_off tb nt1) (same_rd (s2'.trans (s3'.trans s4')) (.inl upd_same)) (.cons .non (.cons .non .nil))) .nil)) (.cons (.tup (tb_off tb2 nt3) (same_rd s4' (.inl upd_same)) (.cons (.bl _) .nil)) .nil)))
    clear nt1 s1' nt2 s2' nt3 s3' nt4 s4' tb1 tb2 tb3
    generalize upd (upd (upd (upd H2 t1 (.tup [.non, .non])) t2 (.tup [.ref t1])) t3 (.tup [.bl false])) t4 (.tup [.int 2, .ref t2, .ref t3]) = H3 at *
    refine ⟨by show 2 ≤ sizeLine; decide, fun q1 n1 => ?_⟩
    have e1 := same_new (o := .tup [.int 1, .int 1]) n1
    have tb1 := tb_same e1 tb4
    refine ⟨by show 2 ≤ sizeLine; decide, fun q2 n2 => ?_⟩
    have e2 := same_new (o := .tup [.int 0, .int 1]) n2
    have tb2 := tb_same e2 tb1
    refine ⟨by show 2 ≤ sizeLine; decide, fun q3 n3 => ?_⟩
    have e3 := same_new (o := .tup [.ref q1, .ref q2]) n3
    have tb3 := tb_same e3 tb2
    refine ⟨by show 2 ≤ sizeLine; decide, fun q4 n4 => ?_⟩
    have e4 := same_new (o := .tup [.bl false, .bl false]) n4
    have tb4' := tb_same e4 tb3
    refine ⟨by show 3 ≤ sizeLine; decide, fun q5 n5 => ?_⟩
    have e5 := same_new (o := .tup [.int 2, .ref q3, .ref q4]) n5
    have tb5 := tb_same e5 tb4'
    have hm : Dt (Bd a c) K _ (.ref q5) (machDt 2 [[some 1, some 1], [some 0, some 1]] [false, false]) := .tup (tb_off tb4' n5) (.inl upd_same) (.cons (.int _) (.cons (.tup (tb_off tb2 n3) (same_rd (e4.trans e5) (.inl upd_same)) (.cons (.tup (tb_off tb4 n1) (same_rd (e2.trans (e3.trans (e4.trans e5))) (.inl upd_same)) (.cons (.int _) (.cons (.int _) .nil))) (.cons (.tup (tb_off tb1 n2) (same_rd (e3.trans (e4.trans e5)) (.inl upd_same)) (.cons (.int _) (.cons (.int _) .nil))) .nil))) (.cons (.tup (tb_off tb3 n4) (same_rd e5 (.inl upd_same)) (.cons (.bl _) (.cons (.bl _) .nil))) .nil)))
    have hn5 := same_dt (e1.trans (e2.trans (e3.trans (e4.trans e5)))) hn
    refine ⟨2, _, _, .ref q5, Bd a c, rfl, hm, mok_dead, tb5, fun H4 v o1 x1 s4 hv sm => ?_⟩
    obtain ⟨rfl, rfl⟩ := dead_out (fun s => by
      cases s with
      | zero => rfl
      | succ s =>
        cases s with
        | zero => rfl
        | succ s => rfl) sm
    have hn4 := same_dt s4 hn5
    refine ⟨_, rfl, _, _, mach_dp hv, mach_dp hn4, none_sh', none_sh, ?_⟩
    rw [none_eq]
    refine ⟨_, rfl, ?_⟩
    refine ⟨_, rfl, 2, _, _, .ref t4, Bd a c, rfl, hn4, mok_none, tb_same s4 tb5, fun H5 v2 o2 x2 s5 hv2 sm2 => ?_⟩
    obtain ⟨rfl, rfl⟩ := dead_out (fun s => by
      cases s with
      | zero => rfl
      | succ s => rfl) sm2
    refine ⟨_, rfl, _, _, mach_dp hv2, mach_dp (same_dt s5 hn4), none_sh', none_sh, ?_⟩
    rw [none_eq]
    exact k H5
end
theorem all_mk {l : PySem.W.OpenLaw} {w : World} {K : PySem.W.Frag} {h : Heap} {mg : Str → Option Value} {fa f0 f1 f2 f3 f4 f5 f6 f7 f8 f9 f10 f11 f12 f13 f14 f15 f16 f17 f18 f19 f20 f21 f22 f23 f24 : Addr} (inK : K.In h) (atG : h.Ns mainGlobals mg) (hfa : mg "law" = some (.ref fa))
    {odd0 and0 odd1 and1 odd2 and2 odd3 and3 odd4 and4 odd5 and5 odd6 and6 odd7 and7 odd8 and8 odd9 and9 odd10 and10 odd11 and11 odd12 and12 odd13 and13 odd14 and14 odd15 and15 odd16 and16 odd17 and17 odd18 and18 odd19 and19 odd20 and20 odd21 and21 odd22 and22 odd23 and23 odd24 and24 : Option Addr} {sld0 sld1 sld2 sld3 sld4 sld5 sld6 sld7 sld8 sld9 sld10 sld11 sld12 sld13 sld14 sld15 sld16 sld17 sld18 sld19 sld20 sld21 sld22 sld23 sld24 : Array (Option Value)} {ocd0 kVd0 dcd0 pmd0 cdd0 ctd0 ocd1 kVd1 dcd1 pmd1 cdd1 ctd1 ocd2 kVd2 dcd2 pmd2 cdd2 ctd2 ocd3 kVd3 dcd3 pmd3 cdd3 ctd3 ocd4 kVd4 dcd4 pmd4 cdd4 ctd4 ocd5 kVd5 dcd5 pmd5 cdd5 ctd5 ocd6 kVd6 dcd6 pmd6 cdd6 ctd6 ocd7 kVd7 dcd7 pmd7 cdd7 ctd7 ocd8 kVd8 dcd8 pmd8 cdd8 ctd8 ocd9 kVd9 dcd9 pmd9 cdd9 ctd9 ocd10 kVd10 dcd10 pmd10 cdd10 ctd10 ocd11 kVd11 dcd11 pmd11 cdd11 ctd11 ocd12 kVd12 dcd12 pmd12 cdd12 ctd12 ocd13 kVd13 dcd13 pmd13 cdd13 ctd13 ocd14 kVd14 dcd14 pmd14 cdd14 ctd14 ocd15 kVd15 dcd15 pmd15 cdd15 ctd15 ocd16 kVd16 dcd16 pmd16 cdd16 ctd16 ocd17 kVd17 dcd17 pmd17 cdd17 ctd17 ocd18 kVd18 dcd18 pmd18 cdd18 ctd18 ocd19 kVd19 dcd19 pmd19 cdd19 ctd19 ocd20 kVd20 dcd20 pmd20 cdd20 ctd20 ocd21 kVd21 dcd21 pmd21 cdd21 ctd21 ocd22 kVd22 dcd22 pmd22 cdd22 ctd22 ocd23 kVd23 dcd23 pmd23 cdd23 ctd23 ocd24 kVd24 dcd24 pmd24 cdd24 ctd24 : Value} {t0 : Tok}
    (a0 : PySem.W.nsIn K mainGlobals "reached" = some (some (.ref f0)))
    (l0 : K.lookup f0 = some ⟨ocd0, odd0, .func (PySem.W.fnOf "reached" "reached" (defArgs sReached) (defBody sReached) (defScope sReached) .none kVd0 dcd0 pmd0 and0 cdd0 ctd0), sld0⟩)
    (c0 : PySem.W.codeIn K cdd0 "reached" = true)
    (k0 : PySem.W.keepIn K (.ref f0) = true)
    (a1 : PySem.W.nsIn K mainGlobals "sources" = some (some (.ref f1)))
    (l1 : K.lookup f1 = some ⟨ocd1, odd1, .func (PySem.W.fnOf "sources" "sources" (defArgs sSources) (defBody sSources) (defScope sSources) .none kVd1 dcd1 pmd1 and1 cdd1 ctd1), sld1⟩)
    (c1 : PySem.W.codeIn K cdd1 "sources" = true)
    (k1 : PySem.W.keepIn K (.ref f1) = true)
    (a2 : PySem.W.nsIn K mainGlobals "leading" = some (some (.ref f2)))
    (l2 : K.lookup f2 = some ⟨ocd2, odd2, .func (PySem.W.fnOf "leading" "leading" (defArgs sLeading) (defBody sLeading) (defScope sLeading) .none kVd2 dcd2 pmd2 and2 cdd2 ctd2), sld2⟩)
    (c2 : PySem.W.codeIn K cdd2 "leading" = true)
    (k2 : PySem.W.keepIn K (.ref f2) = true)
    (a3 : PySem.W.nsIn K mainGlobals "smallest_graph" = some (some (.ref f3)))
    (l3 : K.lookup f3 = some ⟨ocd3, odd3, .func (PySem.W.fnOf "smallest_graph" "smallest_graph" (defArgs sSmallG) (defBody sSmallG) (defScope sSmallG) .none kVd3 dcd3 pmd3 and3 cdd3 ctd3), sld3⟩)
    (c3 : PySem.W.codeIn K cdd3 "smallest_graph" = true)
    (k3 : PySem.W.keepIn K (.ref f3) = true)
    (a4 : PySem.W.nsIn K mainGlobals "smallest_marked" = some (some (.ref f4)))
    (l4 : K.lookup f4 = some ⟨ocd4, odd4, .func (PySem.W.fnOf "smallest_marked" "smallest_marked" (defArgs sSmallM) (defBody sSmallM) (defScope sSmallM) .none kVd4 dcd4 pmd4 and4 cdd4 ctd4), sld4⟩)
    (c4 : PySem.W.codeIn K cdd4 "smallest_marked" = true)
    (k4 : PySem.W.keepIn K (.ref f4) = true)
    (a5 : PySem.W.nsIn K mainGlobals "first_blocks" = some (some (.ref f5)))
    (l5 : K.lookup f5 = some ⟨ocd5, odd5, .func (PySem.W.fnOf "first_blocks" "first_blocks" (defArgs sBlocks) (defBody sBlocks) (defScope sBlocks) .none kVd5 dcd5 pmd5 and5 cdd5 ctd5), sld5⟩)
    (c5 : PySem.W.codeIn K cdd5 "first_blocks" = true)
    (k5 : PySem.W.keepIn K (.ref f5) = true)
    (a6 : PySem.W.nsIn K mainGlobals "refine" = some (some (.ref f6)))
    (l6 : K.lookup f6 = some ⟨ocd6, odd6, .func (PySem.W.fnOf "refine" "refine" (defArgs sRefine) (defBody sRefine) (defScope sRefine) .none kVd6 dcd6 pmd6 and6 cdd6 ctd6), sld6⟩)
    (c6 : PySem.W.codeIn K cdd6 "refine" = true)
    (k6 : PySem.W.keepIn K (.ref f6) = true)
    (a7 : PySem.W.nsIn K mainGlobals "move" = some (some (.ref f7)))
    (l7 : K.lookup f7 = some ⟨ocd7, odd7, .func (PySem.W.fnOf "move" "move" (defArgs sMove) (defBody sMove) (defScope sMove) .none kVd7 dcd7 pmd7 and7 cdd7 ctd7), sld7⟩)
    (c7 : PySem.W.codeIn K cdd7 "move" = true)
    (k7 : PySem.W.keepIn K (.ref f7) = true)
    (a8 : PySem.W.nsIn K mainGlobals "look_again" = some (some (.ref f8)))
    (l8 : K.lookup f8 = some ⟨ocd8, odd8, .func (PySem.W.fnOf "look_again" "look_again" (defArgs sLook) (defBody sLook) (defScope sLook) .none kVd8 dcd8 pmd8 and8 cdd8 ctd8), sld8⟩)
    (c8 : PySem.W.codeIn K cdd8 "look_again" = true)
    (k8 : PySem.W.keepIn K (.ref f8) = true)
    (a9 : PySem.W.nsIn K mainGlobals "numbered" = some (some (.ref f9)))
    (l9 : K.lookup f9 = some ⟨ocd9, odd9, .func (PySem.W.fnOf "numbered" "numbered" (defArgs sNumbered) (defBody sNumbered) (defScope sNumbered) .none kVd9 dcd9 pmd9 and9 cdd9 ctd9), sld9⟩)
    (c9 : PySem.W.codeIn K cdd9 "numbered" = true)
    (k9 : PySem.W.keepIn K (.ref f9) = true)
    (a10 : PySem.W.nsIn K mainGlobals "smallest" = some (some (.ref f10)))
    (l10 : K.lookup f10 = some ⟨ocd10, odd10, .func (PySem.W.fnOf "smallest" "smallest" (defArgs sSmallest) (defBody sSmallest) (defScope sSmallest) .none kVd10 dcd10 pmd10 and10 cdd10 ctd10), sld10⟩)
    (c10 : PySem.W.codeIn K cdd10 "smallest" = true)
    (k10 : PySem.W.keepIn K (.ref f10) = true)
    (a11 : PySem.W.nsIn K mainGlobals "_law_deck" = some (some (.ref f11)))
    (l11 : K.lookup f11 = some ⟨ocd11, odd11, .func (PySem.W.fnOf "_law_deck" "_law_deck" (defArgs sDeck) (defBody sDeck) (defScope sDeck) .none kVd11 dcd11 pmd11 and11 cdd11 ctd11), sld11⟩)
    (c11 : PySem.W.codeIn K cdd11 "_law_deck" = true)
    (k11 : PySem.W.keepIn K (.ref f11) = true)
    (a12 : PySem.W.nsIn K mainGlobals "_law_draw" = some (some (.ref f12)))
    (l12 : K.lookup f12 = some ⟨ocd12, odd12, .func (PySem.W.fnOf "_law_draw" "_law_draw" (defArgs sDraw) (defBody sDraw) (defScope sDraw) .none kVd12 dcd12 pmd12 and12 cdd12 ctd12), sld12⟩)
    (c12 : PySem.W.codeIn K cdd12 "_law_draw" = true)
    (k12 : PySem.W.keepIn K (.ref f12) = true)
    (a13 : PySem.W.nsIn K mainGlobals "_law_one" = some (some (.ref f13)))
    (l13 : K.lookup f13 = some ⟨ocd13, odd13, .func (PySem.W.fnOf "_law_one" "_law_one" (defArgs sOne) (defBody sOne) (defScope sOne) .none kVd13 dcd13 pmd13 and13 cdd13 ctd13), sld13⟩)
    (c13 : PySem.W.codeIn K cdd13 "_law_one" = true)
    (k13 : PySem.W.keepIn K (.ref f13) = true)
    (a14 : PySem.W.nsIn K mainGlobals "_law_machine" = some (some (.ref f14)))
    (l14 : K.lookup f14 = some ⟨ocd14, odd14, .func (PySem.W.fnOf "_law_machine" "_law_machine" (defArgs sMach) (defBody sMach) (defScope sMach) .none kVd14 dcd14 pmd14 and14 cdd14 ctd14), sld14⟩)
    (c14 : PySem.W.codeIn K cdd14 "_law_machine" = true)
    (k14 : PySem.W.keepIn K (.ref f14) = true)
    (a15 : PySem.W.nsIn K mainGlobals "_law_met" = some (some (.ref f15)))
    (l15 : K.lookup f15 = some ⟨ocd15, odd15, .func (PySem.W.fnOf "_law_met" "_law_met" (defArgs sMet) (defBody sMet) (defScope sMet) .none kVd15 dcd15 pmd15 and15 cdd15 ctd15), sld15⟩)
    (c15 : PySem.W.codeIn K cdd15 "_law_met" = true)
    (k15 : PySem.W.keepIn K (.ref f15) = true)
    (a16 : PySem.W.nsIn K mainGlobals "_law_open" = some (some (.ref f16)))
    (l16 : K.lookup f16 = some ⟨ocd16, odd16, .func (PySem.W.fnOf "_law_open" "_law_open" (defArgs sOpen) (defBody sOpen) (defScope sOpen) .none kVd16 dcd16 pmd16 and16 cdd16 ctd16), sld16⟩)
    (c16 : PySem.W.codeIn K cdd16 "_law_open" = true)
    (k16 : PySem.W.keepIn K (.ref f16) = true)
    (a17 : PySem.W.nsIn K mainGlobals "_law_least" = some (some (.ref f17)))
    (l17 : K.lookup f17 = some ⟨ocd17, odd17, .func (PySem.W.fnOf "_law_least" "_law_least" (defArgs sLeast) (defBody sLeast) (defScope sLeast) .none kVd17 dcd17 pmd17 and17 cdd17 ctd17), sld17⟩)
    (c17 : PySem.W.codeIn K cdd17 "_law_least" = true)
    (k17 : PySem.W.keepIn K (.ref f17) = true)
    (a18 : PySem.W.nsIn K mainGlobals "_law_are_apart" = some (some (.ref f18)))
    (l18 : K.lookup f18 = some ⟨ocd18, odd18, .func (PySem.W.fnOf "_law_are_apart" "_law_are_apart" (defArgs sApart) (defBody sApart) (defScope sApart) .none kVd18 dcd18 pmd18 and18 cdd18 ctd18), sld18⟩)
    (c18 : PySem.W.codeIn K cdd18 "_law_are_apart" = true)
    (k18 : PySem.W.keepIn K (.ref f18) = true)
    (a19 : PySem.W.nsIn K mainGlobals "_law_doubled" = some (some (.ref f19)))
    (l19 : K.lookup f19 = some ⟨ocd19, odd19, .func (PySem.W.fnOf "_law_doubled" "_law_doubled" (defArgs sDoubled) (defBody sDoubled) (defScope sDoubled) .none kVd19 dcd19 pmd19 and19 cdd19 ctd19), sld19⟩)
    (c19 : PySem.W.codeIn K cdd19 "_law_doubled" = true)
    (k19 : PySem.W.keepIn K (.ref f19) = true)
    (a20 : PySem.W.nsIn K mainGlobals "_law_more" = some (some (.ref f20)))
    (l20 : K.lookup f20 = some ⟨ocd20, odd20, .func (PySem.W.fnOf "_law_more" "_law_more" (defArgs sMore) (defBody sMore) (defScope sMore) .none kVd20 dcd20 pmd20 and20 cdd20 ctd20), sld20⟩)
    (c20 : PySem.W.codeIn K cdd20 "_law_more" = true)
    (k20 : PySem.W.keepIn K (.ref f20) = true)
    (a21 : PySem.W.nsIn K mainGlobals "_law_mixed" = some (some (.ref f21)))
    (l21 : K.lookup f21 = some ⟨ocd21, odd21, .func (PySem.W.fnOf "_law_mixed" "_law_mixed" (defArgs sMixed) (defBody sMixed) (defScope sMixed) .none kVd21 dcd21 pmd21 and21 cdd21 ctd21), sld21⟩)
    (c21 : PySem.W.codeIn K cdd21 "_law_mixed" = true)
    (k21 : PySem.W.keepIn K (.ref f21) = true)
    (a22 : PySem.W.nsIn K mainGlobals "_law_long" = some (some (.ref f22)))
    (l22 : K.lookup f22 = some ⟨ocd22, odd22, .func (PySem.W.fnOf "_law_long" "_law_long" (defArgs sLong) (defBody sLong) (defScope sLong) .none kVd22 dcd22 pmd22 and22 cdd22 ctd22), sld22⟩)
    (c22 : PySem.W.codeIn K cdd22 "_law_long" = true)
    (k22 : PySem.W.keepIn K (.ref f22) = true)
    (a23 : PySem.W.nsIn K mainGlobals "_law_long_right" = some (some (.ref f23)))
    (l23 : K.lookup f23 = some ⟨ocd23, odd23, .func (PySem.W.fnOf "_law_long_right" "_law_long_right" (defArgs sLongR) (defBody sLongR) (defScope sLongR) .none kVd23 dcd23 pmd23 and23 cdd23 ctd23), sld23⟩)
    (c23 : PySem.W.codeIn K cdd23 "_law_long_right" = true)
    (k23 : PySem.W.keepIn K (.ref f23) = true)
    (a24 : PySem.W.nsIn K mainGlobals "law" = some (some (.ref f24)))
    (l24 : K.lookup f24 = some ⟨ocd24, odd24, .func (PySem.W.fnOf "law" "law" (defArgs sLaw) (defBody sLaw) (defScope sLaw) .none kVd24 dcd24 pmd24 and24 cdd24 ctd24), sld24⟩)
    (c24 : PySem.W.codeIn K cdd24 "law" = true)
    (k24 : PySem.W.keepIn K (.ref f24) = true)
    (z0 : PySem.W.nsIn K mainGlobals "len" = some none)
    (z1 : PySem.W.nsIn K mainGlobals "int" = some none)
    (z2 : PySem.W.nsIn K mainGlobals "range" = some none)
    (z3 : PySem.W.nsIn K mainGlobals "tuple" = some none)
    (z4 : PySem.W.nsIn K mainGlobals "list" = some none)
    (z5 : PySem.W.nsIn K mainGlobals "all" = some none)
    (z6 : PySem.W.nsIn K mainGlobals "abs" = some none)
    (z7 : PySem.W.nsIn K mainGlobals "bool" = some none)
    (z8 : PySem.W.nsIn K mainGlobals "repr" = some none)
    (z9 : PySem.W.nsIn K mainGlobals "any" = some none)
    (z10 : PySem.W.nsIn K mainGlobals "enumerate" = some none)
    (z11 : PySem.W.nsIn K mainGlobals "max" = some none)
    (z12 : PySem.W.nsIn K mainGlobals "zip" = some none)
    (z13 : PySem.W.nsIn K mainGlobals "dict" = some none)
    (m0 : PySem.W.nsIn K mainGlobals "MAX_ROWS" = some (some (.int 400 t0))) :
    ∃ fd : FuncData, (∀ (s : Shared) (v : Value), BindsTo s fd ⟨[v], []⟩ [("_law_script", v)]) ∧ ∀ base : Heap, K.In base → base.Ns mainGlobals mg → GRun l.prog w K mg base 7 fa fd ["_law_script"] (spLaw K) := by
  have e := hfa.symm.trans (PySem.W.mg_of inK atG a24)
  cases e
  have T : Mg mg := ⟨PySem.W.mg_none_of inK atG z0, PySem.W.mg_none_of inK atG z1, PySem.W.mg_none_of inK atG z2, PySem.W.mg_none_of inK atG z3, PySem.W.mg_none_of inK atG z4, PySem.W.mg_none_of inK atG z5, PySem.W.mg_none_of inK atG z6, PySem.W.mg_none_of inK atG z7, PySem.W.mg_none_of inK atG z8, PySem.W.mg_none_of inK atG z9, PySem.W.mg_none_of inK atG z10, PySem.W.mg_none_of inK atG z11, PySem.W.mg_none_of inK atG z12, PySem.W.mg_none_of inK atG z13, ⟨_, PySem.W.mg_of inK atG m0⟩⟩
  have F0 := fun_mk (st := sReached) l0 c0 k0
  have b0 := F0.binds (ps := ["rows"]) fun _ _ _ _ _ _ us hl => match us, hl with | [_], _ => rfl
  have g0 := PySem.W.mg_of inK atG a0
  have F1 := fun_mk (st := sSources) l1 c1 k1
  have b1 := F1.binds (ps := ["letters", "rows", "order"]) fun _ _ _ _ _ _ us hl => match us, hl with | [_, _, _], _ => rfl
  have g1 := PySem.W.mg_of inK atG a1
  have F2 := fun_mk (st := sLeading) l2 c2 k2
  have b2 := F2.binds (ps := ["before", "goals", "many"]) fun _ _ _ _ _ _ us hl => match us, hl with | [_, _, _], _ => rfl
  have g2 := PySem.W.mg_of inK atG a2
  have F3 := fun_mk (st := sSmallG) l3 c3 k3
  have b3 := F3.binds (ps := ["letters", "rows", "ends"]) fun _ _ _ _ _ _ us hl => match us, hl with | [_, _, _], _ => rfl
  have g3 := PySem.W.mg_of inK atG a3
  have F4 := fun_mk (st := sSmallM) l4 c4 k4
  have b4 := F4.binds (ps := ["rows", "marks", "most"]) fun _ _ _ _ _ _ us hl => match us, hl with | [_, _, _], _ => rfl
  have g4 := PySem.W.mg_of inK atG a4
  have F5 := fun_mk (st := sBlocks) l5 c5 k5
  have b5 := F5.binds (ps := ["rows", "marks", "states", "leads"]) fun _ _ _ _ _ _ us hl => match us, hl with | [_, _, _, _], _ => rfl
  have g5 := PySem.W.mg_of inK atG a5
  have F6 := fun_mk (st := sRefine) l6 c6 k6
  have b6 := F6.binds (ps := ["before", "block", "members", "most"]) fun _ _ _ _ _ _ us hl => match us, hl with | [_, _, _, _], _ => rfl
  have g6 := PySem.W.mg_of inK atG a6
  have F7 := fun_mk (st := sMove) l7 c7 k7
  have b7 := F7.binds (ps := ["old", "moved", "block", "members", "sizes"]) fun _ _ _ _ _ _ us hl => match us, hl with | [_, _, _, _, _], _ => rfl
  have g7 := PySem.W.mg_of inK atG a7
  have F8 := fun_mk (st := sLook) l8 c8 k8
  have b8 := F8.binds (ps := ["old", "sizes", "waiting"]) fun _ _ _ _ _ _ us hl => match us, hl with | [_, _, _], _ => rfl
  have g8 := PySem.W.mg_of inK atG a8
  have F9 := fun_mk (st := sNumbered) l9 c9 k9
  have b9 := F9.binds (ps := ["rows", "marks", "block"]) fun _ _ _ _ _ _ us hl => match us, hl with | [_, _, _], _ => rfl
  have g9 := PySem.W.mg_of inK atG a9
  have F10 := fun_mk (st := sSmallest) l10 c10 k10
  have b10 := F10.binds (ps := ["machine"]) fun _ _ _ _ _ _ us hl => match us, hl with | [_], _ => rfl
  have g10 := PySem.W.mg_of inK atG a10
  have F11 := fun_mk (st := sDeck) l11 c11 k11
  have b11 := F11.binds (ps := ["_law_script"]) fun _ _ _ _ _ _ us hl => match us, hl with | [_], _ => rfl
  have g11 := PySem.W.mg_of inK atG a11
  have F12 := fun_mk (st := sDraw) l12 c12 k12
  have b12 := F12.binds (ps := ["_law_deck_here", "_law_many"]) fun _ _ _ _ _ _ us hl => match us, hl with | [_, _], _ => rfl
  have g12 := PySem.W.mg_of inK atG a12
  have F13 := fun_mk (st := sOne) l13 c13 k13
  have b13 := F13.binds (ps := ["_law_deck_here", "_law_items"]) fun _ _ _ _ _ _ us hl => match us, hl with | [_, _], _ => rfl
  have g13 := PySem.W.mg_of inK atG a13
  have F14 := fun_mk (st := sMach) l14 c14 k14
  have b14 := F14.binds (ps := ["_law_deck_here", "_law_letters", "_law_most"]) fun _ _ _ _ _ _ us hl => match us, hl with | [_, _, _], _ => rfl
  have g14 := PySem.W.mg_of inK atG a14
  have F15 := fun_mk (st := sMet) l15 c15 k15
  have b15 := F15.binds (ps := ["_law_rows"]) fun _ _ _ _ _ _ us hl => match us, hl with | [_], _ => rfl
  have g15 := PySem.W.mg_of inK atG a15
  have F16 := fun_mk (st := sOpen) l16 c16 k16
  have b16 := F16.binds (ps := ["_law_rows", "_law_ends"]) fun _ _ _ _ _ _ us hl => match us, hl with | [_, _], _ => rfl
  have g16 := PySem.W.mg_of inK atG a16
  have F17 := fun_mk (st := sLeast) l17 c17 k17
  have b17 := F17.binds (ps := ["_law_letters", "_law_rows", "_law_ends"]) fun _ _ _ _ _ _ us hl => match us, hl with | [_, _, _], _ => rfl
  have g17 := PySem.W.mg_of inK atG a17
  have F18 := fun_mk (st := sApart) l18 c18 k18
  have b18 := F18.binds (ps := ["_law_rows", "_law_ends", "_law_alive", "_law_held", "_law_pair"]) fun _ _ _ _ _ _ us hl => match us, hl with | [_, _, _, _, _], _ => rfl
  have g18 := PySem.W.mg_of inK atG a18
  have F19 := fun_mk (st := sDoubled) l19 c19 k19
  have b19 := F19.binds (ps := ["_law_deck_here", "_law_machine_here"]) fun _ _ _ _ _ _ us hl => match us, hl with | [_, _], _ => rfl
  have g19 := PySem.W.mg_of inK atG a19
  have F20 := fun_mk (st := sMore) l20 c20 k20
  have b20 := F20.binds (ps := ["_law_deck_here", "_law_machine_here"]) fun _ _ _ _ _ _ us hl => match us, hl with | [_, _], _ => rfl
  have g20 := PySem.W.mg_of inK atG a20
  have F21 := fun_mk (st := sMixed) l21 c21 k21
  have b21 := F21.binds (ps := ["_law_deck_here", "_law_machine_here"]) fun _ _ _ _ _ _ us hl => match us, hl with | [_, _], _ => rfl
  have g21 := PySem.W.mg_of inK atG a21
  have F22 := fun_mk (st := sLong) l22 c22 k22
  have b22 := F22.binds (ps := ["_law_many", "_law_is_ring"]) fun _ _ _ _ _ _ us hl => match us, hl with | [_, _], _ => rfl
  have g22 := PySem.W.mg_of inK atG a22
  have F23 := fun_mk (st := sLongR) l23 c23 k23
  have b23 := F23.binds (ps := ["_law_deck_here"]) fun _ _ _ _ _ _ us hl => match us, hl with | [_], _ => rfl
  have g23 := PySem.W.mg_of inK atG a23
  have F24 := fun_mk (st := sLaw) l24 c24 k24
  refine ⟨PySem.W.fnOf "law" "law" (defArgs sLaw) (defBody sLaw) (defScope sLaw) .none kVd24 dcd24 pmd24 and24 cdd24 ctd24, fun s v => .of_eq rfl, fun base _ _ => ?_⟩
  have RE := ok_reached (P := l.prog) (w := w) (mg := mg) (base := base) F0  T
  have SO := ok_sources (P := l.prog) (w := w) (mg := mg) (base := base) F1  T
  have LD := ok_leading (P := l.prog) (w := w) (mg := mg) (base := base) F2  T
  have BL := ok_blocks (P := l.prog) (w := w) (mg := mg) (base := base) F5  T
  have MV := ok_move (P := l.prog) (w := w) (mg := mg) (base := base) F7  T
  have LK := ok_look (P := l.prog) (w := w) (mg := mg) (base := base) F8  T
  have RF := ok_refine F6 MV F7 b7 g7 LK F8 b8 g8 T
  have NU := ok_numbered (P := l.prog) (w := w) (mg := mg) (base := base) F9  T
  have SMM := ok_smallM F4 RE F0 b0 g0 SO F1 b1 g1 LD F2 b2 g2 BL F5 b5 g5 RF F6 b6 g6 NU F9 b9 g9 T
  have GR := ok_smallG F3 SMM F4 b4 g4 T
  have SM := ok_smallest F10 GR F3 b3 g3 T
  have DK := ok_deck (P := l.prog) (w := w) (mg := mg) (base := base) F11 T.abs
  have D := ok_draw (P := l.prog) (w := w) (mg := mg) (base := base) F12 T.len T.int
  have O := ok_one F13 D F12 b12 g12 T.len
  have MC := ok_mach F14 D F12 b12 g12 O F13 b13 g13 T
  have MT := ok_metN (P := l.prog) (w := w) (mg := mg) (base := base) F15  T
  have OP := ok_open (P := l.prog) (w := w) (mg := mg) (base := base) F16  T
  have AP := ok_apart (P := l.prog) (w := w) (mg := mg) (base := base) F18  T
  have LE := ok_least F17 OP F16 b16 g16 MT F15 b15 g15 AP F18 b18 g18 T
  have DB := ok_doubled F19 D F12 b12 g12 T
  have MO := ok_more F20 D F12 b12 g12 O F13 b13 g13 T
  have MX := ok_mixed F21 D F12 b12 g12 T
  have LG := ok_long (P := l.prog) (w := w) (mg := mg) (base := base) F22  T
  have LR := ok_longR F23 D F12 b12 g12 O F13 b13 g13 LG F22 b22 g22 DB F19 b19 g19 SM F10 b10 g10 T
  exact ok_law F24 DK F11 b11 g11 D F12 b12 g12 LR F23 b23 g23 MC F14 b14 g14 LE F17 b17 g17 DB F19 b19 g19 MO F20 b20 g20 MX F21 b21 g21 SM F10 b10 g10 T
end Ver
open PySem PySem.W PyProof.Rows in
set_option maxRecDepth 100000 in
set_option maxHeartbeats 0 in
theorem PySem.Challenge.cw_sortedshelves_k13_smallest_machines_holds : PySem.Challenge.rw_sortedshelves_k13_smallest_machines.Holds := by
  w_on; o_law; k_head; (case hw => w_witness2)
  k_fill
  refine Ver.gwalk (l := PySem.Challenge.rw_sortedshelves_k13_smallest_machines) (n := 63) (k := 7) (x := "_law_script") (sp := fun w => Ver.spLaw _) rfl (by decide) rfl ⟨rfl, by decide, by decide⟩ (fun w h Y => PySem.W.kIn_of Y) ?F (fun _ _ a ns hl hS => ⟨a, ns, rfl, hS, hl, fun _ => rfl⟩)
  case F =>
    intro w mg fa h inK atG hmg
    refine' Ver.all_mk inK atG hmg ?a0 ?l0 ?c0 ?k0 ?a1 ?l1 ?c1 ?k1 ?a2 ?l2 ?c2 ?k2 ?a3 ?l3 ?c3 ?k3 ?a4 ?l4 ?c4 ?k4 ?a5 ?l5 ?c5 ?k5 ?a6 ?l6 ?c6 ?k6 ?a7 ?l7 ?c7 ?k7 ?a8 ?l8 ?c8 ?k8 ?a9 ?l9 ?c9 ?k9 ?a10 ?l10 ?c10 ?k10 ?a11 ?l11 ?c11 ?k11 ?a12 ?l12 ?c12 ?k12 ?a13 ?l13 ?c13 ?k13 ?a14 ?l14 ?c14 ?k14 ?a15 ?l15 ?c15 ?k15 ?a16 ?l16 ?c16 ?k16 ?a17 ?l17 ?c17 ?k17 ?a18 ?l18 ?c18 ?k18 ?a19 ?l19 ?c19 ?k19 ?a20 ?l20 ?c20 ?k20 ?a21 ?l21 ?c21 ?k21 ?a22 ?l22 ?c22 ?k22 ?a23 ?l23 ?c23 ?k23 ?a24 ?l24 ?c24 ?k24 ?z0 ?z1 ?z2 ?z3 ?z4 ?z5 ?z6 ?z7 ?z8 ?z9 ?z10 ?z11 ?z12 ?z13 ?m0
    (case a0 => k_is)
    (case l0 => k_is)
    (case c0 => k_is)
    (case k0 => k_is)
    (case a1 => k_is)
    (case l1 => k_is)
    (case c1 => k_is)
    (case k1 => k_is)
    (case a2 => k_is)
    (case l2 => k_is)
    (case c2 => k_is)
    (case k2 => k_is)
    (case a3 => k_is)
    (case l3 => k_is)
    (case c3 => k_is)
    (case k3 => k_is)
    (case a4 => k_is)
    (case l4 => k_is)
    (case c4 => k_is)
    (case k4 => k_is)
    (case a5 => k_is)
    (case l5 => k_is)
    (case c5 => k_is)
    (case k5 => k_is)
    (case a6 => k_is)
    (case l6 => k_is)
    (case c6 => k_is)
    (case k6 => k_is)
    (case a7 => k_is)
    (case l7 => k_is)
    (case c7 => k_is)
    (case k7 => k_is)
    (case a8 => k_is)
    (case l8 => k_is)
    (case c8 => k_is)
    (case k8 => k_is)
    (case a9 => k_is)
    (case l9 => k_is)
    (case c9 => k_is)
    (case k9 => k_is)
    (case a10 => k_is)
    (case l10 => k_is)
    (case c10 => k_is)
    (case k10 => k_is)
    (case a11 => k_is)
    (case l11 => k_is)
    (case c11 => k_is)
    (case k11 => k_is)
    (case a12 => k_is)
    (case l12 => k_is)
    (case c12 => k_is)
    (case k12 => k_is)
    (case a13 => k_is)
    (case l13 => k_is)
    (case c13 => k_is)
    (case k13 => k_is)
    (case a14 => k_is)
    (case l14 => k_is)
    (case c14 => k_is)
    (case k14 => k_is)
    (case a15 => k_is)
    (case l15 => k_is)
    (case c15 => k_is)
    (case k15 => k_is)
    (case a16 => k_is)
    (case l16 => k_is)
    (case c16 => k_is)
    (case k16 => k_is)
    (case a17 => k_is)
    (case l17 => k_is)
    (case c17 => k_is)
    (case k17 => k_is)
    (case a18 => k_is)
    (case l18 => k_is)
    (case c18 => k_is)
    (case k18 => k_is)
    (case a19 => k_is)
    (case l19 => k_is)
    (case c19 => k_is)
    (case k19 => k_is)
    (case a20 => k_is)
    (case l20 => k_is)
    (case c20 => k_is)
    (case k20 => k_is)
    (case a21 => k_is)
    (case l21 => k_is)
    (case c21 => k_is)
    (case k21 => k_is)
    (case a22 => k_is)
    (case l22 => k_is)
    (case c22 => k_is)
    (case k22 => k_is)
    (case a23 => k_is)
    (case l23 => k_is)
    (case c23 => k_is)
    (case k23 => k_is)
    (case a24 => k_is)
    (case l24 => k_is)
    (case c24 => k_is)
    (case k24 => k_is)
    (case z0 => k_is)
    (case z1 => k_is)
    (case z2 => k_is)
    (case z3 => k_is)
    (case z4 => k_is)
    (case z5 => k_is)
    (case z6 => k_is)
    (case z7 => k_is)
    (case z8 => k_is)
    (case z9 => k_is)
    (case z10 => k_is)
    (case z11 => k_is)
    (case z12 => k_is)
    (case z13 => k_is)
    (case m0 => k_is)
#print axioms PySem.Challenge.cw_sortedshelves_k13_smallest_machines_holds
