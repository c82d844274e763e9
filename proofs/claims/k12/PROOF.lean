import PyProof.Rows.All
import Wide.All
import OpenK.AllK
import Wide.FinOn
import PyProof.ReprRoads
import PyProof.ReprLen
import HandS.ForMost
import HandS.Conv
import HandS.IsInst
import HandS.TupAny
import HandS.TupMul
import HandS.Wide
import HandS.Style
import HandS.Evl
import HandS.Strs
import HandS.Codes
import HandS.StrMore
import HandS.Replace
import PyProof.TupleOfStr
import HandS.NoneIn
import KE.GoesMore
import HandS.Walk
import HandS.Small
import HandS.Deep
import HandS.HeadHook3
import PyProof.ListStr
import PySem.Challenge.RW_sortedshelves_k12_sizes_and_how_counts_g
import PyProof.ListTruth
import PyProof.ListRange
import HandS.ReSub
import HandS.WordsDict
import HandS.Zip
import HandS.TupLen
import HandS.NestedK
import HandS.WideBits
import HandS.Gcd
import KE.DataFind
set_option Elab.async false
set_option linter.all false
set_option maxRecDepth 100000
set_option maxHeartbeats 4000000
namespace Ver
open PySem PySem.Spec PyProof.Rows L2
set_option pp.maxSteps 200
set_option pp.deepTerms false
mutual
inductive Dt (B : Addr → Prop) (K : PySem.W.Frag) (H : Hp) : V → PyData → Prop
  | non : Dt B K H .non .none
  | bl (b : Bool) : Dt B K H (.bl b) (.bool b)
  | int (i : Int) : Dt B K H (.int i) (.int i)
  | str (x : Str) : Dt B K H (.str x) (.str x)
  | lst {a : Addr} {xs : List V} {ds : List PyData} (nb : ¬ B a) (ne : a ≠ sysModules) (hs : Rd H a (.lst xs)) (ha : DtAll B K H xs ds) : Dt B K H (.ref a) (.list ds)
  | tup {a : Addr} {xs : List V} {ds : List PyData} (nb : ¬ B a) (hs : Rd H a (.tup xs)) (ha : DtAll B K H xs ds) : Dt B K H (.ref a) (.tuple ds)
  | emp {a : Addr} (nb : ¬ B a) (h : H a = some (.dK [])) : Dt B K H (.ref a) (.dict [])
inductive DtAll (B : Addr → Prop) (K : PySem.W.Frag) (H : Hp) : List V → List PyData → Prop
  | nil : DtAll B K H [] []
  | cons {v : V} {vs : List V} {d : PyData} {ds : List PyData} (hd : Dt B K H v d) (tl : DtAll B K H vs ds) : DtAll B K H (v :: vs) (d :: ds)
end
/-- all that is tracked outside of B stays -/
def Keep (B : Addr → Prop) (H H' : Hp) : Prop := ∀ b o, ¬ B b → H b = some o → H' b = some o
theorem Keep.rfl' {B : Addr → Prop} {H : Hp} : Keep B H H := fun _ _ _ e => e
theorem Keep.trans {B : Addr → Prop} {H H1 H2 : Hp} (x : Keep B H H1) (y : Keep B H1 H2) : Keep B H H2 := fun b o n e => y b o n (x b o n e)
theorem Keep.same {B : Addr → Prop} {H H' : Hp} (x : Same H H') : Keep B H H' := fun b o _ e => x b o e
theorem keep_new {B : Addr → Prop} {H : Hp} {p : Addr} {o : HO} (n : H p = none) : Keep B H (upd H p o) := fun b u _ e => by
  rw [upd_ne (ne_of_none e n)]
  exact e
theorem same_new {H : Hp} {p : Addr} {o : HO} (n : H p = none) : Same H (upd H p o) := fun b u e => by
  rw [upd_ne (ne_of_none e n)]
  exact e
theorem Keep.rd {B : Addr → Prop} {H H' : Hp} {a : Addr} {o : HO} (k : Keep B H H') (nb : ¬ B a) (h : Rd H a o) : Rd H' a o := by
  rcases h with h | ⟨u, h⟩
  · exact .inl (k _ _ nb h)
  · exact .inr ⟨u, k _ _ nb h⟩
theorem Keep.seqL {B : Addr → Prop} {K : PySem.W.Frag} {H H' : Hp} {a : Addr} {xs : List V} (k : Keep B H H') (nb : ¬ B a) (h : SqL K H a xs) : SqL K H' a xs := by
  rcases h with (h | ⟨o, h⟩) | h
  · exact .inl (.inl (k _ _ nb h))
  · exact .inl (.inr ⟨o, k _ _ nb h⟩)
  · exact .inr h
mutual
theorem Dt.keep {B : Addr → Prop} {K : PySem.W.Frag} {H H' : Hp} (k : Keep B H H') : ∀ (d : PyData) (v : V), Dt B K H v d → Dt B K H' v d
  | .none, _, h => by cases h; exact .non
  | .bool _, _, h => by cases h; exact .bl _
  | .int _, _, h => by cases h; exact .int _
  | .str _, _, h => by cases h; exact .str _
  | .list ds, _, h => by
    cases h with
    | lst nb ne hs ha => exact .lst nb ne (k.rd nb hs) (DtAll.keep k ds _ ha)
  | .tuple ds, _, h => by
    cases h with
    | tup nb hs ha => exact .tup nb (k.rd nb hs) (DtAll.keep k ds _ ha)
  | .dict _, _, h => by
    cases h with
    | emp nb e => exact .emp nb (k _ _ nb e)
theorem DtAll.keep {B : Addr → Prop} {K : PySem.W.Frag} {H H' : Hp} (k : Keep B H H') : ∀ (ds : List PyData) (vs : List V), DtAll B K H vs ds → DtAll B K H' vs ds
  | [], _, h => by cases h; exact .nil
  | d :: ds, _, h => by
    cases h with
    | cons h1 h2 => exact .cons (Dt.keep k d _ h1) (DtAll.keep k ds _ h2)
end
theorem DtAll.len {B : Addr → Prop} {K : PySem.W.Frag} {H : Hp} : ∀ {vs : List V} {ds : List PyData}, DtAll B K H vs ds → vs.length = ds.length
  | _, _, .nil => rfl
  | _, _, .cons _ t => congrArg (· + 1) (DtAll.len t)
theorem DtAll.append {B : Addr → Prop} {K : PySem.W.Frag} {H : Hp} : ∀ {vs ws : List V} {ds es : List PyData}, DtAll B K H vs ds → DtAll B K H ws es → DtAll B K H (vs ++ ws) (ds ++ es)
  | _, _, _, _, .nil, q => q
  | _, _, _, _, .cons r t, q => .cons r (DtAll.append t q)
theorem DtAll.take {B : Addr → Prop} {K : PySem.W.Frag} {H : Hp} : ∀ {vs : List V} {ds : List PyData} (n : Nat), DtAll B K H vs ds → DtAll B K H (vs.take n) (ds.take n)
  | _, _, 0, _ => .nil
  | _, _, _ + 1, .nil => .nil
  | _, _, n + 1, .cons r t => .cons r (DtAll.take n t)
theorem DtAll.drop {B : Addr → Prop} {K : PySem.W.Frag} {H : Hp} : ∀ {vs : List V} {ds : List PyData} (n : Nat), DtAll B K H vs ds → DtAll B K H (vs.drop n) (ds.drop n)
  | _, _, 0, h => h
  | _, _, _ + 1, .nil => .nil
  | _, _, n + 1, .cons _ t => DtAll.drop n t
theorem DtAll.get {B : Addr → Prop} {K : PySem.W.Frag} {H : Hp} : ∀ {vs : List V} {ds : List PyData} {i : Nat} {d : PyData}, DtAll B K H vs ds → ds[i]? = some d → ∃ v, vs[i]? = some v ∧ Dt B K H v d
  | _, _, _, _, .nil, e => by simp at e
  | _, _, 0, _, .cons r _, e => by
    simp at e
    subst e
    exact ⟨_, rfl, r⟩
  | _, _, i + 1, _, .cons _ t, e => by
    obtain ⟨v, h1, h2⟩ := DtAll.get (i := i) t (by simpa using e)
    exact ⟨v, by simpa using h1, h2⟩
section
variable {X : Cx} {pins : List (Addr × Obj)} {σ : L2.St} {H : Hp} {s : Shared}
theorem no_entries {knd : KeyKind X.prog X.w Key} {es : List DictEntry} (h : PySem.Pairs knd es ([] : List (Key × Value))) : es = [] := by
  cases h
  rfl
mutual
theorem Dt.reads {B : Addr → Prop} (I : Inv X pins σ H s) : ∀ (d : PyData) (v : V) (u : Value), Dt B X.K H v d → RelV v u → ∃ as, Reads s.heap u d as ∧ sysModules ∉ as
  | .none, _, _, h, r => by
    cases h
    cases r
    exact ⟨[], .none, List.not_mem_nil⟩
  | .bool b, _, _, h, r => by
    cases h
    cases r
    exact ⟨[], .bool b, List.not_mem_nil⟩
  | .int i, _, _, h, r => by
    cases h
    obtain ⟨t, rfl⟩ := r
    exact ⟨[], .int i t, List.not_mem_nil⟩
  | .str x, _, _, h, r => by
    cases h
    obtain ⟨t, rfl⟩ := r
    exact ⟨[], .str x t, List.not_mem_nil⟩
  | .list ds, _, _, h, r => by
    cases h with
    | lst nb ne hs ha =>
      cases r
      obtain ⟨its, rv, ⟨ob, n, ho, hc, _, hd⟩, _⟩ := I.list (.inl hs)
      obtain ⟨as, hr, hn⟩ := DtAll.reads I ds _ its ha rv
      refine ⟨_, .list ho hc hd hr, fun z => ?_⟩
      rcases List.mem_cons.mp z with z | z
      · exact ne z.symm
      · exact hn z
  | .tuple ds, _, _, h, r => by
    cases h with
    | tup nb hs ha =>
      cases r
      obtain ⟨its, rv, ⟨ob, ho, hc, n, hd⟩, _⟩ := I.tuple (.inl hs)
      obtain ⟨as, hr, hn⟩ := DtAll.reads I ds _ its ha rv
      exact ⟨_, .tuple ho hc hd hr, hn⟩
  | .dict _, _, _, h, r => by
    cases h with
    | emp nb e =>
      cases r
      obtain ⟨_, hm, vs, rel, ob, es, ep, ho, hx, hd, _, hp, _⟩ := dk_of I.hok e
      cases rel
      have he := no_entries hp
      refine ⟨_, .dict (kvs := []) ho hx.1 hd (by rw [he]; exact .nil) (by rw [he]; exact .nil), fun z => ?_⟩
      rcases List.mem_cons.mp z with z | z
      · rw [← z] at hm
        simp at hm
      · simp at z
theorem DtAll.reads {B : Addr → Prop} (I : Inv X pins σ H s) : ∀ (ds : List PyData) (vs : List V) (us : List Value), DtAll B X.K H vs ds → Vals vs us → ∃ as, ReadsAll s.heap us ds as ∧ sysModules ∉ as
  | [], _, _, h, r => by
    cases h
    cases r
    exact ⟨[], .nil, List.not_mem_nil⟩
  | d :: ds, _, _, h, r => by
    cases h with
    | cons h1 h2 =>
      cases r with
      | cons r1 r2 =>
        obtain ⟨as, q1, n1⟩ := Dt.reads I d _ _ h1 r1
        obtain ⟨bs, q2, n2⟩ := DtAll.reads I ds _ _ h2 r2
        refine ⟨_, .cons q1 q2, fun z => ?_⟩
        rcases List.mem_append.mp z with z | z
        · exact n1 z
        · exact n2 z
end
end
section
variable {X : Cx}
def rRepr (K : PySem.W.Frag) : List V → Hp → VK → Prop := fun xs H Q => ∃ (x : V) (d : PyData) (B : Addr → Prop), xs = [x] ∧ Dt B K H x d ∧ d.showable = true ∧ d.depth ≤ 60 ∧ d.shown.length ≤ sizeLine ∧ Q (.str d.shown) H
theorem call_reprD (hG : X.A.guards = some []) (hu : X.A.units + 64 < cLine) : CallR X (.builtin "repr") (rRepr X.K) := by
  intro pins s σ H xs us Q I r h
  obtain ⟨x, d, B, rfl, hd, hs, hdp, hz, q⟩ := h
  obtain ⟨u, rfl, rx⟩ := vals1 r
  obtain ⟨as, rd, hn⟩ := Dt.reads I d x u hd rx
  cases hd with
  | non =>
    cases rx
    exact PySem.P.repr_of_none ⟨.str _, H, I.tok _, ⟨_, rfl⟩, q⟩
  | bl b =>
    cases rx
    exact PySem.P.repr_of_bool ⟨.str _, H, I.tok _, ⟨_, rfl⟩, q⟩
  | int i =>
    obtain ⟨t, rfl⟩ := rx
    exact PySem.P.repr_of_int (by simpa [PyData.showable] using hs) ⟨.str _, H, I.tok _, ⟨_, rfl⟩, q⟩
  | str y =>
    obtain ⟨t, rfl⟩ := rx
    exact PySem.P.repr_of_str ⟨.str _, H, I.tok _, ⟨_, rfl⟩, q⟩ (by simpa only [PyData.shown] using hz)
  | lst nb ne hs' ha =>
    cases rx
    exact repr_of_reads' rd hs (fun _ => hn) hG (by omega) (fun _ _ e => e) (fun h' u tk hk => ⟨.str _, H, I.kept hk, ⟨_, rfl⟩, q⟩) hz
  | tup nb hs' ha =>
    cases rx
    exact repr_of_reads' rd hs (fun _ => hn) hG (by omega) (fun _ _ e => e) (fun h' u tk hk => ⟨.str _, H, I.kept hk, ⟨_, rfl⟩, q⟩) hz
  | emp nb e =>
    cases rx
    exact repr_of_reads' rd hs (fun _ => hn) hG (by omega) (fun _ _ e => e) (fun h' u tk hk => ⟨.str _, H, I.kept hk, ⟨_, rfl⟩, q⟩) hz
end
section
variable {P : Program} {w : World} {K : PySem.W.Frag} {mg : Str → Option Value} {base : Heap}
def GRun (P : Program) (w : World) (K : PySem.W.Frag) (mg : Str → Option Value) (base : Heap) (k : Nat) (f : Addr) (fd : FuncData) (ps : List Str) (sp : Sp) : Prop :=
  ∀ (A : Around) (outer : List Env) (s : Shared) (H : Hp) (us : List Value) (vs : List V) (Q : VK),
    A.guards = some [] → Room k A → Env0 P w K mg base A outer s H → BindsTo s fd ⟨us, []⟩ (ps.zip us) → Vals vs us → vs.length = ps.length → sp vs H Q E0 →
    codeAny (model P w) A (.call (.ref f) ⟨us, []⟩) (CR CX0 outer P w H s Q E0) s
theorem grun {x qual : Str} {st : Stmt} {f : Addr} {fd : FuncData} {N ps : List Str} {k : Nat} {sp : Sp} (F : Fun K x qual st f fd) (S : FnScope N ps (defScope st))
    (body : ∀ (cdv : Value) (A : Around) (outer : List Env) (s : Shared) (H : Hp) (vs : List V) (Q : VK), A.guards = some [] → Room k (A.deeper (envOfC qual (defScope st) s.heap.objs.size f cdv)) → sp vs H Q E0 →
      ∃ t, PSs (cxOf CX0 P w K mg base N qual (defScope st) f cdv A outer s H E0).nox (defBody st) t ∧ t { nx := fun _ H' => Q .non H', rt := Q } (start N vs) H) :
    GRun P w K mg base (k + 1) f fd ps sp := by
  obtain ⟨oc, od, kV, doc, pm, an, cdv, ct, osl, rfl, lk, hcd⟩ := F.ex
  intro A outer s H us vs Q hG hr e0 hb r hl hsp
  have inK : K.In s.heap := e0.mod.kin.keeps (fun b o q => (e0.bs b o q).1)
  have noL : s.heap.NoLimit := e0.mod.nolimit.keeps (fun b o q => (e0.bs b o q).1)
  have kinds : ∀ y ∈ ps.zip us, (defScope st).names.lookup y.1 = some .local ∨ ((defScope st).names.lookup y.1 = some .cell ∧ ((cellsFrom (s.heap.objs.size + 1) (defScope st).names []).lookup y.1).isSome = true) := by
    intro y hy
    obtain ⟨n, v⟩ := y
    cases S.par n (List.of_mem_zip hy).1 with
    | inl q => exact Or.inl q
    | inr q => exact Or.inr ⟨q, PySem.W.cellsFrom_some _ _ _ (Or.inl q)⟩
  refine codeAny_call_function hr.depth (inK _ _ lk) rfl S.co S.gen rfl (PySem.W.codeRec_of inK hcd) (hb _ _ _ _ ?_)
  refine wpAny_newFunctionEnv_cells S.kind kinds (fun env he s1 x => ?_)
  cases he
  obtain ⟨t, ht, hq⟩ := body cdv A outer s H vs Q hG (hr.deeper _) hsp
  have J := inv_start (CX := CX0) (mg := mg) (E := E0) S hr.hd e0 hl r x
  refine ⟨noL.keeps x.toInCall.keep, codeAny_func (wpAny_mono (ht.nox.run [] s1 (start N vs) H _ J hq) ?_ (fun e s' z => z))⟩
  intro fl s' z
  cases fl with
  | next =>
    obtain ⟨_, H', J', q⟩ := z
    exact ⟨.non, H', J'.os, J'.bare, J'.base, J'.hok, rfl, q⟩
  | ret u =>
    obtain ⟨v, _, H', J', rv, q⟩ := z
    exact ⟨v, H', J'.os, J'.bare, J'.base, J'.hok, rv, q⟩
  | brk => exact (z.choose_spec.choose_spec.2).elim
  | cont => exact (z.choose_spec.choose_spec.2).elim
/-- called from outside with the object at a, the def at fa answers True and leaves what stood -/
abbrev TrueAt (P : Program) (w : World) (fa a : Addr) (t : Shared) : Prop :=
  codeAny (model P w) callerA (.call (.ref fa) ⟨[.ref a], []⟩)
    (fun r u => r = .ok (.ret (.bool true)) ∧
      OldK t.heap u.heap ∧ u.os = t.os ∧ AllBare u.gens) t
/-- nothing but one list of ints, known, is tracked -/
theorem gcall {k : Nat} {fa a : Addr} {fd : FuncData} {x : Str} {sp : Sp} {s₁ : Shared} {mb : Str → Option Value} {H : Hp}
    (inH : K.In s₁.heap) (atG : s₁.heap.Ns mainGlobals mg) (hb : s₁.heap.Ns builtinsNs mb) (bB : ∀ x : Str, x ≠ "__name__" → mb x = bootBuiltins x) (lim : s₁.heap.NoLimit) (hg : s₁.gens = #[])
    (hr : Room k callerA) (R : ∀ base : Heap, K.In base → base.Ns mainGlobals mg → GRun P w K mg base k fa fd [x] sp) (bind : ∀ (s : Shared) (u : Value), BindsTo s fd ⟨[u], []⟩ [(x, u)])
    (hok : HOk P w H s₁.heap) (only : ∀ b o, H b = some o → b = a ∧ (∃ ob xs, o = .frz ob (.lst xs) ∧ ∀ es ep, ob.data ≠ .dict es ep) ∧ K.lookup a = none)
    (hsp : sp [.ref a] H (fun v _ => v = .bl true) E0) :
    TrueAt P w fa a s₁ := by
  have plain : ∀ {b : Addr} {o : Obj} {es : Array DictEntry} {ep : Nat}, s₁.heap.get? b = some o → o.data = .dict es ep → H b = none := by
    intro b o es ep q d
    cases z : H b with
    | none => rfl
    | some u =>
      obtain ⟨_, ⟨ob, xs, rfl, nd⟩, _⟩ := only b u z
      obtain ⟨q2, _⟩ := hok b _ z
      rw [q] at q2
      cases q2
      exact absurd d (nd es ep)
  have nsB : ∀ {b : Addr} {m : Str → Option Value}, s₁.heap.Ns b m → (hidT s₁.heap H).Ns b m := by
    rintro b m ⟨o, es, ep, q, d, r⟩
    exact ⟨o, es, ep, hidT_get q (plain q d), d, r⟩
  have kB : K.In (hidT s₁.heap H) := by
    intro b o q
    refine hidT_get (inH b o q) ?_
    cases z : H b with
    | none => rfl
    | some u =>
      obtain ⟨e, _, n⟩ := only b u z
      rw [e, n] at q
      cases q
  have md : L2.Mod K mg (hidT s₁.heap H) := by
    obtain ⟨mc, l1, l2⟩ := lim
    exact ⟨kB, nsB atG, ⟨mb, nsB hb, bB⟩, ⟨mc, nsB l1, l2⟩⟩
  have env : Env0 P w K mg (hidT s₁.heap H) callerA [] s₁ H :=
    { frames := rfl, mod := md, bs := fun b o q => of_hidT q, bsz := Nat.le_of_eq (hidT_size _ _), funs := trivial, frf := fun b z => absurd z List.not_mem_nil, hok := hok, bare := .of_eq hg }
  have run := R _ kB (nsB atG) callerA [] s₁ H [.ref a] [.ref a] _ rfl hr env (bind s₁ (.ref a)) (.cons rfl .nil) rfl hsp
  refine codeAny_mono run (fun r s' z => ?_)
  match r, z with
  | .error _, z => exact z.elim
  | .ok .next, z => exact z.elim
  | .ok .brk, z => exact z.elim
  | .ok .cont, z => exact z.elim
  | .ok (.ret u), ⟨v, H', os, bare, un, hok', rv, q⟩ =>
    have q : v = .bl true := q
    cases q
    have rv : u = Value.bool true := rv
    cases rv
    refine ⟨rfl, .of_keep (fun b o e => ?_), os, bare⟩
    cases z : H b with
    | none => exact un.keep b o e z List.not_mem_nil List.not_mem_nil
    | some u =>
      obtain ⟨_, ⟨ob, xs, rfl, _⟩, _⟩ := only b u z
      have g1 := (hok b _ z).1
      have g2 := (hok' b _ (un.frzs b ob _ z)).1
      rw [e] at g1
      cases g1
      exact g2
/-- the law's call, the script tracked or written -/
theorem glaw {k : Nat} {fa a : Addr} {fd : FuncData} {x : Str} {sp : Sp} {s₁ : Shared} {mb : Str → Option Value} {vs : List Value} {ns : List Int}
    (inH : K.In s₁.heap) (atG : s₁.heap.Ns mainGlobals mg) (hb : s₁.heap.Ns builtinsNs mb) (bB : ∀ x : Str, x ≠ "__name__" → mb x = bootBuiltins x) (lim : s₁.heap.NoLimit) (hg : s₁.gens = #[])
    (ha : s₁.heap.get? a = some { cls := .type "list", data := .seq vs.toArray }) (hi : IntsAre vs ns) (hl : ns.length ≤ sizeLine)
    (hr : Room k callerA) (R : ∀ base : Heap, K.In base → base.Ns mainGlobals mg → GRun P w K mg base k fa fd [x] sp) (bind : ∀ (s : Shared) (u : Value), BindsTo s fd ⟨[u], []⟩ [(x, u)])
    (hsp : ∀ H : Hp, SqL K H a (ns.map V.int) → sp [.ref a] H (fun v _ => v = .bl true) E0) :
    TrueAt P w fa a s₁ := by
  have rv := vals_ints hi
  cases q : K.lookup a with
  | some o =>
    have e := (inH a o q).symm.trans ha
    cases e
    refine gcall (H := fun _ => none) inH atG hb bB lim hg hr R bind (fun b u z => by cases z) (fun b u z => by cases z) (hsp _ (.inr ⟨_, vs.toArray, _, q, rfl, rfl, rfl, ?_, by simpa using rv⟩))
    rw [List.size_toArray, hi.length]
    exact hl
  | none =>
    have tr : ∀ b u, upd (fun _ => none) a (.frz { cls := .type "list", data := .seq vs.toArray } (.lst (ns.map V.int))) b = some u → b = a ∧ u = .frz { cls := .type "list", data := .seq vs.toArray } (.lst (ns.map V.int)) := by
      intro b u z
      by_cases h : b = a
      · rw [h, upd_same] at z
        exact ⟨h, (Option.some.inj z).symm⟩
      · rw [upd_ne h] at z
        cases z
    refine gcall (H := upd (fun _ => none) a (.frz { cls := .type "list", data := .seq vs.toArray } (.lst (ns.map V.int)))) inH atG hb bB lim hg hr R bind (fun b u z => ?_) (fun b u z => ?_) (hsp _ (.inl (.inr ⟨_, upd_same⟩)))
    · obtain ⟨rfl, rfl⟩ := tr b u z
      exact ⟨ha, by rw [List.length_map]; exact hl, vs, _, rv, ha⟩
    · obtain ⟨rfl, rfl⟩ := tr b u z
      exact ⟨rfl, ⟨_, _, rfl, fun es ep d => by cases d⟩, q⟩
end
/-- the end of the row's proof -/
theorem gwalk {l : PySem.W.OpenLaw} {n k : Nat} {q : Program} {loose : List Str} {XP : (Str → Option Value) → Heap → Prop} {YP : World → Heap → Prop} {d : DefRec} {K : Params → PySem.W.Frag} {sp : World → Sp} {x : Str}
    (hn : l.most = some n) (hn2 : n ≤ sizeLine) (hdf : d.params.defaults = []) (hr : Room k callerA) (hY : ∀ (w : World) (h : Heap), YP w h → (K w.params).In h)
    (F : ∀ (w : World) (mg : Str → Option Value) (fa : Addr) (h : Heap), (K w.params).In h → h.Ns mainGlobals mg → mg d.name = some (.ref fa) →
      ∃ fd : FuncData, (∀ (s : Shared) (u : Value), BindsTo s fd ⟨[u], []⟩ [(x, u)]) ∧ ∀ base : Heap, (K w.params).In base → base.Ns mainGlobals mg → GRun l.prog w (K w.params) mg base k fa fd [x] (sp w))
    (hsp : ∀ (w : World) (H : Hp) (a : Addr) (ns : List Int), ns.length ≤ n → SqL (K w.params) H a (ns.map V.int) → sp w [.ref a] H (fun v _ => v = .bl true) E0) :
    PySem.W.WalkO q loose XP YP l.row.toRowW d [] (fun f vs => PySem.call f vs) := by
  refine Att.attach_call hn hdf (fun w s₀ s₁ mg mb fa o pm cd doc a vs ns G Y _ _ _ hmg hobj hints hlen hg => ?_)
  have inK := hY w _ Y
  obtain ⟨fd, bind, R⟩ := F w mg fa _ inK G.T.g hmg
  exact glaw inK G.T.g G.T.b G.T.builtins G.T.nolimit hg hobj hints (Nat.le_trans hlen hn2) hr R bind (fun H hS => hsp w H a ns hlen hS)
def top (i : Nat) : Stmt := PySem.Challenge.pw_sortedshelves_k12_sizes_and_how_counts_g.main.body.getD i (.Pass ⟨0, 0, 0, 0⟩)
abbrev sReached : Stmt := top 2
abbrev sSources : Stmt := top 3
abbrev sLeading : Stmt := top 4
abbrev sUseful : Stmt := top 5
abbrev sCount : Stmt := top 7
abbrev sCounts : Stmt := top 8
abbrev sOnward : Stmt := top 9
abbrev sSize : Stmt := top 10
abbrev sGoesOn : Stmt := top 11
abbrev sShort : Stmt := top 12
abbrev sMend : Stmt := top 13
abbrev sWithout : Stmt := top 14
abbrev sDeck : Stmt := top 16
abbrev sDraw : Stmt := top 17
abbrev sOne : Stmt := top 18
abbrev sMach : Stmt := top 19
abbrev sMet : Stmt := top 20
abbrev sOpen : Stmt := top 21
abbrev sUsef : Stmt := top 22
abbrev sCntL : Stmt := top 23
abbrev sRank : Stmt := top 24
abbrev sFin : Stmt := top 25
abbrev sLong : Stmt := top 26
abbrev sParts : Stmt := top 27
abbrev sChain : Stmt := top 28
abbrev sLongR : Stmt := top 29
abbrev sLaw : Stmt := top 30
theorem scDeck : FnScope ["_law_script", "_law_cell"] ["_law_script"] (defScope sDeck) := ⟨rfl, rfl, rfl, by decide +kernel, rfl, by decide +kernel, by decide +kernel⟩
theorem scDraw : FnScope ["_law_deck_here", "_law_many", "_law_cell", "_law_at", "_law_mixed"] ["_law_deck_here", "_law_many"] (defScope sDraw) := ⟨rfl, rfl, rfl, by decide +kernel, rfl, by decide +kernel, by decide +kernel⟩
theorem scOne : FnScope ["_law_deck_here", "_law_items"] ["_law_deck_here", "_law_items"] (defScope sOne) := ⟨rfl, rfl, rfl, by decide +kernel, rfl, by decide +kernel, by decide +kernel⟩
def DeckAt (a c : Addr) (cells : List Int) (n : Int) (H : Hp) : Prop :=
  a ≠ c ∧ H a = some (.lst [.ref c, .int n]) ∧ H c = some (.lst (cells.map V.int)) ∧ cells.length ≤ 63 ∧ (∀ z ∈ cells, 0 ≤ z)
theorem cut_ints (ns : List Int) (lo hi : Option Int) : ∃ ms : List Int, cutV (ns.map V.int) lo hi = ms.map V.int ∧ ms.length ≤ ns.length := by
  unfold cutV
  refine ⟨(ns.drop (HT.sIx (ns.map V.int).length 0 lo)).take (HT.sIx (ns.map V.int).length (ns.map V.int).length hi - HT.sIx (ns.map V.int).length 0 lo), by rw [List.map_take, List.map_drop], ?_⟩
  rw [List.length_take, List.length_drop]
  omega
theorem int_at {ns : List Int} {i : Nat} {x : V} (h : (ns.map V.int)[i]? = some x) : ∃ u, x = V.int u := by
  rw [List.getElem?_map] at h
  obtain ⟨u, _, e⟩ := Option.map_eq_some_iff.mp h
  exact ⟨u, e.symm⟩
section
variable {P : Program} {w : World} {K : PySem.W.Frag} {mg : Str → Option Value} {base : Heap}
def spDeck (K : PySem.W.Frag) : Sp := fun vs H Q _ => ∃ (l : Addr) (ns : List Int), vs = [.ref l] ∧ SqL K H l (ns.map V.int) ∧ ns.length ≤ 63 ∧
  ∀ (H' : Hp) (a c : Addr) (cells : List Int), Same H H' → H a = none → H c = none → DeckAt a c cells 0 H' → Q (.ref a) H'
theorem ok_deck {f : Addr} {fd : FuncData} (F : Fun K "_law_deck" "_law_deck" sDeck f fd) (mAbs : mg "abs" = none) : FnOk P w K mg base CX0 1 f fd ["_law_script"] (spDeck K) := by
  refine F.ok scDeck (fun vs H Q E h => ?_) (fun cdv A outer s H vs Q E hr h => ?_)
  · obtain ⟨l, ns, rfl, _⟩ := h
    rfl
  · obtain ⟨l, ns, rfl, hS, hlen, k⟩ := h
    refine ⟨_, pss_one (ps_ret (pe_lst (pa_cons (pe_lc (own := [("_law_cell", 1)]) (g := gName 1) (tt := tYes) rfl scDeck.nd (pi_list (pe_slice sl_list (pv 0) po_none (po_some pe_int))) (blkOk_by (N := ["_law_script", "_law_cell"]) (sc := defScope sDeck) (by decide +kernel)) (fun _ _ _ _ _ => pg_name (i := 1) scDeck.nd rfl (Or.inl rfl)) (fun _ _ _ _ _ => pts_nil)
      (fun _ _ _ _ _ => pe_callB call_abs (by rfl) mAbs (by decide +kernel) (pa_cons (pv 1) pa_nil))) (pa_cons pe_int pa_nil)))), ?_⟩
    refine ⟨_, rfl, 63, rfl, l, _, rfl, hS, fun p hp => ?_⟩
    obtain ⟨ms, e, hm⟩ := cut_ints ns none (some 63)
    rw [e]
    refine ⟨p, rfl, ⟨_, SqL.of upd_same⟩, fun D hD => ?_⟩
    have np : p ≠ D := ne_of_none upd_same hD
    have hD0 : H D = none := by
      rw [upd_ne np.symm] at hD
      exact hD
    refine lc_list (K := K) (a := p) (xs := ms.map V.int) (fun i H' => Same H H' ∧ H' p = some (.lst (ms.map V.int)) ∧ ∃ cs : List Int, H' D = some (.lst (cs.map V.int)) ∧ cs.length = i ∧ ∀ z ∈ cs, 0 ≤ z) ⟨?_, ?_, [], upd_same, rfl, fun z hz => absurd hz List.not_mem_nil⟩ (fun i H' _ q => SqL.of q.2.1) ?_ ?_
    · exact (same_new hp).trans (same_new hD)
    · rw [upd_ne np, upd_same]
    · rintro i x H' hx ⟨sm, hp', cs, hD', hl, hc⟩
      obtain ⟨u, rfl⟩ := int_at hx
      refine ⟨rfl, ?_⟩
      refine ⟨_, rfl, u, rfl, _, hD', ?_, fun b o z => ?_, ?_, cs ++ [if u < 0 then -u else u], ?_, ?_, ?_⟩
      · have hi := (List.getElem?_eq_some_iff.mp hx).1
        rw [List.length_map] at hi ⊢
        exact small1000 (by omega)
      · rw [upd_ne (ne_of_none z hD0)]
        exact sm _ _ z
      · rw [upd_ne np]
        exact hp'
      · rw [upd_same, List.map_append]
        rfl
      · rw [List.length_append, hl]
        rfl
      · intro z hz
        rcases List.mem_append.mp hz with hz | hz
        · exact hc z hz
        · rw [List.mem_singleton.mp hz]
          split <;> omega
    · rintro H' ⟨sm, hp', cs, hD', hl, hc⟩
      rw [List.length_map] at hl
      refine ⟨(by show 2 ≤ sizeLine; decide), fun a ha => ?_⟩
      have na : D ≠ a := ne_of_none hD' ha
      have ha0 : H a = none := sm.free ha
      refine k _ a D cs (sm.trans (same_new ha)) ha0 hD0 ⟨na.symm, upd_same, ?_, by omega, hc⟩
      rw [upd_ne na]
      exact hD'
end
/-- the deck's two lists -/
def Bd (a c : Addr) : Addr → Prop := fun b => b = a ∨ b = c
theorem bd_new {a c p : Addr} {H : Hp} {xs ys : List V} (n : H p = none) (ha : H a = some (.lst xs)) (hc : H c = some (.lst ys)) : ¬ Bd a c p := by
  rintro (h | h)
  · rw [h, ha] at n
    cases n
  · rw [h, hc] at n
    cases n
theorem keep_upd {a c x : Addr} {H : Hp} {o : HO} (h : Bd a c x) : Keep (Bd a c) H (upd H x o) := fun b u n e => by
  rw [upd_ne (fun z : b = x => n (z.symm ▸ h))]
  exact e
section
variable {P : Program} {w : World} {K : PySem.W.Frag} {mg : Str → Option Value} {base : Heap}
def spDraw : Sp := fun vs H Q _ => ∃ (a c : Addr) (cells : List Int) (n m : Int), vs = [.ref a, .int m] ∧ DeckAt a c cells n H ∧ 1 ≤ m ∧ m ≤ 1000000 ∧ 0 ≤ n ∧ n ≤ 1000000 ∧
  ∀ (H' : Hp) (cells' : List Int) (r : Int), 0 ≤ r → r < m → DeckAt a c cells' (n + 1) H' → Keep (Bd a c) H H' → Q (.int r) H'
theorem ok_draw {f : Addr} {fd : FuncData} (F : Fun K "_law_draw" "_law_draw" sDraw f fd) (mLen : mg "len" = none) (mInt : mg "int" = none) : FnOk P w K mg base CX0 1 f fd ["_law_deck_here", "_law_many"] spDraw := by
  refine F.ok scDraw (fun vs H Q E h => ?_) (fun cdv A outer s H vs Q E hr h => ?_)
  · obtain ⟨a, c, cells, n, m, rfl, _⟩ := h
    rfl
  · obtain ⟨a, c, cells, n, m, rfl, ⟨nac, ha, hc, hlen, hpos⟩, m1, m2, n1, n2, k⟩ := h
    refine ⟨_, pss_cons (ps_asg (pe_op op_add (pe_ix ix_list (pv 0) pe_int (fun _ _ => rfl)) pe_int) (pg_sub (pv 0) pe_int set_list))
      (pss_cons (ps_asg (pe_tup (pa_cons pe_int (pa_cons (pe_un un_neg pe_int) pa_nil))) (pg_tup rfl (pgs_cons (pg_name (i := 2) scDraw.nd rfl (.inl rfl)) (pgs_cons (pg_name (i := 3) scDraw.nd rfl (.inl rfl)) pgs_nil))))
      (Evl.pss_cut (ps_if (pt_cmpR op_gt (pe_callB call_len_seq (by rfl) mLen PySem.boot_len (pa_cons (pe_ix ix_list (pv 0) pe_int (fun _ _ => rfl)) pa_nil)) pe_int (nomark _))
        (pss_cons (ps_set (i := 3) scDraw.nd rfl (.inl rfl) (pe_op op_mod (pe_callTy call_int1 (by rfl) mInt (by decide +kernel) (pa_cons (pe_ix ix_list (pv 0) pe_int (fun _ _ => rfl)) pa_nil)) (pe_callB call_len_seq (by rfl) mLen PySem.boot_len (pa_cons (pe_ix ix_list (pv 0) pe_int (fun _ _ => rfl)) pa_nil))))
        (pss_one (ps_set (i := 2) scDraw.nd rfl (.inl rfl) (pe_ix ix_list (pe_ix ix_list (pv 0) pe_int (fun _ _ => rfl)) (pv 3) (fun _ _ => rfl)))))
        pss_nil)
      (pss_cons (ps_if (pt_cmpR op_ge (pv 2) (pe_op op_pow pe_int pe_int) (nomark _))
        (pss_cons (ps_asg (pe_op op_fdivW (pe_callTy call_int1 (by rfl) mInt (by decide +kernel) (pa_cons (pv 2) pa_nil)) (pv 1)) (pg_sub (pe_ix ix_list (pv 0) pe_int (fun _ _ => rfl)) (pv 3) set_list))
          (pss_one (ps_ret (pe_op op_mod (pe_callTy call_int1 (by rfl) mInt (by decide +kernel) (pa_cons (pv 2) pa_nil)) (pv 1)))))
        pss_nil)
      (pss_cons (ps_set (i := 4) scDraw.nd rfl (.inl rfl) (pe_op op_add (pe_op op_add (pe_op op_mod (pe_callTy call_int1 (by rfl) mInt (by decide +kernel) (pa_cons (pv 2) pa_nil)) pe_int) (pe_op op_mul pe_int (pe_ix ix_list (pv 0) pe_int (fun _ _ => rfl)))) pe_int))
      (pss_one (ps_ret (pe_op op_mod (pe_callTy call_int1 (by rfl) mInt (by decide +kernel) (pa_cons (pe_op op_mod (pe_callTy call_int1 (by rfl) mInt (by decide +kernel) (pa_cons (pe_op op_pow (pv 4) pe_int) pa_nil)) pe_int) pa_nil)) (pv 1)))))))), ?_⟩
    refine ⟨.ref a, rfl, a, _, 1, _, rfl, rfl, SqL.of ha, atI_nat (j := 1) rfl, n, 1, rfl, rfl, .ref a, rfl, a, _, 1, 1, rfl, rfl, ha, rfl, ?_⟩
    have hA1 : upd H a (.lst [.ref c, .int (n + 1)]) a = some (.lst [.ref c, .int (n + 1)]) := upd_same
    have hC1 : upd H a (.lst [.ref c, .int (n + 1)]) c = some (.lst (cells.map V.int)) := by
      rw [upd_ne nac.symm]
      exact hc
    have k1 : Keep (Bd a c) H (upd H a (.lst [.ref c, .int (n + 1)])) := keep_upd (.inl rfl)
    refine ⟨1, rfl, (by show 2 ≤ sizeLine; decide), fun T hT => ?_⟩
    have k2 := k1.trans (keep_new (B := Bd a c) (o := .tup [.int 0, .int (-1)]) hT)
    have hA2 : upd (upd H a (.lst [.ref c, .int (n + 1)])) T (.tup [.int 0, .int (-1)]) a = some (.lst [.ref c, .int (n + 1)]) := by
      rw [upd_ne (ne_of_none hA1 hT)]
      exact hA1
    have hC2 : upd (upd H a (.lst [.ref c, .int (n + 1)])) T (.tup [.int 0, .int (-1)]) c = some (.lst (cells.map V.int)) := by
      rw [upd_ne (ne_of_none hC1 hT)]
      exact hC1
    have hT2 : upd (upd H a (.lst [.ref c, .int (n + 1)])) T (.tup [.int 0, .int (-1)]) T = some (.tup [.int 0, .int (-1)]) := upd_same
    refine ⟨T, _, rfl, SqT.of hT2, rfl, .int 0, [.int (-1)], rfl, .int (-1), [], rfl, rfl, ?_⟩
    refine ⟨fun σ' H' => ∃ cell at_ : Int, σ' = [some (.ref a), some (.int m), some (.int cell), some (.int at_), none] ∧ Keep (Bd a c) H H' ∧ H' a = some (.lst [.ref c, .int (n + 1)]) ∧ H' c = some (.lst (cells.map V.int)) ∧ 0 ≤ cell ∧ (10 ^ 18 ≤ cell → ∃ j : Nat, j < cells.length ∧ at_ = (j : Int)), ?_, ?_⟩
    · refine ⟨.ref a, rfl, a, _, 0, .ref c, rfl, rfl, SqL.of hA2, atI_nat (j := 0) rfl, c, _, rfl, .inl (SqL.of hC2), _, _, rfl, rfl, _, rfl, ite2 (fun h0 => ?_) (fun h0 => ?_)⟩
      · have h0 := of_decide_eq_true h0
        rw [List.length_map] at h0
        obtain ⟨j, hj, ej⟩ : ∃ j : Nat, j < cells.length ∧ (n + 1) % ((cells.map V.int).length : Int) = (j : Int) := by
          rw [List.length_map]
          have x1 := Int.emod_nonneg (n + 1) (b := (cells.length : Int)) (by omega)
          have x2 := Int.emod_lt_of_pos (n + 1) (b := (cells.length : Int)) h0
          exact ⟨((n + 1) % (cells.length : Int)).toNat, by omega, by omega⟩
        have gj : (cells.map V.int)[j]? = some (.int cells[j]) := by
          rw [List.getElem?_map, List.getElem?_eq_getElem hj]
          rfl
        refine ⟨.ref a, rfl, a, _, 1, _, rfl, rfl, SqL.of hA2, atI_nat (j := 1) rfl, .inl ⟨n + 1, rfl, .ref a, rfl, a, _, 0, .ref c, rfl, rfl, SqL.of hA2, atI_nat (j := 0) rfl, c, _, rfl, .inl (SqL.of hC2), _, _, rfl, rfl, (by rw [List.length_map]; exact h0), ?_⟩⟩
        refine ⟨.ref a, rfl, a, _, 0, .ref c, rfl, rfl, SqL.of hA2, atI_nat (j := 0) rfl, .int j, by rw [← ej]; rfl, c, _, _, _, rfl, rfl, SqL.of hC2, atI_nat gj, ?_⟩
        exact ⟨cells[j], j, by rw [← ej]; rfl, k2, hA2, hC2, hpos _ (List.getElem_mem hj), fun _ => ⟨j, hj, rfl⟩⟩
      · exact ⟨0, -1, rfl, k2, hA2, hC2, Int.le_refl _, fun z => absurd z (by decide)⟩
    · rintro σ' H3 ⟨cell, at_, rfl, k3, hA3, hC3, hp, hj⟩
      refine ⟨_, rfl, 10, 18, rfl, rfl, ⟨by decide, by decide, by decide⟩, _, _, rfl, rfl, _, rfl, ite2 (fun h0 => ?_) (fun h0 => ?_)⟩
      · obtain ⟨j, hj2, ea⟩ := hj (of_decide_eq_true h0)
        subst ea
        refine ⟨_, rfl, .inl ⟨cell, rfl, _, rfl, _, _, rfl, rfl, wide_div (b := 20) (by omega) (by omega) (by decide) (by decide), .ref a, rfl, a, _, 0, .ref c, rfl, rfl, SqL.of hA3, atI_nat (j := 0) rfl, _, rfl, c, _, _, j, rfl, rfl, hC3, Evl.ixN_nat (by rw [List.length_map]; exact hj2), ?_⟩⟩
        refine ⟨_, rfl, .inl ⟨cell, rfl, _, rfl, _, _, rfl, rfl, (by omega), ?_⟩⟩
        refine k _ (cells.set j (cell / m)) _ (Int.emod_nonneg _ (by omega)) (Int.emod_lt_of_pos _ (by omega)) ⟨nac, ?_, ?_, ?_, ?_⟩ (k3.trans (keep_upd (.inr rfl)))
        · rw [upd_ne nac]
          exact hA3
        · rw [upd_same, List.map_set]
        · rw [List.length_set]
          exact hlen
        · intro z hz
          rcases List.mem_or_eq_of_mem_set hz with hz | hz
          · exact hpos z hz
          · rw [hz]
            exact Int.ediv_nonneg hp (by omega)
      · have b1 := Int.emod_nonneg cell (b := 2147483563) (by decide)
        have b2 := Int.emod_lt_of_pos cell (b := 2147483563) (by decide)
        refine ⟨_, rfl, .inl ⟨cell, rfl, _, _, rfl, rfl, (by show (0 : Int) < 2147483563; decide), .ref a, rfl, a, _, 1, _, rfl, rfl, SqL.of hA3, atI_nat (j := 1) rfl, 8117, n + 1, rfl, rfl, .inl ⟨by decide, by decide⟩, _, _, rfl, rfl, _, _, rfl, rfl, ?_⟩⟩
        refine ⟨_, rfl, cell % 2147483563 + 8117 * (n + 1) + 3, 5, rfl, rfl, ⟨by decide, by decide, by omega⟩, .inl ⟨_, rfl, _, _, rfl, rfl, (by show (0 : Int) < 2147483629; decide), .inl ⟨_, rfl, _, rfl, _, _, rfl, rfl, (by omega), ?_⟩⟩⟩
        exact k _ cells _ (Int.emod_nonneg _ (by omega)) (Int.emod_lt_of_pos _ (by omega)) ⟨nac, hA3, hC3, hlen, hpos⟩ k3
end
section
variable {P : Program} {w : World} {K : PySem.W.Frag} {mg : Str → Option Value} {base : Heap}
def spOne (K : PySem.W.Frag) : Sp := fun vs H Q _ => ∃ (a c l : Addr) (cells : List Int) (n : Int) (xs : List V), vs = [.ref a, .ref l] ∧ DeckAt a c cells n H ∧ 0 ≤ n ∧ n ≤ 1000000 ∧ SqL K H l xs ∧ ¬ Bd a c l ∧ xs ≠ [] ∧ xs.length ≤ 1000 ∧
  ∀ (H' : Hp) (cells' : List Int) (x : V), x ∈ xs → DeckAt a c cells' (n + 1) H' → Keep (Bd a c) H H' → Q x H'
theorem ok_one {f fD : Addr} {fd fdD : FuncData} (F : Fun K "_law_one" "_law_one" sOne f fd) (D : FnOk P w K mg base CX0 1 fD fdD ["_law_deck_here", "_law_many"] spDraw) (FD : Fun K "_law_draw" "_law_draw" sDraw fD fdD) (bD : Binds K fdD ["_law_deck_here", "_law_many"] [])
    (gD : mg "_law_draw" = some (.ref fD)) (mLen : mg "len" = none) : FnOk P w K mg base CX0 2 f fd ["_law_deck_here", "_law_items"] (spOne K) := by
  refine F.ok scOne (fun vs H Q E h => ?_) (fun cdv A outer s H vs Q E hr h => ?_)
  · obtain ⟨a, c, l, cells, n, xs, rfl, _⟩ := h
    rfl
  · obtain ⟨a, c, l, cells, n, xs, rfl, dk, n0, n1, hL, nb, hne, hlen, k⟩ := h
    refine ⟨_, pss_one (ps_ret (pe_ix ix_list (pv 1) (pe_call D hr (by rfl) gD FD.kp bD .nil pass0 (pa_cons (pv 0) (pa_cons (pe_callB call_len_seq (by rfl) mLen PySem.boot_len (pa_cons (pv 1) pa_nil)) pa_nil))) (fun _ _ => rfl))), ?_⟩
    have lp : 0 < xs.length := List.length_pos_iff.mpr hne
    refine ⟨_, rfl, _, rfl, _, rfl, l, xs, rfl, .inl hL, a, c, cells, n, _, rfl, dk, by omega, by omega, n0, n1, fun H' cells' r r0 r1 dk' kp => ?_⟩
    have hr2 : r.toNat < xs.length := by omega
    refine ⟨l, xs, r, xs[r.toNat], rfl, rfl, kp.seqL nb hL, ?_, k H' cells' _ (List.getElem_mem hr2) dk' kp⟩
    have e := atI_nat (List.getElem?_eq_getElem hr2)
    rw [show ((r.toNat : Nat) : Int) = r by omega] at e
    exact e
end
/-- the built-in names that nobody stores, and the program's constants -/
structure Mg (mg : Str → Option Value) : Prop where
  len : mg "len" = none
  int : mg "int" = none
  range : mg "range" = none
  tuple : mg "tuple" = none
  list : mg "list" = none
  all : mg "all" = none
  abs : mg "abs" = none
  bool : mg "bool" = none
  repr : mg "repr" = none
  any : mg "any" = none
  enum : mg "enumerate" = none
  max : mg "max" = none
  zip : mg "zip" = none
  dict : mg "dict" = none
  isi : mg "isinstance" = none
def isBool : PyData → Bool
  | .bool _ => true
  | _ => false
theorem Dt.tup_rd {B : Addr → Prop} {K : PySem.W.Frag} {H : Hp} {v : V} {ds : List PyData} (h : Dt B K H v (.tuple ds)) : ∃ a xs, v = .ref a ∧ ¬ B a ∧ Rd H a (.tup xs) ∧ DtAll B K H xs ds ∧ xs.length = ds.length := by
  cases h with
  | tup nb hs ha => exact ⟨_, _, rfl, nb, hs, ha, ha.len⟩
mutual
def nodes : PyData → Nat
  | .list xs => 1 + nodesAll xs
  | .tuple xs => 1 + nodesAll xs
  | .none => 1
  | .bool _ => 1
  | .int _ => 1
  | .str _ => 1
  | .dict _ => 1
def nodesAll : List PyData → Nat
  | [] => 0
  | x :: xs => nodes x + nodesAll xs
end
def rLen (K : PySem.W.Frag) : List V → Hp → VK → Prop := fun xs H Q => ∃ p ys, xs = [.ref p] ∧ (SqL K H p ys ∨ SqT K H p ys) ∧ Q (.int ys.length) H
section
variable {X : Cx}
def rNilL (K : PySem.W.Frag) (g : Bool → Bool) : R2 := fun x y H Q => ∃ (l b : Addr) (xs : List V), x = .ref l ∧ y = .ref b ∧ SqL K H l xs ∧ SqL K H b [] ∧ Q (.bl (g (decide (xs = [])))) H
theorem op_neNilL (hu : X.A.units < cLine) : OpR X (compareOp .NotEq) (rNilL X.K not) := by
  intro pins s σ H x y v u Q I rx ry h
  obtain ⟨l, b, xs, rfl, rfl, hl, hb, q⟩ := h
  cases rx
  cases ry
  obtain ⟨its, rv, pl, _⟩ := I.list hl
  obtain ⟨its2, rv2, pl2, _⟩ := I.list hb
  cases rv2
  have hn := rv.length
  cases xs with
  | nil =>
    cases rv
    exact SeqAt.RcNeAt.lists (e := fun _ => true) pl.isList pl2.isList rfl hu (fun j h1 _ => absurd h1 (Nat.not_lt_zero _)) _ _ _ _ ⟨.bl _, H, I, rfl, q⟩
  | cons z zs =>
    refine SeqAt.RcNeAt.lists_lengths pl.isList pl2.isList ?_ hu _ _ _ _ ⟨.bl _, H, I, rfl, q⟩
    rw [List.size_toArray, ← hn]
    rfl
end
theorem not_cases {b : Bool} (h : (!b) = true) : b = false := by
  cases b
  · rfl
  · cases h
theorem not_cases' {b : Bool} (h : ¬ (!b) = true) : b = true := by
  cases b
  · exact absurd rfl h
  · rfl
theorem deck_upd {a c p : Addr} {cells : List Int} {n : Int} {H : Hp} {o : HO} (h : DeckAt a c cells n H) (np : ¬ Bd a c p) : DeckAt a c cells n (upd H p o) := by
  obtain ⟨h1, h2, h3, h4, h5⟩ := h
  refine ⟨h1, ?_, ?_, h4, h5⟩
  · rw [upd_ne (fun z : a = p => np (.inl z.symm))]
    exact h2
  · rw [upd_ne (fun z : c = p => np (.inr z.symm))]
    exact h3
theorem deck_off {a c p : Addr} {cells : List Int} {n : Int} {H : Hp} (h : DeckAt a c cells n H) (np : H p = none) : ¬ Bd a c p := bd_new np h.2.1 h.2.2.1
theorem deck_new {a c p : Addr} {cells : List Int} {n : Int} {H : Hp} {o : HO} (h : DeckAt a c cells n H) (np : H p = none) : DeckAt a c cells n (upd H p o) := deck_upd h (deck_off h np)
/-- a list that is made at D while the deck is drawn from: at most s draws an item -/
def CInv (a c D : Addr) (H0 : Hp) (G : V → Prop) (n0 s : Int) (j : Nat) (H' : Hp) : Prop :=
  ∃ (cells : List Int) (n' : Int) (acc : List V), DeckAt a c cells n' H' ∧ n0 ≤ n' ∧ n' ≤ n0 + s * j ∧ Keep (Bd a c) H0 H' ∧ H' D = some (.lst acc) ∧ acc.length = j ∧ ∀ v ∈ acc, G v
theorem cstart {a c D : Addr} {H0 : Hp} {G : V → Prop} {cells : List Int} {n0 s : Int} (dk : DeckAt a c cells n0 H0) (hD : H0 D = none) : CInv a c D H0 G n0 s 0 (upd H0 D (.lst [])) :=
  ⟨cells, n0, [], deck_new dk hD, Int.le_refl _, by simp, keep_new hD, upd_same, rfl, fun v z => absurd z List.not_mem_nil⟩
theorem cstep {a c D : Addr} {H0 H1 H2 : Hp} {G : V → Prop} {cells2 : List Int} {n0 s n1 n2 : Int} {j : Nat} {acc : List V} {v : V} (hD0 : H0 D = none) (nD : ¬ Bd a c D) (hj : j ≤ 1000) (h0 : n0 ≤ n1) (h1 : n1 ≤ n0 + s * j) (kp : Keep (Bd a c) H0 H1) (hD : H1 D = some (.lst acc)) (hl : acc.length = j)
    (hG : ∀ v ∈ acc, G v) (dk : DeckAt a c cells2 n2 H2) (h2 : n1 ≤ n2) (h3 : n2 ≤ n1 + s) (k2 : Keep (Bd a c) H1 H2) (g : G v) :
    ∃ acc', H2 D = some (.lst acc') ∧ acc'.length < sizeLine ∧ CInv a c D H0 G n0 s (j + 1) (upd H2 D (.lst (acc' ++ [v]))) := by
  refine ⟨acc, k2 _ _ nD hD, small1000 (by omega), cells2, n2, acc ++ [v], deck_upd dk nD, by omega, ?_, fun b o nb z => ?_, upd_same, ?_, fun u hu => ?_⟩
  · have e : s * ((j + 1 : Nat) : Int) = s * j + s := by
      rw [Int.natCast_add, Int.mul_add]
      simp
    rw [e]
    omega
  · rw [upd_ne (ne_of_none z hD0)]
    exact k2 _ _ nb (kp _ _ nb z)
  · rw [List.length_append, hl]
    rfl
  · rcases List.mem_append.mp hu with hu | hu
    · exact hG u hu
    · rw [List.mem_singleton.mp hu]
      exact g
/-- an item of a row: None, or the number of a state -/
def Gi (m : Int) (v : V) : Prop := v = .non ∨ ∃ k : Int, v = .int k ∧ 0 ≤ k ∧ k < m
def Ri (m : Int) (d : PyData) : Prop := d = .none ∨ ∃ k : Int, d = .int k ∧ 0 ≤ k ∧ k < m
theorem gi_dt {m : Int} : ∀ {acc : List V}, (∀ v ∈ acc, Gi m v) → ∃ ds : List PyData, (∀ (B : Addr → Prop) (K : PySem.W.Frag) (H : Hp), DtAll B K H acc ds) ∧ ds.length = acc.length ∧ ∀ d ∈ ds, Ri m d
  | [], _ => ⟨[], fun _ _ _ => .nil, rfl, fun d z => absurd z List.not_mem_nil⟩
  | v :: acc, h => by
    obtain ⟨ds, h1, h2, h3⟩ := gi_dt (acc := acc) fun u hu => h u (List.mem_cons_of_mem _ hu)
    rcases h v List.mem_cons_self with e | ⟨k, e, k0, k1⟩
    · subst e
      refine ⟨.none :: ds, fun B K H => .cons .non (h1 B K H), by rw [List.length_cons, List.length_cons, h2], fun d hd => ?_⟩
      rcases List.mem_cons.mp hd with hd | hd
      · exact .inl hd
      · exact h3 d hd
    · subst e
      refine ⟨.int k :: ds, fun B K H => .cons (.int k) (h1 B K H), by rw [List.length_cons, List.length_cons, h2], fun d hd => ?_⟩
      rcases List.mem_cons.mp hd with hd | hd
      · exact .inr ⟨k, hd, k0, k1⟩
      · exact h3 d hd
def Gb (v : V) : Prop := ∃ b, v = .bl b
theorem gb_dt : ∀ {acc : List V}, (∀ v ∈ acc, Gb v) → ∃ ds : List PyData, (∀ (B : Addr → Prop) (K : PySem.W.Frag) (H : Hp), DtAll B K H acc ds) ∧ ds.length = acc.length ∧ ∀ d ∈ ds, isBool d = true
  | [], _ => ⟨[], fun _ _ _ => .nil, rfl, fun d z => absurd z List.not_mem_nil⟩
  | v :: acc, h => by
    obtain ⟨ds, h1, h2, h3⟩ := gb_dt (acc := acc) fun u hu => h u (List.mem_cons_of_mem _ hu)
    obtain ⟨b, e⟩ := h v List.mem_cons_self
    subst e
    refine ⟨.bool b :: ds, fun B K H => .cons (.bl b) (h1 B K H), by rw [List.length_cons, List.length_cons, h2], fun d hd => ?_⟩
    rcases List.mem_cons.mp hd with hd | hd
    · rw [hd]
      rfl
    · exact h3 d hd
def RowD (L m : Int) (d : PyData) : Prop := ∃ is : List PyData, d = .tuple is ∧ (is.length : Int) = L ∧ ∀ i ∈ is, Ri m i
def B3 (a c R : Addr) : Addr → Prop := fun b => Bd a c b ∨ b = R
mutual
theorem Dt.weak {B B' : Addr → Prop} {K : PySem.W.Frag} {H : Hp} (k : ∀ b, B' b → B b) : ∀ (d : PyData) (v : V), Dt B K H v d → Dt B' K H v d
  | .none, _, h => by cases h; exact .non
  | .bool _, _, h => by cases h; exact .bl _
  | .int _, _, h => by cases h; exact .int _
  | .str _, _, h => by cases h; exact .str _
  | .list ds, _, h => by
    cases h with
    | lst nb ne hs ha => exact .lst (fun z => nb (k _ z)) ne hs (DtAll.weak k ds _ ha)
  | .tuple ds, _, h => by
    cases h with
    | tup nb hs ha => exact .tup (fun z => nb (k _ z)) hs (DtAll.weak k ds _ ha)
  | .dict _, _, h => by
    cases h with
    | emp nb e => exact .emp (fun z => nb (k _ z)) e
theorem DtAll.weak {B B' : Addr → Prop} {K : PySem.W.Frag} {H : Hp} (k : ∀ b, B' b → B b) : ∀ (ds : List PyData) (vs : List V), DtAll B K H vs ds → DtAll B' K H vs ds
  | [], _, h => by cases h; exact .nil
  | d :: ds, _, h => by
    cases h with
    | cons h1 h2 => exact .cons (Dt.weak k d _ h1) (DtAll.weak k ds _ h2)
end
/-- the rows that are made so far -/
def MInv (K : PySem.W.Frag) (a c R : Addr) (H : Hp) (L m n0 : Int) (i : Nat) (H' : Hp) : Prop :=
  ∃ (cells : List Int) (n' : Int) (rvs : List V) (rds : List PyData), DeckAt a c cells n' H' ∧ n0 ≤ n' ∧ n' ≤ n0 + 6 * i ∧ Keep (Bd a c) H H' ∧ H' R = some (.lst rvs) ∧ DtAll (B3 a c R) K H' rvs rds ∧ rds.length = i ∧ ∀ r ∈ rds, RowD L m r
theorem mstep {K : PySem.W.Frag} {a c R q : Addr} {H H1 H2 : Hp} {L m n0 n1 n2 : Int} {i : Nat} {rvs acc : List V} {rds : List PyData} {cells2 : List Int} (hR0 : H R = none) (nR : ¬ Bd a c R) (hi : i ≤ 1000) (h0 : n0 ≤ n1) (h1 : n1 ≤ n0 + 6 * i) (kp : Keep (Bd a c) H H1) (hR : H1 R = some (.lst rvs)) (hd : DtAll (B3 a c R) K H1 rvs rds)
    (hl : rds.length = i) (hr : ∀ r ∈ rds, RowD L m r) (k2 : Keep (Bd a c) H1 H2) (dk : DeckAt a c cells2 n2 H2) (h2 : n1 ≤ n2) (h3 : n2 ≤ n1 + 6) (hG : ∀ v ∈ acc, Gi m v) (hL : (acc.length : Int) = L) (hq : H2 q = none) :
    ∃ rvs', (upd H2 q (.tup acc)) R = some (.lst rvs') ∧ rvs'.length < sizeLine ∧ MInv K a c R H L m n0 (i + 1) (upd (upd H2 q (.tup acc)) R (.lst (rvs' ++ [.ref q]))) := by
  have hR2 := k2 _ _ nR hR
  have nq : R ≠ q := ne_of_none hR2 hq
  have k3 : Keep (B3 a c R) H1 (upd (upd H2 q (.tup acc)) R (.lst (rvs ++ [.ref q]))) := fun b o nb z => by
    rw [upd_ne (fun z : b = R => nb (.inr z)), upd_ne (ne_of_none (k2 _ _ (fun z => nb (.inl z)) z) hq)]
    exact k2 _ _ (fun z => nb (.inl z)) z
  obtain ⟨ds, g1, g2, g3⟩ := gi_dt hG
  have hlv := hd.len
  refine ⟨rvs, by rw [upd_ne nq]; exact hR2, small1000 (by omega), cells2, n2, rvs ++ [.ref q], rds ++ [.tuple ds], deck_upd (deck_new dk hq) nR, by omega, by omega, fun b o nb z => ?_, upd_same, ?_, ?_, ?_⟩
  · rw [upd_ne (ne_of_none z hR0), upd_ne (ne_of_none (k2 _ _ nb (kp _ _ nb z)) hq)]
    exact k2 _ _ nb (kp _ _ nb z)
  · refine (DtAll.keep k3 _ _ hd).append (.cons (.tup (xs := acc) ?_ (.inl ?_) (g1 _ _ _)) .nil)
    · rintro (z | z)
      · exact deck_off dk hq z
      · exact nq z.symm
    · rw [upd_ne nq.symm, upd_same]
  · rw [List.length_append, hl]
    rfl
  · intro r hr2
    rcases List.mem_append.mp hr2 with hr2 | hr2
    · exact hr r hr2
    · rw [List.mem_singleton.mp hr2]
      exact ⟨ds, rfl, by rw [g2]; exact hL, g3⟩
def rTup (K : PySem.W.Frag) : List V → Hp → VK → Prop := fun xs H Q => ∃ p ys, xs = [.ref p] ∧ ((SqL K H p ys ∧ ∀ l, H l = none → Q (.ref l) (upd H l (.tup ys))) ∨ (SqT K H p ys ∧ Q (.ref p) H))
section
variable {P : Program} {w : World} {K : PySem.W.Frag} {mg : Str → Option Value} {base : Heap}
theorem scMach : FnScope ["_law_deck_here", "_law_letters", "_law_most", "_law_many", "_law_way", "_law_rows", "_law_state", "_law_at", "_law_further", "_law_items", "_law_item", "_law_often"] ["_law_deck_here", "_law_letters", "_law_most"] (defScope sMach) := ⟨rfl, rfl, rfl, by decide +kernel, rfl, by decide +kernel, by decide +kernel⟩
def MachD (K : PySem.W.Frag) (a c : Addr) (H : Hp) (v : V) (L M : Int) (rs es : List PyData) : Prop :=
  Dt (Bd a c) K H v (.tuple [.int L, .tuple rs, .tuple es]) ∧ 1 ≤ rs.length ∧ (rs.length : Int) ≤ M ∧ es.length = rs.length ∧ (∀ r ∈ rs, RowD L rs.length r) ∧ ∀ e ∈ es, isBool e = true
def spMach (K : PySem.W.Frag) : Sp := fun vs H Q _ => ∃ (a c : Addr) (cells : List Int) (n L M : Int), vs = [.ref a, .int L, .int M] ∧ DeckAt a c cells n H ∧ 0 ≤ n ∧ n ≤ 900000 ∧ 1 ≤ L ∧ L ≤ 3 ∧ 1 ≤ M ∧ M ≤ 10 ∧
  ∀ (H' : Hp) (cells' : List Int) (n' : Int) (v : V) (rs es : List PyData), DeckAt a c cells' n' H' → n ≤ n' → n' ≤ n + 100 → Keep (Bd a c) H H' → MachD K a c H' v L M rs es → Q v H'
theorem ok_mach {f fD fO : Addr} {fd fdD fdO : FuncData} (F : Fun K "_law_machine" "_law_machine" sMach f fd) (D : FnOk P w K mg base CX0 1 fD fdD ["_law_deck_here", "_law_many"] spDraw) (FD : Fun K "_law_draw" "_law_draw" sDraw fD fdD) (bD : Binds K fdD ["_law_deck_here", "_law_many"] []) (gD : mg "_law_draw" = some (.ref fD))
    (O : FnOk P w K mg base CX0 2 fO fdO ["_law_deck_here", "_law_items"] (spOne K)) (FO : Fun K "_law_one" "_law_one" sOne fO fdO) (bO : Binds K fdO ["_law_deck_here", "_law_items"] []) (gO : mg "_law_one" = some (.ref fO)) (T : Mg mg) :
    FnOk P w K mg base CX0 3 f fd ["_law_deck_here", "_law_letters", "_law_most"] (spMach K) := by
  refine F.ok scMach (fun vs H Q E h => ?_) (fun cdv A outer s H vs Q E hr h => ?_)
  · obtain ⟨a, c, cells, n, L, M, rfl, _⟩ := h
    rfl
  · obtain ⟨a, c, cells, n, L, M, rfl, dk, n0, n1, l1, l3, m1, m10, k⟩ := h
    refine ⟨_, pss_cons (ps_asg (pe_tup (pa_cons (pe_op op_add pe_int (pe_call D (hr.mono (by decide)) (by rfl) gD FD.kp bD .nil pass0 (pa_cons (pv 0) (pa_cons (pv 2) pa_nil)))) (pa_cons (pe_call D (hr.mono (by decide)) (by rfl) gD FD.kp bD .nil pass0 (pa_cons (pv 0) (pa_cons pe_int pa_nil))) (pa_cons (pe_lst pa_nil) pa_nil)))) (pg_tup rfl (pgs_cons (pg_name (i := 3) scMach.nd rfl (.inr rfl)) (pgs_cons (pg_name (i := 4) scMach.nd rfl (.inr rfl)) (pgs_cons (pg_name (i := 5) scMach.nd rfl (.inl rfl)) pgs_nil)))))
      (pss_cons (ps_for PassesOwn.never rfl (pi_range1 (by rfl) T.range (pa_cons (pv 3) pa_nil)) (pg_name (i := 6) scMach.nd rfl (.inr rfl))
        (pss_one (ps_if (pt_cmpR op_eq (pv 4) pe_int (nomark _)) (pss_one (ps_expr (pe_bm PySem.F.plainAttrs_list PySem.F.slot_list_append PySem.F.type_list_append mt_append (pv 5) (pa_cons (pe_callTy (r := rTup K) call_tuple_of (by rfl) T.tuple PyProof.Rows.boot_tuple (pa_cons (pe_lc (own := [("_law_at", 7)]) (g := gName 7) (tt := tYes) rfl scMach.nd (pi_range1 (by rfl) T.range (pa_cons (pv 1) pa_nil)) (blkOk_by (N := ["_law_deck_here", "_law_letters", "_law_most", "_law_many", "_law_way", "_law_rows", "_law_state", "_law_at", "_law_further", "_law_items", "_law_item", "_law_often"]) (sc := defScope sMach) (by decide +kernel)) (fun _ _ _ _ _ => pg_name (i := 7) scMach.nd rfl (Or.inl rfl)) (fun _ _ _ _ _ => pts_nil) (fun _ _ _ _ _ => pe_op op_mod (pe_callTy call_int1 (by rfl) T.int PyProof.Rows.boot_int (pa_cons (pe_op op_add (pv 6) pe_int) pa_nil)) (pv 3))) pa_nil)) pa_nil))))
          (pss_one (ps_if (pt_cmpR op_eq (pv 4) pe_int (nomark _))
            (pss_cons (ps_set (i := 8) scMach.nd rfl (.inr rfl) (pe_lst (pa_cons (pe_ifExp (pt_cmpR op_lt (pe_op op_add (pv 6) pe_int) (pv 3) (nomark _)) (pe_op op_add (pv 6) pe_int) pe_non) (pa_cons (pv 6) (pa_cons pe_non pa_nil)))))
              (pss_one (ps_expr (pe_bm PySem.F.plainAttrs_list PySem.F.slot_list_append PySem.F.type_list_append mt_append (pv 5) (pa_cons (pe_callTy (r := rTup K) call_tuple_of (by rfl) T.tuple PyProof.Rows.boot_tuple (pa_cons (pe_lc (own := [("_law_at", 7)]) (g := gName 7) (tt := tYes) rfl scMach.nd (pi_range1 (by rfl) T.range (pa_cons (pv 1) pa_nil)) (blkOk_by (N := ["_law_deck_here", "_law_letters", "_law_most", "_law_many", "_law_way", "_law_rows", "_law_state", "_law_at", "_law_further", "_law_items", "_law_item", "_law_often"]) (sc := defScope sMach) (by decide +kernel)) (fun _ _ _ _ _ => pg_name (i := 7) scMach.nd rfl (Or.inl rfl)) (fun _ _ _ _ _ => pts_nil) (fun _ _ _ _ _ => (pe_call O hr (by rfl) gO FO.kp bO .nil pass0 (pa_cons (pv 0) (pa_cons (pv 8) pa_nil))))) pa_nil)) pa_nil)))))
            (pss_cons (ps_setLc (i := 9) (own := [("_law_at", 7)]) (g := gName 7) (tt := tYes) rfl scMach.nd rfl rfl (sw_true rfl rfl rfl (by decide +kernel)) (pi_range1 (by rfl) T.range (pa_cons (pv 1) pa_nil)) (blkOk_by (N := ["_law_deck_here", "_law_letters", "_law_most", "_law_many", "_law_way", "_law_rows", "_law_state", "_law_at", "_law_further", "_law_items", "_law_item", "_law_often"]) (sc := defScope sMach) (by decide +kernel)) (fun _ _ _ _ _ => pg_name (i := 7) scMach.nd rfl (Or.inl rfl)) (fun _ _ _ _ _ => pts_nil) (fun _ _ _ _ _ => (pe_call D (hr.mono (by decide)) (by rfl) gD FD.kp bD .nil pass0 (pa_cons (pv 0) (pa_cons (pv 3) pa_nil)))))
              (pss_one (ps_expr (pe_bm PySem.F.plainAttrs_list PySem.F.slot_list_append PySem.F.type_list_append mt_append (pv 5) (pa_cons (pe_callTy (r := rTup K) call_tuple_of (by rfl) T.tuple PyProof.Rows.boot_tuple (pa_cons (pe_lc (own := [("_law_item", 10)]) (g := gName 10) (tt := tYes) rfl scMach.nd (pi_list (pv 9)) (blkOk_by (N := ["_law_deck_here", "_law_letters", "_law_most", "_law_many", "_law_way", "_law_rows", "_law_state", "_law_at", "_law_further", "_law_items", "_law_item", "_law_often"]) (sc := defScope sMach) (by decide +kernel)) (fun _ _ _ _ _ => pg_name (i := 10) scMach.nd rfl (Or.inl rfl)) (fun _ _ _ _ _ => pts_nil) (fun _ _ _ _ _ => pe_ifExp (pt_cmpR op_eq (pe_call D (hr.mono (by decide)) (by rfl) gD FD.kp bD .nil pass0 (pa_cons (pv 0) (pa_cons (pe_op op_add pe_int (pv 4)) pa_nil))) pe_int (nomark _)) pe_non (pv 10))) pa_nil)) pa_nil))))))))))
      (pss_cons (ps_set (i := 11) scMach.nd rfl (.inr rfl) (pe_call O hr (by rfl) gO FO.kp bO .nil pass0 (pa_cons (pv 0) (pa_cons (pe_lst (pa_cons pe_int (pa_cons pe_int (pa_cons pe_int (pa_cons pe_int pa_nil))))) pa_nil))))
      (pss_one (ps_ret (pe_tup (pa_cons (pv 1) (pa_cons (pe_callTy (r := rTup K) call_tuple_of (by rfl) T.tuple PyProof.Rows.boot_tuple (pa_cons (pv 5) pa_nil)) (pa_cons (pe_callTy (r := rTup K) call_tuple_of (by rfl) T.tuple PyProof.Rows.boot_tuple (pa_cons (pe_lc (own := [("_law_state", 6)]) (g := gName 6) (tt := tYes) rfl scMach.nd (pi_range1 (by rfl) T.range (pa_cons (pv 3) pa_nil)) (blkOk_by (N := ["_law_deck_here", "_law_letters", "_law_most", "_law_many", "_law_way", "_law_rows", "_law_state", "_law_at", "_law_further", "_law_items", "_law_item", "_law_often"]) (sc := defScope sMach) (by decide +kernel)) (fun _ _ _ _ _ => pg_name (i := 6) scMach.nd rfl (Or.inl rfl)) (fun _ _ _ _ _ => pts_nil) (fun _ _ _ _ _ => pe_cmpR op_eq (pe_call D (hr.mono (by decide)) (by rfl) gD FD.kp bD .nil pass0 (pa_cons (pv 0) (pa_cons (pv 11) pa_nil))) pe_int (nomark _))) pa_nil)) pa_nil)))))))), ?_⟩
    refine ⟨_, rfl, _, rfl, a, c, cells, n, M, rfl, dk, m1, by omega, n0, by omega, fun H1 cells1 r1 r0 rM dk1 k1 => ?_⟩
    refine ⟨1, r1, rfl, rfl, _, rfl, a, c, cells1, n + 1, 5, rfl, dk1, by decide, by decide, by omega, by omega, fun H2 cells2 r2 r20 r25 dk2 k2 => ?_⟩
    refine ⟨Nat.zero_le _, fun R hR => ?_⟩
    have nR := deck_off dk2 hR
    have k12 := k1.trans k2
    have dk3 := deck_new (o := .lst []) dk2 hR
    have k3 := k12.trans (keep_new (B := Bd a c) (o := .lst []) hR)
    have hR3 : upd H2 R (.lst []) R = some (.lst []) := upd_same
    refine ⟨(by show 3 ≤ sizeLine; decide), fun T3 hT => ?_⟩
    have dk4 := deck_new (o := .tup [.int (1 + r1), .int r2, .ref R]) dk3 hT
    have k4 := k3.trans (keep_new (B := Bd a c) (o := .tup [.int (1 + r1), .int r2, .ref R]) hT)
    have hR4 : upd (upd H2 R (.lst [])) T3 (.tup [.int (1 + r1), .int r2, .ref R]) R = some (.lst []) := by
      rw [upd_ne (ne_of_none hR3 hT)]
      exact hR3
    have hT4 : upd (upd H2 R (.lst [])) T3 (.tup [.int (1 + r1), .int r2, .ref R]) T3 = some (.tup [.int (1 + r1), .int r2, .ref R]) := upd_same
    have hR0 : H R = none := by
      cases z : H R with
      | none => rfl
      | some o =>
        rw [k12 _ _ nR z] at hR
        cases hR
    refine ⟨T3, _, rfl, SqT.of hT4, rfl, _, _, rfl, _, _, rfl, _, _, rfl, rfl, ?_⟩
    obtain ⟨m, em⟩ : ∃ m, m = 1 + r1 := ⟨_, rfl⟩
    have hm1 : 1 ≤ m := by omega
    have hmM : m ≤ M := by omega
    have lo62 : ∀ z : Int, 0 ≤ z → z ≤ 10 → -(2 ^ 62) ≤ z ∧ z < 2 ^ 62 := fun z z0 z1 => ⟨by omega, by omega⟩
    refine ⟨_, rfl, m, by rw [em], (lo62 m (by omega) (by omega)).1, (lo62 m (by omega) (by omega)).2, ?_⟩
    refine for_range (lo := 0) (n := m.toNat) (fun i σ H' => (∃ y6 y8 y9, σ = [some (.ref a), some (.int L), some (.int M), some (.int m), some (.int r2), some (.ref R), y6, none, y8, y9, none, none]) ∧ MInv K a c R H L m (n + 2) i H')
      ⟨⟨none, none, none, by rw [em]; rfl⟩, cells2, n + 1 + 1, [], [], dk4, by omega, by omega, k4, hR4, .nil, rfl, fun r z => absurd z List.not_mem_nil⟩ ?_ ?_
    · rintro i σ H5 hi ⟨⟨y6, y8, y9, rfl⟩, cells5, n5, rvs, rds, dk5, hn5, hn5', k5, hR5, hd5, hl5, hr5⟩
      have hi10 : i < 10 := by omega
      -- what each of the three ways has at its end
      have stp : ∀ (y8' y9' : Option V) (H6 : Hp) (cells6 : List Int) (n6 : Int) (acc : List V) (q : Addr), Keep (Bd a c) H5 H6 → DeckAt a c cells6 n6 H6 → n5 ≤ n6 → n6 ≤ n5 + 6 → (∀ v ∈ acc, Gi m v) → (acc.length : Int) = L → H6 q = none →
          ∃ rvs', (upd H6 q (.tup acc)) R = some (.lst rvs') ∧ rvs'.length < sizeLine ∧ ((∃ y6 y8 y9, [some (V.ref a), some (.int L), some (.int M), some (.int m), some (.int r2), some (.ref R), some (.int (0 + i)), none, y8', y9', none, none] = [some (V.ref a), some (.int L), some (.int M), some (.int m), some (.int r2), some (.ref R), y6, none, y8, y9, none, none]) ∧ MInv K a c R H L m (n + 2) (i + 1) (upd (upd H6 q (.tup acc)) R (.lst (rvs' ++ [.ref q])))) := by
        intro y8' y9' H6 cells6 n6 acc q k6 dk6 h1 h2 hG hL hq
        obtain ⟨rvs', e1, e2, e3⟩ := mstep hR0 nR (by omega) hn5 hn5' k5 hR5 hd5 hl5 hr5 k6 dk6 h1 h2 hG hL hq
        exact ⟨rvs', e1, e2, ⟨_, _, _, rfl⟩, e3⟩
      refine ⟨_, rfl, rfl, _, rfl, ite2 (fun hw0 => ?_) (fun hw0 => ?_)⟩
      · -- a ring
        refine ⟨.ref R, rfl, .inl ⟨rfl, _, SqL.of hR5⟩, ?_⟩
        refine ⟨_, rfl, L, rfl, (lo62 L (by omega) (by omega)).1, (lo62 L (by omega) (by omega)).2, fun D hD => ?_⟩
        have nD := deck_off dk5 hD
        refine lc_range (lo := 0) (n := L.toNat) (CInv a c D H5 (Gi m) n5 0) (cstart dk5 hD) ?_ ?_
        · rintro j H6 hj ⟨cells6, n6, acc, dk6, h1, h2, k6, hD6, hl6, hG6⟩
          refine ⟨rfl, _, rfl, _, 1, rfl, rfl, .inl ⟨_, rfl, _, rfl, _, m, rfl, rfl, by omega, ?_⟩⟩
          exact cstep hD nD (by omega) h1 h2 k6 hD6 hl6 hG6 dk6 (Int.le_refl _) (by omega) Keep.rfl' (.inr ⟨_, rfl, Int.emod_nonneg _ (by omega), Int.emod_lt_of_pos _ (by omega)⟩)
        · rintro H6 ⟨cells6, n6, acc, dk6, h1, h2, k6, hD6, hl6, hG6⟩
          refine ⟨D, acc, rfl, .inl ⟨SqL.of hD6, fun q hq => ?_⟩⟩
          obtain ⟨rvs', e1, e2, e3⟩ := stp y8 y9 H6 cells6 n6 acc q k6 dk6 h1 (by omega) hG6 (by rw [hl6]; omega) hq
          exact ⟨R, _, _, rfl, rfl, e1, e2, e3⟩
      · refine ⟨_, rfl, rfl, _, rfl, ite2 (fun hw1 => ?_) (fun hw1 => ?_)⟩
        · -- a row of states
          refine ⟨_, rfl, _, 1, rfl, rfl, _, rfl, _, m, rfl, rfl, _, rfl, ite2 (fun hlt => ?_) (fun hlt => ?_)⟩
          · have hlt := of_decide_eq_true hlt
            refine ⟨_, rfl, _, 1, rfl, rfl, _, rfl, (by show 3 ≤ sizeLine; decide), fun Fu hFu => ?_⟩
            have g0 : Gi m (.int (0 + i + 1)) := .inr ⟨_, rfl, by omega, by omega⟩
            have g1 : Gi m (.int (0 + i)) := .inr ⟨_, rfl, by omega, by omega⟩
            have dkF := deck_new (o := .lst [V.int (0 + i + 1), .int (0 + i), .non]) dk5 hFu
            have nF := deck_off dk5 hFu
            have kF : Keep (Bd a c) H5 (upd H5 Fu (.lst [V.int (0 + i + 1), .int (0 + i), .non])) := keep_new hFu
            have hRF := kF _ _ nR hR5
            have hFF : upd H5 Fu (.lst [V.int (0 + i + 1), .int (0 + i), .non]) Fu = some (.lst [V.int (0 + i + 1), .int (0 + i), .non]) := upd_same
            have gF : ∀ x ∈ [V.int (0 + i + 1), V.int (0 + i), V.non], Gi m x := fun x hx => by
              rcases List.mem_cons.mp hx with hx | hx
              · rw [hx]
                exact g0
              · rcases List.mem_cons.mp hx with hx | hx
                · rw [hx]
                  exact g1
                · rw [List.mem_singleton.mp hx]
                  exact .inl rfl
            refine ⟨.ref R, rfl, .inl ⟨rfl, _, SqL.of hRF⟩, ?_⟩
            refine ⟨_, rfl, L, rfl, (lo62 L (by omega) (by omega)).1, (lo62 L (by omega) (by omega)).2, fun D hD => ?_⟩
            have nD := deck_off dkF hD
            refine lc_range (lo := 0) (n := L.toNat) (CInv a c D (upd H5 Fu (.lst [V.int (0 + i + 1), .int (0 + i), .non])) (Gi m) n5 1) (cstart dkF hD) ?_ ?_
            · rintro j H6 hj ⟨cells6, n6, acc, dk6, h1, h2, k6, hD6, hl6, hG6⟩
              refine ⟨rfl, _, rfl, _, rfl, a, c, Fu, cells6, n6, _, rfl, dk6, by omega, by omega, SqL.of (k6 _ _ nF hFF), nF, List.cons_ne_nil _ _, (by show 3 ≤ 1000; decide), fun H7 cells7 x hx dk7 k7 => ?_⟩
              exact cstep hD nD (by omega) h1 h2 k6 hD6 hl6 hG6 dk7 (by omega) (by omega) k7 (gF x hx)
            · rintro H6 ⟨cells6, n6, acc, dk6, h1, h2, k6, hD6, hl6, hG6⟩
              refine ⟨D, acc, rfl, .inl ⟨SqL.of hD6, fun q hq => ?_⟩⟩
              obtain ⟨rvs', e1, e2, e3⟩ := stp (some (.ref Fu)) y9 H6 cells6 n6 acc q (kF.trans k6) dk6 h1 (by omega) hG6 (by rw [hl6]; omega) hq
              exact ⟨R, _, _, rfl, rfl, e1, e2, e3⟩
          · refine ⟨_, rfl, (by show 3 ≤ sizeLine; decide), fun Fu hFu => ?_⟩
            have g0 : Gi m .non := .inl rfl
            have g1 : Gi m (.int (0 + i)) := .inr ⟨_, rfl, by omega, by omega⟩
            have dkF := deck_new (o := .lst [V.non, .int (0 + i), .non]) dk5 hFu
            have nF := deck_off dk5 hFu
            have kF : Keep (Bd a c) H5 (upd H5 Fu (.lst [V.non, .int (0 + i), .non])) := keep_new hFu
            have hRF := kF _ _ nR hR5
            have hFF : upd H5 Fu (.lst [V.non, .int (0 + i), .non]) Fu = some (.lst [V.non, .int (0 + i), .non]) := upd_same
            have gF : ∀ x ∈ [V.non, V.int (0 + i), V.non], Gi m x := fun x hx => by
              rcases List.mem_cons.mp hx with hx | hx
              · rw [hx]
                exact g0
              · rcases List.mem_cons.mp hx with hx | hx
                · rw [hx]
                  exact g1
                · rw [List.mem_singleton.mp hx]
                  exact .inl rfl
            refine ⟨.ref R, rfl, .inl ⟨rfl, _, SqL.of hRF⟩, ?_⟩
            refine ⟨_, rfl, L, rfl, (lo62 L (by omega) (by omega)).1, (lo62 L (by omega) (by omega)).2, fun D hD => ?_⟩
            have nD := deck_off dkF hD
            refine lc_range (lo := 0) (n := L.toNat) (CInv a c D (upd H5 Fu (.lst [V.non, .int (0 + i), .non])) (Gi m) n5 1) (cstart dkF hD) ?_ ?_
            · rintro j H6 hj ⟨cells6, n6, acc, dk6, h1, h2, k6, hD6, hl6, hG6⟩
              refine ⟨rfl, _, rfl, _, rfl, a, c, Fu, cells6, n6, _, rfl, dk6, by omega, by omega, SqL.of (k6 _ _ nF hFF), nF, List.cons_ne_nil _ _, (by show 3 ≤ 1000; decide), fun H7 cells7 x hx dk7 k7 => ?_⟩
              exact cstep hD nD (by omega) h1 h2 k6 hD6 hl6 hG6 dk7 (by omega) (by omega) k7 (gF x hx)
            · rintro H6 ⟨cells6, n6, acc, dk6, h1, h2, k6, hD6, hl6, hG6⟩
              refine ⟨D, acc, rfl, .inl ⟨SqL.of hD6, fun q hq => ?_⟩⟩
              obtain ⟨rvs', e1, e2, e3⟩ := stp (some (.ref Fu)) y9 H6 cells6 n6 acc q (kF.trans k6) dk6 h1 (by omega) hG6 (by rw [hl6]; omega) hq
              exact ⟨R, _, _, rfl, rfl, e1, e2, e3⟩
        · -- drawn items
          refine ⟨_, rfl, L, rfl, (lo62 L (by omega) (by omega)).1, (lo62 L (by omega) (by omega)).2, fun D hD => ?_⟩
          have nD := deck_off dk5 hD
          refine lc_range (lo := 0) (n := L.toNat) (CInv a c D H5 (Gi m) n5 1) (cstart dk5 hD) ?_ ?_
          · rintro j H6 hj ⟨cells6, n6, acc, dk6, h1, h2, k6, hD6, hl6, hG6⟩
            refine ⟨rfl, _, rfl, _, rfl, a, c, cells6, n6, m, rfl, dk6, hm1, by omega, by omega, by omega, fun H7 cells7 r r0 rm dk7 k7 => ?_⟩
            exact cstep hD nD (by omega) h1 h2 k6 hD6 hl6 hG6 dk7 (by omega) (by omega) k7 (.inr ⟨r, rfl, r0, rm⟩)
          · rintro H6 ⟨cells6, n6, acc, dk6, h1, h2, k6, hD6, hl6, hG6⟩
            have hR6 := k6 _ _ nR hR5
            refine ⟨.ref R, rfl, .inl ⟨rfl, _, SqL.of hR6⟩, ?_⟩
            refine ⟨_, rfl, D, rfl, ⟨_, SqL.of hD6⟩, fun D2 hD2 => ?_⟩
            have nD2 := deck_off dk6 hD2
            refine lc_list (K := K) (a := D) (xs := acc) (CInv a c D2 H6 (Gi m) n6 1) (cstart dk6 hD2) (fun j H7 _ p => ?_) ?_ ?_
            · obtain ⟨_, _, _, _, _, _, k7, _⟩ := p
              exact SqL.of (k7 _ _ nD hD6)
            · rintro j y H7 hy ⟨cells7, n7, acc7, dk7, h3, h4, k7, hD7, hl7, hG7⟩
              have hj := (List.getElem?_eq_some_iff.mp hy).1
              refine ⟨rfl, _, rfl, _, rfl, 3, r2, rfl, rfl, a, c, cells7, n7, 3 + r2, rfl, dk7, by omega, by omega, by omega, by omega, fun H8 cells8 r r0 rm dk8 k8 => ?_⟩
              refine ⟨rfl, _, rfl, ite2 (fun _ => ?_) (fun _ => ?_)⟩
              · exact cstep hD2 nD2 (by omega) h3 h4 k7 hD7 hl7 hG7 dk8 (by omega) (by omega) k8 (.inl rfl)
              · exact ⟨y, rfl, cstep hD2 nD2 (by omega) h3 h4 k7 hD7 hl7 hG7 dk8 (by omega) (by omega) k8 (hG6 y (List.mem_of_getElem? hy))⟩
            · rintro H7 ⟨cells7, n7, acc7, dk7, h3, h4, k7, hD7, hl7, hG7⟩
              refine ⟨D2, acc7, rfl, .inl ⟨SqL.of hD7, fun q hq => ?_⟩⟩
              obtain ⟨rvs', e1, e2, e3⟩ := stp y8 (some (.ref D)) H7 cells7 n7 acc7 q (k6.trans k7) dk7 (by omega) (by omega) hG7 (by rw [hl7, hl6]; omega) hq
              exact ⟨R, _, _, rfl, rfl, e1, e2, e3⟩
    · rintro σ H5 ⟨⟨y6, y8, y9, rfl⟩, cells5, n5, rvs, rds, dk5, hn5, hn5', k5, hR5, hd5, hl5, hr5⟩
      have hml : (rds.length : Int) = m := by omega
      refine ⟨_, rfl, (by show 4 ≤ sizeLine; decide), fun O4 hO4 => ?_⟩
      have dkO := deck_new (o := .lst [.int 2, .int 2, .int 3, .int 5]) dk5 hO4
      have kO : Keep (Bd a c) H5 (upd H5 O4 (.lst [.int 2, .int 2, .int 3, .int 5])) := keep_new hO4
      refine ⟨a, c, O4, cells5, n5, _, rfl, dkO, by omega, by omega, SqL.of upd_same, deck_off dk5 hO4, List.cons_ne_nil _ _, (by show 4 ≤ 1000; decide), fun H6 cells6 x hx dk6 k6 => ?_⟩
      obtain ⟨o, rfl, ho1, ho5⟩ : ∃ o : Int, x = .int o ∧ 1 ≤ o ∧ o ≤ 5 := by
        simp only [List.mem_cons, List.not_mem_nil, or_false] at hx
        rcases hx with hx | hx | hx | hx <;> exact ⟨_, hx, by decide, by decide⟩
      have k56 := kO.trans k6
      have hR6 := k56 _ _ nR hR5
      refine ⟨_, rfl, _, rfl, R, rvs, rfl, .inl ⟨SqL.of hR6, fun pr hpr => ?_⟩⟩
      have dk7 := deck_new (o := .tup rvs) dk6 hpr
      have k67 : Keep (Bd a c) H6 (upd H6 pr (.tup rvs)) := keep_new hpr
      have hpr7 : upd H6 pr (.tup rvs) pr = some (.tup rvs) := upd_same
      refine ⟨_, rfl, m, rfl, (lo62 m (by omega) (by omega)).1, (lo62 m (by omega) (by omega)).2, fun D hD => ?_⟩
      have nD := deck_off dk7 hD
      refine lc_range (lo := 0) (n := m.toNat) (CInv a c D (upd H6 pr (.tup rvs)) Gb (n5 + 1) 1) (cstart dk7 hD) ?_ ?_
      · rintro j H8 hj ⟨cells8, n8, acc8, dk8, h1, h2, k8, hD8, hl8, hG8⟩
        refine ⟨rfl, _, rfl, _, rfl, a, c, cells8, n8, o, rfl, dk8, ho1, by omega, by omega, by omega, fun H9 cells9 r r0 rm dk9 k9 => ⟨rfl, ?_⟩⟩
        exact cstep hD nD (by omega) h1 h2 k8 hD8 hl8 hG8 dk9 (by omega) (by omega) k9 ⟨_, rfl⟩
      · rintro H8 ⟨cells8, n8, acc8, dk8, h1, h2, k8, hD8, hl8, hG8⟩
        refine ⟨D, acc8, rfl, .inl ⟨SqL.of hD8, fun pe hpe => ?_⟩⟩
        refine ⟨(by show 3 ≤ sizeLine; decide), fun p hp => ?_⟩
        obtain ⟨eds, ge1, ge2, ge3⟩ := gb_dt hG8
        have dk9 := deck_new (o := .tup acc8) dk8 hpe
        have k89 : Keep (Bd a c) H8 (upd H8 pe (.tup acc8)) := keep_new hpe
        have hpe9 : upd H8 pe (.tup acc8) pe = some (.tup acc8) := upd_same
        have dk10 := deck_new (o := .tup [.int L, .ref pr, .ref pe]) dk9 hp
        have k910 : Keep (Bd a c) (upd H8 pe (.tup acc8)) (upd (upd H8 pe (.tup acc8)) p (.tup [.int L, .ref pr, .ref pe])) := keep_new hp
        have hp10 : upd (upd H8 pe (.tup acc8)) p (.tup [.int L, .ref pr, .ref pe]) p = some (.tup [.int L, .ref pr, .ref pe]) := upd_same
        have k710 := k8.trans (k89.trans k910)
        have k510 := k56.trans (k67.trans k710)
        have npr := deck_off dk6 hpr
        have npe := deck_off dk8 hpe
        refine k _ cells8 n8 _ rds eds dk10 (by omega) (by omega) (k5.trans k510) ⟨.tup (deck_off dk9 hp) (.inl hp10) (.cons (.int L) (.cons (.tup npr (.inl (k710 _ _ npr hpr7)) ?_) (.cons (.tup npe (.inl (k910 _ _ npe hpe9)) (ge1 _ _ _)) .nil))), by omega, by omega, by omega, fun r hr2 => ?_, ge3⟩
        · exact DtAll.keep k510 _ _ (DtAll.weak (fun b hb => .inl hb) _ _ hd5)
        · rw [hml]
          exact hr5 r hr2
end
section
variable {X : Cx}
/-- t + u, some tuple of both -/
def rCatS (K : PySem.W.Frag) : R2 := fun x y H Q => ∃ a b xs ys, x = .ref a ∧ y = .ref b ∧ Rd H a (.tup xs) ∧ Rd H b (.tup ys) ∧ xs.length + ys.length ≤ sizeLine ∧ ∀ q H', Same H H' → Rd H' q (.tup (xs ++ ys)) → (q = a ∨ q = b ∨ H q = none) → Q (.ref q) H'
theorem op_catS : OpR X (binaryOp .Add) (rCatS X.K) := by
  intro pins s σ H x y v u Q I rx ry h
  obtain ⟨a, b, xs, ys, rfl, rfl, hx, hy, hz, q⟩ := h
  refine op_catA pins s σ H _ _ v u Q I rx ry ⟨a, b, xs, ys, rfl, rfl, .inl hx, .inl hy, hz, fun e => ?_, fun _ e => ?_, fun _ _ p hp => ?_⟩
  · subst e
    exact q b H (Same.refl H) hy (.inr (.inl rfl))
  · subst e
    refine q a H (Same.refl H) ?_ (.inl rfl)
    rw [List.append_nil]
    exact hx
  · exact q p _ (same_new hp) (.inl upd_same) (.inr (.inr hp))
end
mutual
def sm : PyData → Bool
  | .none => true
  | .bool _ => true
  | .int i => decide (i.natAbs ≤ 10 ^ 30)
  | .str x => decide ((reprText x).length ≤ 20)
  | .list xs => smAll xs
  | .tuple xs => smAll xs
  | .dict kvs => kvs.isEmpty
def smAll : List PyData → Bool
  | [] => true
  | x :: xs => sm x && smAll xs
end
/-- all of B is tracked -/
def TB (B : Addr → Prop) (H : Hp) : Prop := ∀ b, B b → H b ≠ none
theorem tb_off {B : Addr → Prop} {H : Hp} {p : Addr} (tb : TB B H) (n : H p = none) : ¬ B p := fun z => tb p z n
theorem tb_same {B : Addr → Prop} {H H' : Hp} (s : Same H H') (tb : TB B H) : TB B H' := fun b z e => by
  cases q : H b with
  | none => exact tb b z q
  | some o =>
    rw [s b o q] at e
    cases e
theorem same_rd {H H' : Hp} {a : Addr} {o : HO} (s : Same H H') (h : Rd H a o) : Rd H' a o := Keep.rd (B := fun _ => False) (Keep.same s) (fun z => z) h
theorem sz_of {n : Nat} (h : n ≤ 100000) : n ≤ sizeLine := Nat.le_trans h (by decide)
theorem nb_of {B : Addr → Prop} {p q : Addr} {H : Hp} (tb : TB B H) (np : ¬ B p) (h : q = p ∨ H q = none) : ¬ B q := by
  rcases h with h | h
  · rw [h]
    exact np
  · exact tb_off tb h
theorem nb_of2 {B : Addr → Prop} {p r q : Addr} {H : Hp} (tb : TB B H) (np : ¬ B p) (nr : ¬ B r) (h : q = p ∨ q = r ∨ H q = none) : ¬ B q := by
  rcases h with h | h | h
  · rw [h]
    exact np
  · rw [h]
    exact nr
  · exact tb_off tb h
theorem same_all {B : Addr → Prop} {K : PySem.W.Frag} {H H' : Hp} {vs : List V} {ds : List PyData} (s : Same H H') (h : DtAll B K H vs ds) : DtAll B K H' vs ds := DtAll.keep (Keep.same s) _ _ h
section
variable {X : Cx}
theorem mul_one (l : Addr) (items : Array Value) (n : Nat) (dd : Option Addr) (sl : Array (Option Value)) (u : Tok) :
    Meets (Builtin.«tuple.__mul__» ⟨[.ref l, .int 1 u], []⟩) (fun _ R s => s.heap.get? l = some { cls := .type "tuple", dict := dd, data := .seq items n, slots := sl } ∧ R (.ok (.ret (Value.ref l))) s) :=
  .of_wp fun prog w A R s h => by
    obtain ⟨hp, g, d, tk, os⟩ := s
    obtain ⟨hl, h⟩ := h
    have f1 := AutoSeq1.idx_int
    wp_walk using wpAny_loadPart' hl
    exact ⟨_, rfl, h⟩
def rRep1 (K : PySem.W.Frag) : R2 := fun x y H Q => ∃ l xs, x = .ref l ∧ y = .int 1 ∧ SqT K H l xs ∧ Q (.ref l) H
theorem op_rep1 : OpR X (binaryOp .Mult) (rRep1 X.K) := by
  intro pins s σ H x y v u Q I rx ry h
  obtain ⟨l, xs, rfl, rfl, hT, q⟩ := h
  cases rx
  obtain ⟨t, rfl⟩ := ry
  obtain ⟨its, r, ⟨⟨cls, dd, data, sl⟩, ho, hc, n, hd⟩, _⟩ := I.tuple hT
  cases hc
  cases hd
  exact wpAny_binaryOp_repeat_ref (T := "tuple") (U := "int") (by decide) ⟨_, ho, rfl⟩ (fun s' => typeIs_int s' 1 t) noFill_tuple_mul F.fills_int_mul F.slot_int_rmul repeat_tuple F.slot_int_index.lookup
    (call_meets F.slot_int_rmul (typeIs_int s 1 t) F.entry_int_rmul (F.args_int_rmul_2 _ _) (int_rmul_tuple 1 t l its.toArray n dd sl)
      ⟨ho, rfl, ⟨_, ho, rfl⟩, call_meets F.slot_tuple_mul ⟨_, ho, rfl⟩ F.entry_tuple_mul (F.args_tuple_mul_2 _ _) (mul_one l its.toArray n dd sl t) ⟨ho, .ref l, H, I, rfl, q⟩⟩)
/-- t * k for a small k from 1 on -/
def rRepS (K : PySem.W.Frag) : R2 := fun x y H Q => ∃ l k xs, x = .ref l ∧ y = .int k ∧ Rd H l (.tup xs) ∧ xs ≠ [] ∧ 1 ≤ k ∧ k ≤ 1000 ∧ xs.length ≤ 1000 ∧ ∀ q H', Same H H' → Rd H' q (.tup (List.replicate k.toNat xs).flatten) → (q = l ∨ H q = none) → Q (.ref q) H'
theorem op_repS : OpR X (binaryOp .Mult) (rRepS X.K) := by
  intro pins s σ H x y v u Q I rx ry h
  obtain ⟨l, k, xs, rfl, rfl, hT, hne, k1, k2, hz, q⟩ := h
  by_cases e : k = 1
  · subst e
    refine op_rep1 pins s σ H _ _ v u Q I rx ry ⟨l, xs, rfl, rfl, .inl hT, q l H (Same.refl H) ?_ (.inl rfl)⟩
    rw [show (List.replicate (1 : Int).toNat xs).flatten = xs by simp]
    exact hT
  · exact op_repT pins s σ H _ _ v u Q I rx ry ⟨l, k, xs, rfl, rfl, .inl hT, hne, by omega, k2, hz, fun p hp => q p _ (same_new hp) (.inl upd_same) (.inr hp)⟩
end
abbrev Rows := List (List (Option Nat))
inductive Reach (rs : Rows) : Nat → Prop
  | z : Reach rs 0
  | s {u v l : Nat} {row : List (Option Nat)} : Reach rs u → rs[u]? = some row → row[l]? = some (some v) → Reach rs v
/-- more turns than a list has items: one comes twice -/
theorem pigeon (L : List Nat) : ∀ (c : Nat → Nat), (∀ k, k ≤ L.length → c k ∈ L) → ∃ a b, a < b ∧ b ≤ L.length ∧ c a = c b := by
  suffices H : ∀ (n : Nat) (L : List Nat) (c : Nat → Nat), L.length ≤ n → (∀ k, k ≤ n → c k ∈ L) → ∃ a b, a < b ∧ b ≤ n ∧ c a = c b from fun c h => H L.length L c (Nat.le_refl _) h
  intro n
  induction n with
  | zero =>
    intro L c hl h
    have := h 0 (Nat.le_refl _)
    cases L with
    | nil => exact absurd this List.not_mem_nil
    | cons x xs => simp at hl
  | succ n ih =>
    intro L c hl h
    by_cases e : ∃ k, k ≤ n ∧ c k = c (n + 1)
    · obtain ⟨k, h1, h2⟩ := e
      exact ⟨k, n + 1, by omega, Nat.le_refl _, h2⟩
    · have hm := h (n + 1) (Nat.le_refl _)
      obtain ⟨a, b, h1, h2, h3⟩ := ih (L.erase (c (n + 1))) c (by rw [List.length_erase_of_mem hm]; omega) (fun k hk => by
        have h4 : c k ≠ c (n + 1) := fun z => e ⟨k, hk, z⟩
        exact (List.mem_erase_of_ne h4).mpr (h k (by omega)))
      exact ⟨a, b, h1, by omega, h3⟩
/-- the states that words come to, in some order -/
structure IsOrd (rs : Rows) (ord : List Nat) : Prop where
  mem : ∀ u, u ∈ ord ↔ Reach rs u
  lt : ∀ u ∈ ord, u < rs.length
  len : ord.length ≤ rs.length
  nd : ord.Nodup
def rsLong (n : Nat) (ring : Bool) : Rows := (List.range (n - 1)).map (fun i => [some (i + 1)]) ++ [[if ring then some 0 else none]]
def esLong (n : Nat) : List Bool := List.replicate (n - 1) false ++ [true]
abbrev tupIt (l : Addr) : Obj := { cls := .type "tuple_iterator", data := .fields #[.ref l, .int 0 0] }
abbrev enumOb (i : Addr) : Obj := { cls := .type "enumerate", data := .fields #[.none, .bool false, .ref i, rawInt 0, .none, .none] }
theorem enum_tup_new (l : Addr) (xs : Array Value) (n : Nat) (y : Option Addr) (sl : Array (Option Value)) :
    Meets (Builtin.«enumerate.__new__» ⟨[.type "enumerate", .ref l], []⟩) (fun _ R s => s.heap.get? l = some { cls := .type "tuple", dict := y, data := .seq xs n, slots := sl } ∧
      R (.ok (.ret (.ref (s.heap.push (tupIt l)).objs.size))) { s with heap := (s.heap.push (tupIt l)).push (enumOb s.heap.objs.size) }) := by
  refine .of_wp fun prog w A R s h => ?_
  cases s
  have k1 := h.1
  have k2 := h.2
  have k3 := sub_enumerate
  have k4 : Heap.IsTuple _ l xs := ⟨_, k1, rfl, n, rfl⟩
  wp_walk using AutoSeq1.wpAny_loadPart' k1
  refine wpAny_stack_any fun st => wpAny_pure ?_
  split
  · rename_i c _ _ _ _ _
    cases (c == Value.type "enumerate") <;> (wp_walk using AutoSeq1.wpAny_loadPart' k1, wpAny_pyIter_tuple k4 <;> exact ⟨_, rfl, k2⟩)
  · wp_walk using AutoSeq1.wpAny_loadPart' k1, wpAny_pyIter_tuple k4
    exact ⟨_, rfl, k2⟩
section
variable {prog : Program} {w : World} {A : Around} {E : Value → Shared → Prop} {s : Shared}
theorem call_enum_tup {l : Addr} {xs : Array Value} {Q : Value → Shared → Prop} (hl : s.heap.IsTuple l xs)
    (fin : ∀ h2, IsEnum h2 (s.heap.objs.size + 1) s.heap.objs.size 0 .none → h2.IsTupleIter s.heap.objs.size l 0 → (∀ b o, s.heap.get? b = some o → h2.get? b = some o) → Q (.ref (s.heap.objs.size + 1)) { s with heap := h2 }) :
    wpAny (model prog w) A (call (.type "enumerate") [.ref l]) Q E s := by
  obtain ⟨⟨c, y, data, sl⟩, ho, hc, n, hd⟩ := hl
  simp only at hc hd
  cases hc
  cases hd
  have e1 : (s.heap.push (tupIt l)).objs.size = s.heap.objs.size + 1 := Heap.size_push ..
  have e2 : ((s.heap.push (tupIt l)).push (enumOb s.heap.objs.size)).get? (s.heap.objs.size + 1) = some (enumOb s.heap.objs.size) := by
    rw [← e1]
    exact Heap.get?_push_size _ rfl
  refine callType_new F.called_enumerate (by decide) (F.typeCall_enumerate_1 _) (F.newCall_enumerate_1 _) (fun obj => F.args_object_init_2 obj _) F.entry_enumerate_new (enum_tup_new l xs n y sl) ⟨ho, ?_⟩
  rw [e1]
  exact ⟨⟨_, e2, rfl⟩, fin _ e2 ⟨_, Heap.get?_push_of_some _ (Heap.get?_push_size _ rfl), rfl, rfl⟩ fun b o q => Heap.get?_push_of_some _ (Heap.get?_push_of_some _ q)⟩
end
/-- the tuple at a, each item in a new pair behind its number -/
def ItT (K : PySem.W.Frag) (a : Addr) : It :=
  ⟨fun i H => ∃ (xs : List V) (x : V), SqT K H a xs ∧ xs[i]? = some x,
    fun i H v H' => ∃ T x, v = .ref T ∧ H T = none ∧ H' = upd H T (.tup [.int (i : Nat), x]) ∧ ∀ xs, SqT K H a xs → xs[i]? = some x,
    fun i H => ∃ xs : List V, SqT K H a xs ∧ xs.length ≤ i⟩
theorem turn_enumT {P : Program} {w : World} {K : PySem.W.Frag} {elts : List Expr} {kk : Nat} {tpos : Pos} (a e it : Addr) :
    Turn P w K (.Tuple elts kk tpos) (ItT K a) [e, it] e (fun i h => (∃ old, IsEnum h e it ((i : Nat) : Int) old) ∧ h.IsTupleIter it a i ∧ e ≠ it) where
  mem := List.mem_cons_self
  obj := fun i h st b hb => by
    obtain ⟨⟨old, he⟩, ⟨o, ho, hc, hd⟩, _⟩ := st
    rcases List.mem_cons.mp hb with z | z
    · subst z
      exact ⟨_, he, fun v q => nomatch q⟩
    · rw [List.mem_singleton.mp z]
      refine ⟨o, ho, fun v q => ?_⟩
      rw [hd] at q
      cases q
  keep := fun i h h2 st k => ⟨st.1.imp fun old he => k e List.mem_cons_self _ he, st.2.1.at fun o q => k it (List.mem_cons_of_mem _ (List.mem_singleton.mpr rfl)) o q, st.2.2⟩
  item := by
    intro X hP hw hK hc i pins s σ H E I hf st hg
    cases hP
    cases hw
    cases hK
    obtain ⟨⟨old, he⟩, hit, hne⟩ := st
    obtain ⟨xs, x, hq, hx⟩ := hg
    obtain ⟨its, rv, p, hz⟩ := I.tuple hq
    obtain ⟨u, hu, ru⟩ := rv.get hx
    have lt1 : e < s.heap.objs.size := Heap.lt_size he
    have lt2 : it < s.heap.objs.size := by
      obtain ⟨_, q, _⟩ := id hit
      exact Heap.lt_size q
    have pT : s.heap.IsTuple a its.toArray := p
    have nea : e ≠ a := fun z => by
      obtain ⟨o, q1, q2, _⟩ := id pT
      rw [← z] at q1
      cases (he.symm.trans q1)
      exact absurd (Value.type.inj q2) (by decide)
    have nia : a ≠ it := fun z => by
      obtain ⟨o, q1, q2, _⟩ := id pT
      obtain ⟨o2, q3, q4, _⟩ := id hit
      rw [z] at q1
      cases (q1.symm.trans q3)
      rw [q2] at q4
      exact absurd (Value.type.inj q4) (by decide)
    have no : e ∉ [it, a] := fun z => by
      rcases List.mem_cons.mp z with z | z
      · exact hne z
      · exact nea (List.mem_singleton.mp z)
    have hlt : i < its.toArray.size := by
      rw [List.size_toArray, ← rv.length]
      exact (List.getElem?_eq_some_iff.mp hx).1
    refine wpAny_pyNext_enum_itemD (Draws.tuple (by rw [show X.A.in1.handled = X.A.handled from rfl]; exact I.ok.hd hc) it a nia its.toArray) he ⟨hit, pT⟩ hlt hne no fun v h2 tk hv ho st2 hT hsz hk => ?_
    have ev : v = u := by
      have q1 : its.toArray[i]? = some u := by simpa using hu
      rw [q1] at hv
      exact (Option.some.inj hv).symm
    cases ev
    refine ⟨_, rfl, wpAny_letOwnedTupleGo_enum (s := { s with heap := h2, toks := tk + 1 }) ho fun h3 he3 sb => ?_⟩
    have hT3 : h3.get? s.heap.objs.size = some { cls := .type "tuple", data := .seq #[.int i tk, u] } := (sb.2 _ (Nat.ne_of_gt lt1)).trans hT
    have new : ObjOk X.prog X.w (upd H s.heap.objs.size (.tup [.int (i : Nat), x])) h3 s.heap.objs.size (.tup [.int (i : Nat), x]) := ⟨by show 2 ≤ sizeLine; decide, [.int i tk, u], .cons ⟨_, rfl⟩ (.cons ru .nil), ⟨_, hT3, rfl, _, rfl⟩⟩
    have mem1 : ∀ {b : Addr}, b ∉ [e, it] → b ≠ e ∧ b ≠ it := fun h => ⟨fun z => h (z ▸ List.mem_cons_self), fun z => h (z ▸ List.mem_cons_of_mem _ (List.mem_singleton.mpr rfl))⟩
    have I1 : Inv X pins σ (upd H s.heap.objs.size (.tup [.int (i : Nat), x])) { s with heap := h3, toks := tk + 1 } :=
      I.turnedNew (ch := [e, it]) (fun b ob hb q => (sb.2 b (mem1 hb).1).trans (hk b ob (mem1 hb).1 (mem1 hb).2 q)) hf (Nat.le_refl _) new
    refine ⟨.ref s.heap.objs.size, _, I1, rfl, ⟨_, x, rfl, I.hok.fresh (Nat.le_refl _), rfl, fun ys hy => by rw [I.tuple_inj hy hq]; exact hx⟩, ⟨⟨u, ?_⟩, st2.1.at fun o q => (sb.2 it (Ne.symm hne)).trans q, hne⟩, fun b hb => ?_⟩
    · rw [show ((i + 1 : Nat) : Int) = (i : Int) + 1 from by omega]
      exact he3
    · rw [upd_ne]
      · exact (hf b hb).1
      · rcases List.mem_cons.mp hb with z | z
        · rw [z]
          exact Nat.ne_of_lt lt1
        · rw [List.mem_singleton.mp z]
          exact Nat.ne_of_lt lt2
  done := by
    intro X hP hw hK hc i pins s σ H E I hf st hg
    cases hP
    cases hw
    cases hK
    obtain ⟨⟨old, he⟩, hit, hne⟩ := st
    obtain ⟨xs, hq, hx⟩ := hg
    obtain ⟨its, rv, p, hz⟩ := I.tuple hq
    obtain ⟨f0, f1, f2, f3, f4, f5⟩ := hf it (List.mem_cons_of_mem _ (List.mem_singleton.mpr rfl))
    have pT : s.heap.IsTuple a its.toArray := p
    have hl := rv.length
    have D : Draws X.prog X.w X.A.in1 it [it, a] i (fun _ _ => False) (fun j h => j = i ∧ h.IsTupleIter it a i ∧ h.IsTuple a its.toArray) := {
      live := fun _ _ st => let ⟨o, ho, _⟩ := st.2.1; ⟨o, ho⟩
      frame := fun _ _ _ st hk => ⟨st.1, st.2.1.at fun o e => hk it List.mem_cons_self o e, st.2.2.at fun o e => hk a (List.mem_cons_of_mem _ (List.mem_singleton.mpr rfl)) o e⟩
      item := fun j s Q E hj st _ => absurd st.1 (Nat.ne_of_lt hj)
      done := fun s Q E st hE => wpAny_nextOf_tuple_end (I.ok.hd hc) st.2.1 st.2.2 (by rw [List.getElem?_toArray]; exact List.getElem?_eq_none (by omega)) hE }
    exact wpAny_pyNext_enum_endD D he ⟨rfl, hit, pT⟩ fun h2 eb => ⟨rfl, I.turned (t' := s.toks) (fun b o hb q => eb b o hb q) f0 f1 f3 f4 f5⟩
  self := fun A i s Q E st h => wpAny_pyIter_enum st.1.choose_spec h
theorem walk_enumT {K : PySem.W.Frag} {a : Addr} {xs : List V} : Walk (ItT K a) xs.length (fun H => SqT K H a xs) (YPair (fun i => some (.int (i : Nat))) (fun i => xs[i]?)) := by
  refine ⟨fun i _ hi q => ⟨xs, xs[i], q, List.getElem?_eq_getElem hi⟩, fun _ q => ⟨xs, q, Nat.le_refl _⟩, fun i H v H' _ q y => ?_⟩
  obtain ⟨T, x, h1, h2, h3, h4⟩ := y
  exact ⟨T, .int (i : Nat), x, h1, h2, h3, rfl, h4 xs q⟩
def natV (n : Nat) : V := .int (n : Int)
def oV : Option Nat → V
  | none => .non
  | some k => .int (k : Int)
def oD : Option Nat → PyData
  | none => .none
  | some k => .int (k : Int)
def hD : Option Int → PyData
  | none => .none
  | some k => .int k
def rowDt (row : List (Option Nat)) : PyData := .tuple (row.map oD)
def machDt (L : Nat) (rs : Rows) (es : List Bool) : PyData := .tuple [.int (L : Int), .tuple (rs.map rowDt), .tuple (es.map .bool)]
structure MOk (L : Nat) (rs : Rows) (es : List Bool) : Prop where
  l1 : 1 ≤ rs.length
  l400 : rs.length ≤ 400
  row : ∀ row ∈ rs, row.length = L
  tgt : ∀ row ∈ rs, ∀ v, some v ∈ row → v < rs.length
  es : es.length = rs.length
  L1 : 1 ≤ L
  L3 : L ≤ 3
theorem MOk.reach_lt {L : Nat} {rs : Rows} {es : List Bool} (M : MOk L rs es) : ∀ u, Reach rs u → u < rs.length := by
  intro u r
  cases r with
  | z => exact M.l1
  | s r h1 h2 => exact M.tgt _ (List.mem_of_getElem? h1) _ (List.mem_of_getElem? h2)
section
variable {B : Addr → Prop} {K : PySem.W.Frag} {H H' : Hp}
theorem dt_sc {α : Type} {fD : α → PyData} {fV : α → V} (h1 : ∀ x v, Dt B K H v (fD x) → v = fV x) : ∀ {xs : List α} {vs : List V}, DtAll B K H vs (xs.map fD) → vs = xs.map fV
  | [], _, h => by cases h; rfl
  | x :: xs, _, h => by
    cases h with
    | cons a b => rw [h1 _ _ a, dt_sc h1 b]; rfl
theorem dt_cs {α : Type} {fD : α → PyData} {fV : α → V} (h1 : ∀ x, Dt B K H (fV x) (fD x)) : ∀ xs : List α, DtAll B K H (xs.map fV) (xs.map fD)
  | [] => .nil
  | x :: xs => .cons (h1 x) (dt_cs h1 xs)
theorem o_sc (x : Option Nat) (v : V) (h : Dt B K H v (oD x)) : v = oV x := by
  cases x with
  | none => cases h; rfl
  | some k => cases h; rfl
theorem b_sc (x : Bool) (v : V) (h : Dt B K H v (.bool x)) : v = .bl x := by cases h; rfl
/-- a machine as it lies -/
structure MA (H : Hp) (L : Nat) (rs : Rows) (es : List Bool) (m pr pe : Addr) (rvs : List V) : Prop where
  hm : Rd H m (.tup [.int (L : Int), .ref pr, .ref pe])
  hr : Rd H pr (.tup rvs)
  hl : rvs.length = rs.length
  row : ∀ (u : Nat) (row : List (Option Nat)), rs[u]? = some row → ∃ q, rvs[u]? = some (.ref q) ∧ Rd H q (.tup (row.map oV))
  he : Rd H pe (.tup (es.map V.bl))
theorem MA.same {L : Nat} {rs : Rows} {es : List Bool} {m pr pe : Addr} {rvs : List V} (s : Same H H') (M : MA H L rs es m pr pe rvs) : MA H' L rs es m pr pe rvs :=
  ⟨same_rd s M.hm, same_rd s M.hr, M.hl, fun u row h => let ⟨q, h1, h2⟩ := M.row u row h; ⟨q, h1, same_rd s h2⟩, same_rd s M.he⟩
theorem dt_mach {L : Nat} {rs : Rows} {es : List Bool} {v : V} (h : Dt B K H v (machDt L rs es)) : ∃ m pr pe rvs, v = .ref m ∧ ¬ B m ∧ MA H L rs es m pr pe rvs := by
  obtain ⟨m, xs, rfl, nm, hm, ha, _⟩ := h.tup_rd
  cases ha with
  | cons h1 ha =>
    cases ha with
    | cons h2 ha =>
      cases ha with
      | cons h3 ha =>
        cases ha
        cases h1
        obtain ⟨pr, rvs, rfl, _, hr, har, hl⟩ := h2.tup_rd
        obtain ⟨pe, evs, rfl, _, he, hae, _⟩ := h3.tup_rd
        rw [dt_sc b_sc hae] at he
        refine ⟨m, pr, pe, rvs, rfl, nm, hm, hr, by rw [hl, List.length_map], fun u row hu => ?_, he⟩
        obtain ⟨v, hv, hd⟩ := har.get (i := u) (d := rowDt row) (by rw [List.getElem?_map, hu]; rfl)
        obtain ⟨q, ys, rfl, _, hq, hay, _⟩ := hd.tup_rd
        rw [dt_sc o_sc hay] at hq
        exact ⟨q, hv, hq⟩
end
theorem nodup_len {n : Nat} {xs : List Nat} (hn : xs.Nodup) (hlt : ∀ x ∈ xs, x < n) : xs.length ≤ n := by
  refine Nat.le_of_not_lt fun hl => ?_
  obtain ⟨a, b, h1, h2, h3⟩ := pigeon (List.range n) (fun k => xs.getD k 0) (fun k hk => by
    rw [List.length_range] at hk
    have hk2 : k < xs.length := by omega
    have e : xs.getD k 0 = xs[k] := by rw [List.getD_eq_getElem?_getD, List.getElem?_eq_getElem hk2]; rfl
    rw [e]
    exact List.mem_range.mpr (hlt _ (List.getElem_mem hk2)))
  rw [List.length_range] at h2
  have ha : a < xs.length := by omega
  have hb : b < xs.length := by omega
  have ea : xs.getD a 0 = xs[a] := by rw [List.getD_eq_getElem?_getD, List.getElem?_eq_getElem ha]; rfl
  have eb : xs.getD b 0 = xs[b] := by rw [List.getD_eq_getElem?_getD, List.getElem?_eq_getElem hb]; rfl
  rw [ea, eb] at h3
  exact absurd h3 (List.pairwise_iff_getElem.mp hn a b ha hb h1)
def Sq (t : Bool) (H : Hp) (a : Addr) (xs : List V) : Prop := match t with
  | true => Rd H a (.tup xs)
  | false => Rd H a (.lst xs)
theorem Sq.same {t : Bool} {H H' : Hp} {a : Addr} {xs : List V} (s : Same H H') (h : Sq t H a xs) : Sq t H' a xs := by
  cases t <;> exact same_rd s h
theorem Sq.any {t : Bool} {K : PySem.W.Frag} {H : Hp} {a : Addr} {xs : List V} (h : Sq t H a xs) : SqL K H a xs ∨ SqT K H a xs := by
  cases t
  · exact .inl (.inl h)
  · exact .inr (.inl h)
def itQ (t : Bool) (K : PySem.W.Frag) (a : Addr) : It := match t with
  | true => Itt K a
  | false => Itl K a
def itE (t : Bool) (K : PySem.W.Frag) (a : Addr) : It := match t with
  | true => ItT K a
  | false => Ite K a
theorem walk_seq {t : Bool} {K : PySem.W.Frag} {a : Addr} {xs : List V} : Walk (itQ t K a) xs.length (fun H => Sq t H a xs) (YAt xs) := by
  cases t
  · exact (walk_list (K := K)).mono (fun _ h => .inl h) fun _ _ _ _ _ _ y => y
  · exact (walk_tup (K := K)).mono (fun _ h => .inl h) fun _ _ _ _ _ _ y => y
theorem walk_enumQ {t : Bool} {K : PySem.W.Frag} {a : Addr} {xs : List V} : Walk (itE t K a) xs.length (fun H => Sq t H a xs) (YPair (fun i => some (.int (i : Nat))) (fun i => xs[i]?)) := by
  cases t
  · exact (walk_enum (K := K)).mono (fun _ h => .inl h) fun _ _ _ _ _ _ y => y
  · exact (walk_enumT (K := K)).mono (fun _ h => .inl h) fun _ _ _ _ _ _ y => y
theorem for_seq {t : Bool} {K : PySem.W.Frag} {a : Addr} {xs : List V} {g : TG} {tb : TS} {D : Ends} {σ : L2.St} {H : Hp} (Pv : Nat → L2.St → Hp → Prop) (h0 : Pv 0 σ H) (hl : ∀ i σ H, i ≤ xs.length → Pv i σ H → Sq t H a xs)
    (hs : ∀ i x σ H, xs[i]? = some x → Pv i σ H → g x σ H fun σ2 H2 => tb { D with nx := Pv (i + 1), ct := Pv (i + 1), bk := D.nx } σ2 H2) (hd : ∀ σ H, Pv xs.length σ H → D.nx σ H) :
    ∃ W : Nat → Nat → L2.St → Hp → Prop, (∃ m, W 0 m σ H) ∧ ∀ i m σ H, W i m σ H →
      ((itQ t K a).stop i H ∧ D.nx σ H) ∨ ((itQ t K a).go i H ∧ ∃ N : L2.St → Hp → Prop, (∀ σ' H', N σ' H' → ∃ m', m' < m ∧ W (i + 1) m' σ' H') ∧
        ∀ x H', (itQ t K a).yld i H x H' → g x σ H' fun σ2 H2 => tb { D with nx := N, ct := N, bk := D.nx } σ2 H2) :=
  for_it walk_seq Pv h0 hl (fun i x σ H H' _ p y => by
    obtain ⟨rfl, y⟩ := y
    exact hs i x σ _ y p) hd
theorem lc_seq {t : Bool} {K : PySem.W.Frag} {a : Addr} {xs : List V} {g : TG} {tt : TT} {te : TE} {vs : List Nat} {σ : L2.St} {H1 : Hp} {D : Addr} {Qd : Hp → Prop} (Pv : Nat → Hp → Prop) (h0 : Pv 0 (upd H1 D (.lst []))) (hl : ∀ i H, i ≤ xs.length → Pv i H → Sq t H a xs)
    (hs : ∀ i x H, xs[i]? = some x → Pv i H → g x (wipe σ vs) H fun σ2 H2 => wipe σ2 vs = wipe σ vs ∧ tt σ2 H2 fun b H3 =>
      if b = true then te σ2 H3 fun y H4 => ∃ acc, H4 D = some (.lst acc) ∧ acc.length < sizeLine ∧ Pv (i + 1) (upd H4 D (.lst (acc ++ [y]))) else Pv (i + 1) H3) (hd : ∀ H, Pv xs.length H → Qd H) :
    ∃ W : Nat → Nat → Hp → Prop, (∃ m, W 0 m (upd H1 D (.lst []))) ∧ ∀ i m H, W i m H →
      ((itQ t K a).stop i H ∧ Qd H) ∨ ((itQ t K a).go i H ∧ ∃ Nx : Hp → Prop, (∀ H', Nx H' → ∃ m', m' < m ∧ W (i + 1) m' H') ∧ ∀ x H', (itQ t K a).yld i H x H' → g x (wipe σ vs) H' fun σ2 H2 => wipe σ2 vs = wipe σ vs ∧ tt σ2 H2 fun b H3 =>
        if b = true then te σ2 H3 fun y H4 => ∃ acc, H4 D = some (.lst acc) ∧ acc.length < sizeLine ∧ Nx (upd H4 D (.lst (acc ++ [y]))) else Nx H3) :=
  lc_it walk_seq Pv h0 hl (fun i x H H' _ p y => by
    obtain ⟨rfl, y⟩ := y
    exact hs i x _ y p) hd
def rIxQ : R2 := fun x y H Q => ∃ t p xs i v, x = .ref p ∧ y = .int i ∧ Sq t H p xs ∧ atI xs i = some v ∧ Q v H
def iSeq (K : PySem.W.Frag) (tl : TE) : TI := fun σ H R => tl σ H fun x H1 => ∃ t a xs, x = .ref a ∧ Sq t H1 a xs ∧ R (itQ t K a) H1
def iEnumQ (K : PySem.W.Frag) (ta : TA) : TI := fun σ H R => ta σ H fun vs H1 => ∃ t a xs, vs = [.ref a] ∧ Sq t H1 a xs ∧ R (itE t K a) H1
section
variable {X : Cx} {tg : Expr}
theorem ix_any : IxR X rIxQ := by
  intro value slice pins s σ H x y v u Q I rx ry h hs
  obtain ⟨t, p, xs, i, o, ex, ey, hq, ha, q⟩ := h
  cases t
  · exact ix_list value slice pins s σ H x y v u Q I rx ry ⟨p, xs, i, o, ex, ey, .inl hq, ha, q⟩ hs
  · exact ix_tup value slice pins s σ H x y v u Q I rx ry ⟨p, xs, i, o, ex, ey, .inl hq, ha, q⟩ hs
theorem pi_seq {l : Expr} {tl : TE} (hl : PE X l tl) : PI X tg l (iSeq X.K tl) := by
  refine ⟨fun pins s σ H R I h => thn (hl.run pins s σ H _ I h) fun v s1 w => ?_⟩
  obtain ⟨x, H1, I1, r1, t, a, xs, rfl, hq, k⟩ := w
  cases r1
  have own : ∀ b ∈ [s1.heap.objs.size], FpOk X pins H1 b := fun b hb => by
    rw [List.mem_singleton.mp hb]
    exact I1.fpOk (Nat.le_refl _) (I1.hok.fresh (Nat.le_refl _))
  cases t
  · obtain ⟨its, _, pl, _⟩ := I1.list (.inl hq)
    exact wpAny_pyIter_list pl.isList ⟨_, _, _, _, H1, rfl, I1.kept (t' := s1.toks) fun b o e => Heap.get?_push_of_some _ e, turn_list a _, ⟨_, Heap.get?_push_size _ rfl, rfl, rfl⟩, own, k⟩
  · obtain ⟨its, _, pl, _⟩ := I1.tuple (.inl hq)
    exact wpAny_pyIter_tuple (show s1.heap.IsTuple a its.toArray from pl) ⟨_, _, _, _, H1, rfl, I1.kept (t' := s1.toks) fun b o e => Heap.get?_push_of_some _ e, turn_tuple a _, ⟨_, Heap.get?_push_size _ rfl, rfl, rfl⟩, own, k⟩
theorem pi_enumQ {e : Expr} {ta : TA} {p pos tpos : Pos} {elts : List Expr} {kk : Nat} (g : Gl X "enumerate") (m : X.mg "enumerate" = none) (ha : PA X [e] ta) (hs : starEach [e] X.env = [(false, eval e X.env)] := by rfl) :
    PI X (.Tuple elts kk tpos) (.Call (.Name "enumerate" p) [e] [] pos) (iEnumQ X.K ta) := by
  refine ⟨fun pins s σ H R I h => Call_ (ld_blt I g m boot_enumerate (PyProof.Rows.callWith_type1 (thn (ha.run pos pins s σ H _ I h) fun us s1 w => ?_) hs rfl))⟩
  obtain ⟨vs, H1, I1, r1, t, a, xs, rfl, hq, k⟩ := w
  cases r1 with
  | cons r rr =>
    cases rr
    cases r
    have own : ∀ b ∈ [s1.heap.objs.size + 1, s1.heap.objs.size], FpOk X pins H1 b := fun b hb => by
      have le : s1.heap.objs.size ≤ b := by
        rcases List.mem_cons.mp hb with z | z
        · rw [z]
          exact Nat.le_add_right _ _
        · exact Nat.le_of_eq (List.mem_singleton.mp z).symm
      exact I1.fpOk le (I1.hok.fresh le)
    cases t
    · obtain ⟨its, rv, pl, _⟩ := I1.list (.inl hq)
      refine call_enumerate_list pl.isList fun h2 he hit hsz hk => wpAny_pyIter_enum he ?_
      exact ⟨_, [s1.heap.objs.size + 1, s1.heap.objs.size], _, _, H1, rfl, I1.kept (t' := s1.toks) hk, turn_enum a _ s1.heap.objs.size, ⟨⟨.none, he⟩, hit, Nat.succ_ne_self _⟩, own, k⟩
    · obtain ⟨its, rv, pl, _⟩ := I1.tuple (.inl hq)
      refine call_enum_tup (show s1.heap.IsTuple a its.toArray from pl) fun h2 he hit hk => wpAny_pyIter_enum he ?_
      exact ⟨_, [s1.heap.objs.size + 1, s1.heap.objs.size], _, _, H1, rfl, I1.kept (t' := s1.toks) hk, turn_enumT a _ s1.heap.objs.size, ⟨⟨.none, he⟩, hit, Nat.succ_ne_self _⟩, own, k⟩
end
/-- a graph of many states -/
structure GOk (L : Nat) (rs : Rows) : Prop where
  l1 : 1 ≤ rs.length
  lN : rs.length ≤ 200000
  row : ∀ row ∈ rs, row.length = L
  tgt : ∀ row ∈ rs, ∀ v, some v ∈ row → v < rs.length
  L1 : 1 ≤ L
  L3 : L ≤ 16
/-- its rows, as they lie: lists or tuples of lists or of tuples -/
structure GA (H : Hp) (L : Nat) (rs : Rows) (t u : Bool) (pr : Addr) (rvs : List V) : Prop where
  hr : Sq t H pr rvs
  hl : rvs.length = rs.length
  row : ∀ (i : Nat) (row : List (Option Nat)), rs[i]? = some row → ∃ q, rvs[i]? = some (.ref q) ∧ Sq u H q (row.map oV)
theorem GA.same {H H' : Hp} {L : Nat} {rs : Rows} {t u : Bool} {pr : Addr} {rvs : List V} (s : Same H H') (M : GA H L rs t u pr rvs) : GA H' L rs t u pr rvs :=
  ⟨M.hr.same s, M.hl, fun i row h => let ⟨q, h1, h2⟩ := M.row i row h; ⟨q, h1, h2.same s⟩⟩
theorem MA.ga {H : Hp} {L : Nat} {rs : Rows} {es : List Bool} {m pr pe : Addr} {rvs : List V} (M : MA H L rs es m pr pe rvs) : GA H L rs true true pr rvs := ⟨M.hr, M.hl, M.row⟩
theorem MOk.g {L : Nat} {rs : Rows} {es : List Bool} (M : MOk L rs es) : GOk L rs := ⟨M.l1, Nat.le_trans M.l400 (by decide), M.row, M.tgt, M.L1, Nat.le_trans M.L3 (by decide)⟩
theorem GOk.reach_lt {L : Nat} {rs : Rows} (M : GOk L rs) (v : Nat) (h : Reach rs v) : v < rs.length := by
  induction h with
  | z => exact M.l1
  | s _ h1 h2 _ => exact M.tgt _ (List.mem_of_getElem? h1) _ (List.mem_of_getElem? h2)
theorem sz_big {n : Nat} (h : n ≤ 1000000) : n ≤ sizeLine := Nat.le_trans h (by decide)
theorem small9 {n : Nat} (h : n ≤ 1000000) : n < sizeLine := Nat.lt_of_le_of_lt h (by decide)
def knB (n : Nat) (ord : List Nat) : List V := (List.range n).map fun u => V.bl (decide (u ∈ ord))
theorem knB_get {n : Nat} {ord : List Nat} {u : Nat} (h : u < n) : (knB n ord)[u]? = some (.bl (decide (u ∈ ord))) := by
  unfold knB
  rw [List.getElem?_map, List.getElem?_range h]
  rfl
theorem knB_len {n : Nat} {ord : List Nat} : (knB n ord).length = n := by
  unfold knB
  rw [List.length_map, List.length_range]
theorem knB_set {n : Nat} {ord : List Nat} {v : Nat} : (knB n ord).set v (.bl true) = knB n (ord ++ [v]) := by
  refine List.ext_getElem? fun u => ?_
  rw [List.getElem?_set, knB_len]
  by_cases hu : u < n
  · rw [knB_get hu, knB_get hu]
    by_cases e : v = u
    · subst e
      rw [if_pos rfl, if_pos hu, decide_eq_true (by simp)]
    · rw [if_neg e]
      congr 2
      have : (u ∈ ord ++ [v]) ↔ u ∈ ord := by
        rw [List.mem_append, List.mem_singleton]
        exact ⟨fun h => h.elim id fun z => absurd z.symm e, .inl⟩
      rw [Bool.eq_iff_iff, decide_eq_true_iff, decide_eq_true_iff, this]
  · have h1 : (knB n ord)[u]? = none := List.getElem?_eq_none (by rw [knB_len]; omega)
    have h2 : (knB n (ord ++ [v]))[u]? = none := List.getElem?_eq_none (by rw [knB_len]; omega)
    rw [h1, h2]
    by_cases e : v = u
    · rw [if_pos e]
      rw [if_neg (by omega)]
    · rw [if_neg e]
theorem natV_get {ord : List Nat} {i u : Nat} (h : ord[i]? = some u) : (ord.map natV)[i]? = some (.int (u : Int)) := by
  rw [List.getElem?_map, h]
  rfl
theorem natV_of {ord : List Nat} {i : Nat} {v : V} (h : (ord.map natV)[i]? = some v) : ∃ u : Nat, ord[i]? = some u ∧ v = .int (u : Int) := by
  rw [List.getElem?_map] at h
  obtain ⟨u, h1, h2⟩ := Option.map_eq_some_iff.mp h
  exact ⟨u, h1, h2.symm⟩
/-- what is known of the states that were come to -/
structure ROrd (rs : Rows) (i : Nat) (ord : List Nat) : Prop where
  nd : ord.Nodup
  zero : 0 ∈ ord
  rch : ∀ u ∈ ord, Reach rs u
  cl : ∀ k, k < i → ∀ u, ord[k]? = some u → ∀ (row : List (Option Nat)) v, rs[u]? = some row → some v ∈ row → v ∈ ord
  le : i ≤ ord.length
theorem ROrd.push {rs : Rows} {i : Nat} {ord : List Nat} {v : Nat} (R : ROrd rs i ord) (hn : v ∉ ord) (hv : Reach rs v) : ROrd rs i (ord ++ [v]) where
  nd := List.nodup_append.mpr ⟨R.nd, by simp, fun a ha b hb e => hn (by rw [List.mem_singleton.mp hb] at e; exact e ▸ ha)⟩
  zero := List.mem_append_left _ R.zero
  rch := fun u hu => (List.mem_append.mp hu).elim (R.rch u) fun z => by rw [List.mem_singleton.mp z]; exact hv
  cl := fun k hk u hu row w hr hw => List.mem_append_left _ (R.cl k hk u (by rw [List.getElem?_append_left (by have := R.le; omega)] at hu; exact hu) row w hr hw)
  le := by
    rw [List.length_append]
    have := R.le
    omega
theorem ROrd.next {rs : Rows} {i u : Nat} {ord : List Nat} {row : List (Option Nat)} (R : ROrd rs i ord) (hu : ord[i]? = some u) (hr : rs[u]? = some row) (h : ∀ v, some v ∈ row → v ∈ ord) : ROrd rs (i + 1) ord where
  nd := R.nd
  zero := R.zero
  rch := R.rch
  cl := fun k hk w hw row' v hr' hv => by
    by_cases e : k = i
    · subst e
      rw [hu] at hw
      cases hw
      rw [hr] at hr'
      cases hr'
      exact h v hv
    · exact R.cl k (by omega) w hw row' v hr' hv
  le := by
    have := (List.getElem?_eq_some_iff.mp hu).1
    omega
theorem ROrd.isOrd {L : Nat} {rs : Rows} {i : Nat} {ord : List Nat} (M : GOk L rs) (R : ROrd rs i ord) (hi : ord.length ≤ i) : IsOrd rs ord where
  mem := fun u => ⟨R.rch u, fun r => by
    induction r with
    | z => exact R.zero
    | s r h1 h2 ih =>
      obtain ⟨k, hk⟩ := List.getElem?_of_mem ih
      have hl := (List.getElem?_eq_some_iff.mp hk).1
      exact R.cl k (by omega) _ hk _ _ h1 (List.mem_of_getElem? h2)⟩
  lt := fun u hu => M.reach_lt u (R.rch u hu)
  len := nodup_len R.nd fun u hu => M.reach_lt u (R.rch u hu)
  nd := R.nd
theorem ROrd.len {L : Nat} {rs : Rows} {i : Nat} {ord : List Nat} (M : GOk L rs) (R : ROrd rs i ord) : ord.length ≤ rs.length := nodup_len R.nd fun u hu => M.reach_lt u (R.rch u hu)
theorem rord0 {rs : Rows} : ROrd rs 0 [0] where
  nd := by simp
  zero := by simp
  rch := fun u hu => by rw [List.mem_singleton.mp hu]; exact .z
  cl := fun k hk => absurd hk (Nat.not_lt_zero _)
  le := Nat.zero_le _
section
variable {P : Program} {w : World} {K : PySem.W.Frag} {mg : Str → Option Value} {base : Heap}
theorem scReached : FnScope ["rows", "order", "known", "at", "state", "target"] ["rows"] (defScope sReached) := ⟨rfl, rfl, rfl, by decide +kernel, rfl, by decide +kernel, by decide +kernel⟩
def spReached : Sp := fun vs H Q _ => ∃ (L : Nat) (rs : Rows) (t u : Bool) (pr : Addr) (rvs : List V), vs = [.ref pr] ∧ GOk L rs ∧ GA H L rs t u pr rvs ∧
  ∀ (H' : Hp) (p : Addr) (ord : List Nat), Same H H' → H p = none → H' p = some (.lst (ord.map natV)) → IsOrd rs ord → Q (.ref p) H'
theorem ok_reached {f : Addr} {fd : FuncData} (F : Fun K "reached" "reached" sReached f fd) (T : Mg mg) : FnOk P w K mg base CX0 1 f fd ["rows"] spReached := by
  refine F.ok scReached (fun vs H Q E h => ?_) (fun cdv A outer s H vs Q E hr h => ?_)
  · obtain ⟨L, rs, tt, uu, pr, rvs, rfl, _⟩ := h
    rfl
  · obtain ⟨L, rs, tt, uu, pr, rvs, rfl, M, MM, k⟩ := h
    refine ⟨_, pss_cons (ps_set (i := 1) scReached.nd rfl (.inl rfl) (pe_lst (pa_cons pe_int pa_nil)))
      (pss_cons (ps_set (i := 2) scReached.nd rfl (.inl rfl) (pe_op op_rep (pe_lst (pa_cons pe_bl pa_nil)) (pe_callB (r := rLen K) call_len_seq (by rfl) T.len PySem.boot_len (pa_cons (pv 0) pa_nil))))
      (pss_cons (ps_asg pe_bl (pg_sub (pv 2) pe_int set_list))
      (pss_cons (ps_set (i := 3) scReached.nd rfl (.inl rfl) pe_int)
      (pss_cons (ps_while PassesOwn.never (pt_cmpR op_lt (pv 3) (pe_callB (r := rLen K) call_len_seq (by rfl) T.len PySem.boot_len (pa_cons (pv 1) pa_nil)) (nomark _))
        (pss_cons (ps_set (i := 4) scReached.nd rfl (.inl rfl) (pe_ix ix_list (pv 1) (pv 3) (fun _ _ => rfl)))
        (pss_cons (ps_for PassesOwn.never rfl (pi_seq (pe_ix (r := rIxQ) ix_any (pv 0) (pv 4) (fun _ _ => rfl))) (pg_name (i := 5) scReached.nd rfl (.inl rfl))
          (pss_one (ps_if (PW.pt (pw_and (pt_cmp (pc_notN (pv 5))) (pw_and1 (pt_not (pt_val (pe_ix ix_list (pv 2) (pv 5) (fun _ _ => rfl)))))))
            (pss_cons (ps_asg pe_bl (pg_sub (pv 2) (pv 5) set_list)) (pss_one (ps_expr (pe_bm PySem.F.plainAttrs_list PySem.F.slot_list_append PySem.F.type_list_append mt_append (pv 1) (pa_cons (pv 5) pa_nil)))))
            pss_nil)))
        (pss_one (ps_aug (i := 3) scReached.nd rfl (.inl rfl) pe_int ip_add)))))
      (pss_one (ps_ret (pv 1))))))), ?_⟩
    refine ⟨by show 1 ≤ sizeLine; decide, fun o ho => ?_⟩
    refine ⟨by show 1 ≤ sizeLine; decide, fun t ht => ?_⟩
    have s1 := same_new (o := .lst [.int 0]) ho
    have s2 := same_new (o := .lst [.bl false]) ht
    have M1 := MM.same (s1.trans s2)
    refine ⟨_, rfl, pr, rvs, rfl, M1.hr.any, ?_⟩
    have hlen := MM.hl
    have l1 := M.l1
    have l4 := M.lN
    refine ⟨t, (rvs.length : Int), [V.bl false], rfl, rfl, upd_same, by omega, by omega, sz_big (by rw [List.length_singleton]; omega), fun kn hk => ?_⟩
    refine ⟨.ref kn, rfl, kn, _, 0, 0, rfl, rfl, upd_same, ?_, ?_⟩
    · unfold ixN
      rw [if_pos (by omega), if_pos]
      · rfl
      · simp
        omega
    have ek : ((List.replicate (rvs.length : Int).toNat [V.bl false]).flatten).set 0 (.bl true) = knB rs.length [0] := by
      have e0 : (List.replicate (rvs.length : Int).toNat [V.bl false]).flatten = knB rs.length [] := by
        refine List.ext_getElem? fun u => ?_
        rw [show (List.replicate (rvs.length : Int).toNat [V.bl false]).flatten = List.replicate rs.length (V.bl false) by rw [hlen]; simp]
        by_cases hu : u < rs.length
        · rw [knB_get hu, List.getElem?_replicate, if_pos hu]
          rfl
        · rw [List.getElem?_eq_none (by rw [List.length_replicate]; omega), List.getElem?_eq_none (by rw [knB_len]; omega)]
      rw [e0]
      exact knB_set
    rw [ek]
    have s3 := same_new (o := .lst (List.replicate (rvs.length : Int).toNat [V.bl false]).flatten) hk
    have nko : kn ≠ o := fun z => by
      rw [z, s2 _ _ upd_same] at hk
      cases hk
    have hG : ∃ G, G = upd (upd (upd (upd H o (.lst [.int 0])) t (.lst [.bl false])) kn (.lst (List.replicate (rvs.length : Int).toNat [V.bl false]).flatten)) kn (.lst (knB rs.length [0])) := ⟨_, rfl⟩
    obtain ⟨G, hG⟩ := hG
    rw [← hG]
    have sG : Same H G := fun b u e => by
      have e3 := s3 _ _ (s2 _ _ (s1 _ _ e))
      rw [hG]
      have : b ≠ kn := fun z => by
        rw [z] at e
        have := s2 _ _ (s1 _ _ e)
        rw [hk] at this
        cases this
      rw [upd_ne this]
      exact e3
    have gO : G o = some (.lst ([0].map natV)) := by
      rw [hG, upd_ne nko.symm]
      exact s3 _ _ (s2 _ _ upd_same)
    have gK : G kn = some (.lst (knB rs.length [0])) := by rw [hG, upd_same]
    have kn0 : H kn = none := by
      cases z : H kn with
      | none => rfl
      | some u =>
        have := s2 _ _ (s1 _ _ z)
        rw [hk] at this
        cases this
    clear hG ek
    have pushH : ∀ {H1 : Hp} {ord : List Nat} {v : Nat}, Same H H1 → H1 o = some (.lst (ord.map natV)) → H1 kn = some (.lst (knB rs.length ord)) →
        Same H (upd (upd H1 kn (.lst (knB rs.length (ord ++ [v])))) o (.lst (ord.map natV ++ [V.int (v : Int)]))) ∧ (upd (upd H1 kn (.lst (knB rs.length (ord ++ [v])))) o (.lst (ord.map natV ++ [V.int (v : Int)]))) o = some (.lst ((ord ++ [v]).map natV)) ∧
        (upd (upd H1 kn (.lst (knB rs.length (ord ++ [v])))) o (.lst (ord.map natV ++ [V.int (v : Int)]))) kn = some (.lst (knB rs.length (ord ++ [v]))) := by
      intro H1 ord v sm h1 h2
      refine ⟨fun b u e => ?_, by rw [upd_same, List.map_append]; rfl, by rw [upd_ne nko, upd_same]⟩
      rw [upd_ne (ne_of_none e ho), upd_ne (ne_of_none e kn0)]
      exact sm b u e
    refine while_by (fun σ H' => ∃ (i : Nat) (ord : List Nat) (y4 y5 : Option V), σ = [some (.ref pr), some (.ref o), some (.ref kn), some (.int (i : Int)), y4, y5] ∧ Same H H' ∧ H' o = some (.lst (ord.map natV)) ∧ H' kn = some (.lst (knB rs.length ord)) ∧ ROrd rs i ord)
      (fun (σ : List (Option V)) (_ : Hp) => match σ[3]? with
        | some (some (V.int i)) => 200001 - i.toNat
        | _ => 0) ⟨0, [0], none, none, rfl, sG, gO, gK, rord0⟩ ?_ ?_
    · rintro σ H1 ⟨i, ord, y4, y5, rfl, sm, h1, h2, R⟩
      have hol := R.len M
      refine ⟨_, rfl, _, rfl, o, _, rfl, .inl (SqL.of h1), _, _, rfl, rfl, _, rfl, ite2 (fun hlt => ?_) fun hlt => ?_⟩
      · have hlt := of_decide_eq_true hlt
        rw [List.length_map] at hlt
        have hi : i < ord.length := by omega
        have hu : ord[i]? = some ord[i] := List.getElem?_eq_getElem hi
        have hmu := List.getElem_mem hi
        generalize ord[i] = u at *
        have hun := M.reach_lt u (R.rch u hmu)
        have hrow : rs[u]? = some rs[u] := List.getElem?_eq_getElem hun
        have hmr := List.getElem_mem hun
        generalize rs[u] = row at *
        have MM1 := MM.same sm
        obtain ⟨q, hq1, hq2⟩ := MM.row u row hrow
        refine ⟨_, rfl, _, rfl, o, _, (i : Int), _, rfl, rfl, SqL.of h1, atI_nat (natV_get hu), ?_⟩
        refine ⟨_, rfl, _, rfl, tt, pr, rvs, (u : Int), _, rfl, rfl, MM1.hr, atI_nat hq1, uu, q, _, rfl, hq2.same sm, ?_⟩
        refine for_seq (t := uu) (K := K) (a := q) (xs := row.map oV) (fun j σ H' => (∃ y5, σ = [some (.ref pr), some (.ref o), some (.ref kn), some (.int (i : Int)), some (.int (u : Int)), y5]) ∧ Same H H' ∧ ∃ ord', H' o = some (.lst (ord'.map natV)) ∧ H' kn = some (.lst (knB rs.length ord')) ∧ ROrd rs i ord' ∧ ord'[i]? = some u ∧ ∀ k, k < j → ∀ v, row[k]? = some (some v) → v ∈ ord')
          ⟨⟨_, rfl⟩, sm, ord, h1, h2, R, hu, fun k hk => absurd hk (Nat.not_lt_zero _)⟩ (fun j σ H' _ p => hq2.same p.2.1) ?_ ?_
        · rintro j x σ H2 hx ⟨⟨y5, rfl⟩, sm2, ord', g1, g2, R', hu', hall⟩
          rw [List.getElem?_map] at hx
          obtain ⟨tg, hj, rfl⟩ := Option.map_eq_some_iff.mp hx
          refine ⟨_, rfl, _, rfl, ?_⟩
          cases tg with
          | none =>
            refine ⟨⟨_, rfl⟩, sm2, ord', g1, g2, R', hu', fun k hk v hv => ?_⟩
            by_cases e : k = j
            · rw [e, hj] at hv
              cases hv
            · exact hall k (by omega) v hv
          | some v =>
            have hvn := M.tgt row hmr v (List.mem_of_getElem? hj)
            have hrv : Reach rs v := .s (R'.rch u (List.mem_of_getElem? hu')) hrow hj
            refine ⟨_, rfl, _, rfl, kn, _, (v : Int), _, rfl, rfl, SqL.of g2, atI_nat (knB_get hvn), _, rfl, ?_⟩
            by_cases hin : v ∈ ord'
            · rw [decide_eq_true hin]
              refine ⟨⟨_, rfl⟩, sm2, ord', g1, g2, R', hu', fun k hk w hw => ?_⟩
              by_cases e : k = j
              · rw [e, hj] at hw
                cases hw
                exact hin
              · exact hall k (by omega) w hw
            · rw [decide_eq_false hin]
              refine ⟨_, rfl, _, rfl, kn, _, (v : Int), v, rfl, rfl, g2, Evl.ixN_nat (by rw [knB_len]; exact hvn), ?_⟩
              rw [knB_set]
              have g1' : (upd H2 kn (.lst (knB rs.length (ord' ++ [v])))) o = some (.lst (ord'.map natV)) := by
                rw [upd_ne nko.symm]
                exact g1
              have hol2 := (R'.push hin hrv).len M
              rw [List.length_append, List.length_singleton] at hol2
              refine ⟨_, rfl, .inl ⟨rfl, _, SqL.of g1'⟩, _, rfl, o, _, _, rfl, rfl, g1', (by rw [List.length_map]; exact Nat.lt_of_lt_of_le (show ord'.length < 200000 by omega) (by decide)), ?_⟩
              obtain ⟨q1, q2, q3⟩ := pushH (v := v) sm2 g1 g2
              refine ⟨⟨_, rfl⟩, q1, ord' ++ [v], q2, q3, R'.push hin hrv, ?_, fun k hk w hw => ?_⟩
              · rw [List.getElem?_append_left (List.getElem?_eq_some_iff.mp hu').1]
                exact hu'
              · by_cases e : k = j
                · rw [e, hj] at hw
                  cases hw
                  exact List.mem_append_right _ (List.mem_singleton.mpr rfl)
                · exact List.mem_append_left _ (hall k (by omega) w hw)
        · rintro σ H2 ⟨⟨y5, rfl⟩, sm2, ord', g1, g2, R', hu', hall⟩
          have R'' := R'.next hu' hrow (fun v hv => by
            obtain ⟨k, hk⟩ := List.getElem?_of_mem hv
            exact hall k (by rw [List.length_map]; exact (List.getElem?_eq_some_iff.mp hk).1) v hk)
          have hl2 := R''.len M
          have hle := R''.le
          refine ⟨_, rfl, _, _, rfl, rfl, ⟨i + 1, ord', _, _, rfl, sm2, g1, g2, R''⟩, ?_⟩
          show 200001 - ((i : Int) + 1).toNat < 200001 - (i : Int).toNat
          omega
      · refine ⟨_, rfl, k H1 o ord sm ho h1 (R.isOrd M ?_)⟩
        have h9 : ¬ ((i : Int) < ((ord.map natV).length : Int)) := fun z => hlt (decide_eq_true z)
        rw [List.length_map] at h9
        omega
    · rintro σ H1 Q1 Q2 hQ ⟨x, e1, y, e2, p, ys, e3, e4, i, j, e5, e6, b, e7, q⟩
      exact ⟨x, e1, y, e2, p, ys, e3, e4, i, j, e5, e6, b, e7, hQ _ _ q⟩
end
abbrev Rws := List (List (Option Nat))
def nx (rs : Rws) (s c : Nat) : Option Nat := (rs.getD s []).getD c none
def acc (rs : Rws) (es : List Bool) : List Nat → Nat → Bool
  | [], s => es.getD s false
  | c :: w, s => match nx rs s c with
    | none => false
    | some t => acc rs es w t
def Live (rs : Rws) (es : List Bool) (s : Nat) : Prop := ∃ w, acc rs es w s = true
/-- state s of one machine has the words of state t of another one -/
def Eqv (rs : Rws) (es : List Bool) (rs' : Rws) (es' : List Bool) (s t : Nat) : Prop := ∀ w, acc rs es w s = acc rs' es' w t
theorem Eqv.refl {rs : Rws} {es : List Bool} (s : Nat) : Eqv rs es rs es s s := fun _ => rfl
theorem Eqv.symm {rs rs' : Rws} {es es' : List Bool} {s t : Nat} (h : Eqv rs es rs' es' s t) : Eqv rs' es' rs es t s := fun w => (h w).symm
theorem Eqv.trans {rs rs' rs2 : Rws} {es es' es2 : List Bool} {s t u : Nat} (h : Eqv rs es rs' es' s t) (g : Eqv rs' es' rs2 es2 t u) : Eqv rs es rs2 es2 s u := fun w => (h w).trans (g w)
theorem acc_cons {rs : Rws} {es : List Bool} {s c t : Nat} {w : List Nat} (h : nx rs s c = some t) : acc rs es (c :: w) s = acc rs es w t := by
  show (match nx rs s c with | none => false | some t => acc rs es w t) = _
  rw [h]
theorem acc_none {rs : Rws} {es : List Bool} {s c : Nat} {w : List Nat} (h : nx rs s c = none) : acc rs es (c :: w) s = false := by
  show (match nx rs s c with | none => false | some t => acc rs es w t) = _
  rw [h]
section
variable {rs : Rws} {es : List Bool} {L : Nat} {bl : Nat → Option Nat}
theorem nx_lt {rs : Rws} {L s c t : Nat} (wide : ∀ r ∈ rs, r.length = L) (h : nx rs s c = some t) : s < rs.length ∧ c < L ∧ ∃ r ∈ rs, some t ∈ r := by
  unfold nx at h
  rw [List.getD_eq_getElem?_getD, List.getD_eq_getElem?_getD] at h
  cases e : rs[s]? with
  | none =>
    rw [e] at h
    cases h
  | some r =>
    rw [e, Option.getD_some] at h
    have hr := List.mem_of_getElem? e
    cases e2 : r[c]? with
    | none =>
      rw [e2] at h
      cases h
    | some o =>
      rw [e2, Option.getD_some] at h
      subst h
      have h1 := (List.getElem?_eq_some_iff.mp e2).1
      rw [wide r hr] at h1
      exact ⟨(List.getElem?_eq_some_iff.mp e).1, h1, r, hr, List.mem_of_getElem? e2⟩
variable {picked nums : List Nat} {done : Rws} {row : List (Option Nat)}
end
theorem cnt_in : ∀ (xs : List Nat), xs.Nodup → ∀ ys : List Nat, ys.Nodup → (∀ y ∈ ys, y ∈ xs) → (xs.filter fun x => decide (x ∈ ys)).length = ys.length
  | [], _, ys, _, h => by
    cases ys with
    | nil => rfl
    | cons y ys => exact absurd (h y List.mem_cons_self) List.not_mem_nil
  | x :: xs, nd, ys, ndy, h => by
    obtain ⟨n1, n2⟩ := List.nodup_cons.mp nd
    by_cases hx : x ∈ ys
    · have e : xs.filter (fun z => decide (z ∈ ys)) = xs.filter (fun z => decide (z ∈ ys.erase x)) := List.filter_congr fun z hz => by
        have zx : z ≠ x := fun e => n1 (e ▸ hz)
        rw [decide_eq_decide]
        exact (List.mem_erase_of_ne zx).symm
      have ih := cnt_in xs n2 (ys.erase x) (ndy.erase x) fun y hy => by
        have h1 := h y (List.mem_of_mem_erase hy)
        rcases List.mem_cons.mp h1 with rfl | h1
        · exact absurd hy (ndy.not_mem_erase)
        · exact h1
      rw [List.filter_cons, if_pos (decide_eq_true hx), List.length_cons, e, ih, List.length_erase_of_mem hx]
      have := List.length_pos_of_mem hx
      omega
    · rw [List.filter_cons, if_neg (by rw [decide_eq_true_eq]; exact hx)]
      exact cnt_in xs n2 ys ndy fun y hy => by
        rcases List.mem_cons.mp (h y hy) with rfl | h1
        · exact absurd hy hx
        · exact h1
theorem cnt_split (p : Nat → Bool) : ∀ xs : List Nat, (xs.filter p).length + (xs.filter fun x => !(p x)).length = xs.length
  | [] => rfl
  | x :: xs => by
    have ih := cnt_split p xs
    rw [List.filter_cons, List.filter_cons]
    cases p x
    · rw [if_neg (by decide), if_pos (by decide), List.length_cons, List.length_cons]
      omega
    · rw [if_pos (by decide), if_neg (by decide), List.length_cons, List.length_cons]
      omega
theorem cnt_out {xs ys : List Nat} (nx : xs.Nodup) (ny : ys.Nodup) (h : ∀ y ∈ ys, y ∈ xs) : (xs.filter fun x => !(decide (x ∈ ys))).length + ys.length = xs.length := by
  have h1 := cnt_in xs nx ys ny h
  have h2 := cnt_split (fun x => decide (x ∈ ys)) xs
  omega
def bv (block : List (Option Nat)) (s : Nat) : Option Nat := block.getD s none
def isB (block : List (Option Nat)) (b s : Nat) : Bool := decide (bv block s = some b)
/-- the lists go along with one another -/
structure RI (n T : Nat) (block : List (Option Nat)) (mem : List (List Nat)) (sizes : List Nat) : Prop where
  lb : block.length = n
  ms : mem.length = sizes.length
  lt : ∀ s b, bv block s = some b → b < mem.length
  sub : ∀ s b, bv block s = some b → s ∈ mem.getD b []
  nd : ∀ b, (mem.getD b []).Nodup
  szs : ∀ b, b < mem.length → sizes.getD b 0 = ((mem.getD b []).filter (isB block b)).length
  pos : ∀ z ∈ sizes, 1 ≤ z
  sum : sizes.sum = T
  inn : ∀ b s, s ∈ mem.getD b [] → s < n
section
variable {n T : Nat} {block : List (Option Nat)} {mem : List (List Nat)} {sizes : List Nat}
theorem getD_at {α : Type} {xs : List α} {i : Nat} {d : α} (h : i < xs.length) : xs.getD i d = xs[i] := by
  rw [List.getD_eq_getElem?_getD, List.getElem?_eq_getElem h]
  rfl
/-- those that went away from a lot are dropped from its list -/
theorem RI.clean (h : RI n T block mem sizes) {b : Nat} (hb : b < mem.length) : RI n T block (mem.set b ((mem.getD b []).filter (isB block b))) sizes := by
  have g : ∀ c, (mem.set b ((mem.getD b []).filter (isB block b))).getD c [] = if c = b then (mem.getD b []).filter (isB block b) else mem.getD c [] := fun c => by
    rw [List.getD_eq_getElem?_getD]
    by_cases e : c = b
    · rw [e, List.getElem?_set_self hb, if_pos rfl]
      rfl
    · rw [List.getElem?_set_ne (fun z => e z.symm), if_neg e, List.getD_eq_getElem?_getD]
  refine ⟨h.lb, by rw [List.length_set]; exact h.ms, fun s c e => by rw [List.length_set]; exact h.lt s c e, fun s c e => ?_, fun c => ?_, fun c hc => ?_, h.pos, h.sum, fun c s hs => ?_⟩
  · rw [g]
    split
    · rename_i q
      rw [q] at e
      exact List.mem_filter.mpr ⟨h.sub s b e, decide_eq_true e⟩
    · exact h.sub s c e
  · rw [g]
    split
    · exact (h.nd b).filter _
    · exact h.nd c
  · rw [List.length_set] at hc
    rw [h.szs c hc, g]
    split
    · rename_i q
      rw [q, List.filter_filter]
      simp
    · rfl
  · rw [g] at hs
    split at hs
    · exact h.inn b s (List.mem_filter.mp hs).1
    · exact h.inn c s hs
end
/-- in S just one of the two -/
def Oddly (S : Nat → Prop) (p q : Nat) : Prop := (S p ∧ ¬ S q) ∨ (¬ S p ∧ S q)
/-- two of one lot that c leads to unlike lots: one of these waits, or c has still to be looked at -/
def Inv (rs : Rws) (bl : Nat → Option Nat) (wt : Nat → Prop) (S : Nat → Prop) (c0 : Nat) : Prop :=
  ∀ (s t b c p q bp bq : Nat), bl s = some b → bl t = some b → nx rs s c = some p → nx rs t c = some q → bl p = some bp → bl q = some bq → bp ≠ bq → wt bp ∨ wt bq ∨ (c0 ≤ c ∧ Oddly S p q)
/-- states with the same words are in one lot -/
def Sound (rs : Rws) (es : List Bool) (bl : Nat → Option Nat) : Prop := ∀ (s t b b' : Nat), bl s = some b → bl t = some b' → Eqv rs es rs es s t → b = b'
/-- two of one lot end alike, and are led to lots alike -/
def Alike (rs : Rws) (es : List Bool) (bl : Nat → Option Nat) : Prop := ∀ (s t b : Nat), bl s = some b → bl t = some b → es.getD s false = es.getD t false ∧ ∀ c p b', nx rs s c = some p → bl p = some b' → ∃ q b2, nx rs t c = some q ∧ bl q = some b2
section
variable {rs : Rws} {es : List Bool} {bl bl' : Nat → Option Nat} {wt wt' S M : Nat → Prop} {old m c0 : Nat}
theorem Inv.start {x : Nat} {L : Nat} {S0 : Nat → Prop} (h : Inv rs bl wt S0 L) (wide : ∀ r ∈ rs, r.length = L) (hS : ∀ s, S s ↔ bl s = some x) (hw : ∀ b, wt b → b ≠ x → wt' b) : Inv rs bl wt' S 0 := by
  intro s t b c p q bp bq es et hp hq ep eq ne
  by_cases z1 : bp = x
  · refine .inr (.inr ⟨Nat.zero_le _, .inl ⟨(hS p).mpr (z1 ▸ ep), fun k => ?_⟩⟩)
    have := (hS q).mp k
    rw [eq] at this
    exact ne (z1.trans (Option.some.inj this).symm)
  · by_cases z2 : bq = x
    · refine .inr (.inr ⟨Nat.zero_le _, .inr ⟨fun k => ?_, (hS q).mpr (z2 ▸ eq)⟩⟩)
      have := (hS p).mp k
      rw [ep] at this
      exact z1 (Option.some.inj this)
    · rcases h s t b c p q bp bq es et hp hq ep eq ne with k | k | k
      · exact .inl (hw _ k z1)
      · exact .inr (.inl (hw _ k z2))
      · have := (nx_lt wide hp).2.1
        omega
end
def wv (wait : List Bool) (b : Nat) : Prop := wait.getD b false = true
structure TI (rs : Rws) (es : List Bool) (R : Nat → Prop) (T : Nat) (block : List (Option Nat)) (mem : List (List Nat)) (sizes : List Nat) (wait : List Bool) (queue : List Nat) (k : Int) (S : Nat → Prop) (c0 : Nat) : Prop where
  ri : RI rs.length T block mem sizes
  wl : wait.length = mem.length
  qn : queue.Nodup
  qw : ∀ b, b ∈ queue ↔ wv wait b
  ql : (queue.length : Int) = mem.length + k
  inv : Inv rs (bv block) (wv wait) S c0
  so : Sound rs es (bv block)
  al : Alike rs es (bv block)
  dom : ∀ s, (∃ b, bv block s = some b) ↔ (R s ∧ Live rs es s)
/-- what was touched, by lots -/
structure TG (P0 : Nat → Option Nat) (touched : List (Nat × List Nat)) (srcs : List Nat) : Prop where
  nd : (touched.map Prod.fst).Nodup
  els : ∀ k l, (k, l) ∈ touched → l = srcs.filter (fun s => decide (P0 s = some k)) ∧ l ≠ []
  all : ∀ s ∈ srcs, ∀ k, P0 s = some k → k ∈ touched.map Prod.fst
section
variable {P0 bl : Nat → Option Nat} {touched : List (Nat × List Nat)} {srcs : List Nat}
/-- a first one of its lot -/
theorem TG.fresh (h : TG P0 touched srcs) {s k : Nat} (hs : P0 s = some k) (hk : k ∉ touched.map Prod.fst) : TG P0 (touched ++ [(k, [s])]) (srcs ++ [s]) where
  nd := by
    rw [List.map_append, List.nodup_append]
    refine ⟨h.nd, List.nodup_cons.mpr ⟨List.not_mem_nil, List.nodup_nil⟩, fun x hx y hy => ?_⟩
    rw [List.mem_singleton.mp hy]
    exact fun e => hk ((show x = k from e) ▸ hx)
  els := fun k' l hm => by
    rw [List.filter_append]
    rcases List.mem_append.mp hm with hm | hm
    · obtain ⟨e, ne⟩ := h.els k' l hm
      have : k' ≠ k := fun z => hk (List.mem_map.mpr ⟨(k', l), hm, z⟩)
      rw [List.filter_cons, if_neg (by rw [decide_eq_true_eq, hs]; exact fun z => this (Option.some.inj z).symm), List.filter_nil, List.append_nil]
      exact ⟨e, ne⟩
    · cases List.mem_singleton.mp hm
      have e : srcs.filter (fun s => decide (P0 s = some k)) = [] := List.filter_eq_nil_iff.mpr fun x hx z => hk (h.all x hx k (of_decide_eq_true z))
      rw [e, List.filter_cons, if_pos (decide_eq_true hs), List.filter_nil]
      exact ⟨rfl, List.cons_ne_nil _ _⟩
  all := fun x hx k' e => by
    rw [List.map_append]
    rcases List.mem_append.mp hx with hx | hx
    · exact List.mem_append.mpr (.inl (h.all x hx k' e))
    · rw [List.mem_singleton.mp hx, hs] at e
      cases e
      exact List.mem_append.mpr (.inr List.mem_cons_self)
end
section
variable {rs : Rws} {es : List Bool} {R : Nat → Prop} {T : Nat} {block : List (Option Nat)} {mem : List (List Nat)} {sizes : List Nat} {wait : List Bool} {queue : List Nat} {k : Int} {S : Nat → Prop} {c0 : Nat}
/-- a lot that waits is taken -/
theorem TI.take {x L : Nat} {S0 : Nat → Prop} (h : TI rs es R T block mem sizes wait (queue ++ [x]) k S0 L) (wide : ∀ r ∈ rs, r.length = L) (hx : x < mem.length) : TI rs es R T block (mem.set x ((mem.getD x []).filter (isB block x))) sizes (wait.set x false) queue (k - 1) (fun s => bv block s = some x) 0 := by
  have wl := h.wl
  have ws : ∀ b, wv (wait.set x false) b ↔ (b ≠ x ∧ wv wait b) := fun b => by
    unfold wv
    rw [List.getD_eq_getElem?_getD, List.getD_eq_getElem?_getD, List.getElem?_set]
    by_cases e : x = b
    · subst e
      rw [if_pos rfl, if_pos (by omega)]
      exact ⟨(fun q => by cases q), fun q => absurd rfl q.1⟩
    · rw [if_neg e]
      exact ⟨fun q => ⟨fun z => e z.symm, q⟩, fun q => q.2⟩
  obtain ⟨n1, n2, n3⟩ := List.nodup_append.mp h.qn
  refine ⟨h.ri.clean hx, by rw [List.length_set, List.length_set]; exact wl, n1, fun b => ?_, ?_, h.inv.start wide (fun _ => Iff.rfl) fun b q z => (ws b).mpr ⟨z, q⟩, h.so, h.al, h.dom⟩
  · have := h.qw b
    rw [List.mem_append, List.mem_singleton] at this
    rw [ws, ← this]
    exact ⟨fun q => ⟨fun z => n3 b q x List.mem_cons_self z, .inl q⟩, fun q => q.2.resolve_right q.1⟩
  · have := h.ql
    rw [List.length_append, List.length_singleton] at this
    rw [List.length_set]
    omega
end
def b2n (b : Bool) : Nat := if b = true then 1 else 0
section
variable {rs : Rws} {es : List Bool} {L : Nat}
/-- the states from which words end, when nothing is added any more -/
theorem open_done {F : Nat → Prop} (tgt : ∀ r ∈ rs, ∀ t, some t ∈ r → t < rs.length) (wide : ∀ r ∈ rs, r.length = L) (so : ∀ s, F s → Live rs es s) (en : ∀ s, s < rs.length → es.getD s false = true → F s) (cl : ∀ s c t, s < rs.length → nx rs s c = some t → F t → F s) : ∀ s, s < rs.length → (F s ↔ Live rs es s) := by
  have key : ∀ (w : List Nat) (s : Nat), s < rs.length → acc rs es w s = true → F s := by
    intro w
    induction w with
    | nil => exact fun s hs e => en s hs e
    | cons c w ih =>
      intro s hs e
      cases ep : nx rs s c with
      | none =>
        rw [acc_none ep] at e
        cases e
      | some t =>
        rw [acc_cons ep] at e
        obtain ⟨_, _, r, hr, ht⟩ := nx_lt wide ep
        exact cl s c t hs ep (ih t (tgt r hr t ht) e)
  exact fun s hs => ⟨so s, fun ⟨w, hw⟩ => key w s hs hw⟩
theorem live_end {s : Nat} (h : es.getD s false = true) : Live rs es s := ⟨[], h⟩
theorem live_on {s c t : Nat} (h : nx rs s c = some t) (l : Live rs es t) : Live rs es s := by
  obtain ⟨w, hw⟩ := l
  exact ⟨c :: w, by rw [acc_cons h]; exact hw⟩
variable {P : Nat → Nat} {seen heads : List Nat}
end
section
variable {X : Cx}
def tTruL (K : PySem.W.Frag) (t : TE) : TT := fun σ H Q => t σ H fun x H1 => ∃ a xs, x = .ref a ∧ SqL K H1 a xs ∧ Q (!xs.isEmpty) H1
theorem pt_lstT {e : Expr} {t : TE} (he : PE X e t) (hi : ∀ whole, isTrue e X.env whole = (do let v ← whole; standAt e.pos; holding [v] (truthy v)) := by intro _; rfl) : PT X e (tTruL X.K t) := by
  refine ⟨fun pins s σ H Q I h => ?_⟩
  refine isTrue_plain (thn (he.run pins s σ H _ I h) fun v s1 ⟨x, H1, I1, r1, a, xs, ex, hd, q⟩ => ?_) (hi _)
  subst ex
  cases r1
  obtain ⟨its, rv, pl, hz⟩ := I1.list hd
  have hlen := rv.length
  have hl' := pl.isList
  refine PySem.wpAny_truthy_list hl' (by simp only [List.size_toArray]; have hn := line63; omega) ?_
  have e3 : (!its.toArray.isEmpty) = (!xs.isEmpty) := by
    cases xs <;> cases its <;> first | rfl | (simp at hlen)
  rw [e3]
  exact ⟨H1, I1.tok _, q⟩
/-- o[i] of a list, i from the front -/
def rGetL (K : PySem.W.Frag) : V → V → Hp → VK → Prop := fun o i H Q => ∃ (p : Addr) (xs : List V) (j : Nat) (z : V), o = .ref p ∧ i = .int (j : Int) ∧ SqL K H p xs ∧ xs[j]? = some z ∧ Q z H
theorem pget_list : PGet X (rGetL X.K) := by
  intro pins s σ H o i ov iv Q I ro ri h
  obtain ⟨p, xs, j, z, rfl, rfl, hq, he, q⟩ := h
  cases ro
  obtain ⟨t, rfl⟩ := ri
  obtain ⟨its, r, pl, hz⟩ := I.list hq
  obtain ⟨w, ew, rw'⟩ := r.get he
  have hl := r.length
  have hn := line63
  have hj := (List.getElem?_eq_some_iff.mp he).1
  exact PyProof.Rows.getItem_listL pl.isList (by omega) (by omega) (by simpa using ew) ⟨z, H, I, rw', q⟩
end
structure BA (H : Hp) (bf : Addr) (ws : List Addr) (cs : List (List Addr)) (L n : Nat) (f : Nat → Nat → List Nat) : Prop where
  wl : ws.length = L
  cl : cs.length = L
  top : H bf = some (.lst (ws.map V.ref))
  mid : ∀ (c : Nat) (w : Addr) (cc : List Addr), ws[c]? = some w → cs[c]? = some cc → H w = some (.lst (cc.map V.ref)) ∧ cc.length = n
  low : ∀ (c t : Nat) (cc : List Addr) (a : Addr), cs[c]? = some cc → cc[t]? = some a → H a = some (.lst ((f c t).map natV))
/-- which addresses these are -/
def BAd (bf : Addr) (ws : List Addr) (cs : List (List Addr)) (a : Addr) : Prop := a = bf ∨ a ∈ ws ∨ ∃ cc ∈ cs, a ∈ cc
theorem BA.keep {H H' : Hp} {bf : Addr} {ws : List Addr} {cs : List (List Addr)} {L n : Nat} {f : Nat → Nat → List Nat} (h : BA H bf ws cs L n f) {W : Addr → Prop} (k : Keep W H H') (nw : ∀ a, BAd bf ws cs a → ¬ W a) : BA H' bf ws cs L n f where
  wl := h.wl
  cl := h.cl
  top := k _ _ (nw _ (.inl rfl)) h.top
  mid := fun c w cc hw hc => by
    obtain ⟨h1, h2⟩ := h.mid c w cc hw hc
    exact ⟨k _ _ (nw _ (.inr (.inl (List.mem_of_getElem? hw)))) h1, h2⟩
  low := fun c t cc a hc ha => k _ _ (nw _ (.inr (.inr ⟨cc, List.mem_of_getElem? hc, List.mem_of_getElem? ha⟩))) (h.low c t cc a hc ha)
theorem BA.same {H H' : Hp} {bf : Addr} {ws : List Addr} {cs : List (List Addr)} {L n : Nat} {f : Nat → Nat → List Nat} (h : BA H bf ws cs L n f) (s : Same H H') : BA H' bf ws cs L n f := h.keep (W := fun _ => False) (Keep.same s) (fun _ _ z => z)
/-- the cells that are being laid -/
structure Cells (H0 H : Hp) (D : Addr) (as : List Addr) : Prop where
  sm : Same H0 H
  top : H D = some (.lst (as.map V.ref))
  low : ∀ a ∈ as, H a = some (.lst []) ∧ H0 a = none
  nd : as.Nodup
  no : D ∉ as
structure Ways (H0 H : Hp) (D : Addr) (n : Nat) (ws : List Addr) (cs : List (List Addr)) : Prop where
  sm : Same H0 H
  top : H D = some (.lst (ws.map V.ref))
  ln : ws.length = cs.length
  mid : ∀ (c : Nat) (w : Addr) (cc : List Addr), ws[c]? = some w → cs[c]? = some cc → H w = some (.lst (cc.map V.ref)) ∧ cc.length = n
  low : ∀ (cc : List Addr) (a : Addr), cc ∈ cs → a ∈ cc → H a = some (.lst []) ∧ H0 a = none
  fw : ∀ w ∈ ws, H0 w = none
  nd : cs.flatten.Nodup
  nw : ∀ a ∈ cs.flatten, a ∉ ws ∧ a ≠ D
  dw : D ∉ ws
theorem ite_iff {p q : Prop} [Decidable p] [Decidable q] {α : Type} {a b : α} (h : p ↔ q) : (if p then a else b) = if q then a else b := by
  by_cases z : p
  · rw [if_pos z, if_pos (h.mp z)]
  · rw [if_neg z, if_neg (fun y => z (h.mpr y))]
theorem sfree {H H' : Hp} {p : Addr} (s : Same H H') (h : H' p = none) : H p = none := by
  cases e : H p with
  | none => rfl
  | some o =>
    rw [s _ _ e] at h
    cases h
theorem Cells.step {H0 H : Hp} {D a : Addr} {as : List Addr} (h : Cells H0 H D as) (nD : H0 D = none) (na : H a = none) : Cells H0 (upd (upd H a (.lst [])) D (.lst (as.map V.ref ++ [.ref a]))) D (as ++ [a]) := by
  have aD : a ≠ D := fun z => by rw [z, h.top] at na; cases na
  have nas : ∀ x ∈ as, x ≠ a := fun x hx z => by rw [← z, (h.low x hx).1] at na; cases na
  have nad : ∀ x ∈ as, x ≠ D := fun x hx z => h.no (z ▸ hx)
  refine ⟨fun b u e => ?_, by rw [upd_same, List.map_append]; rfl, fun x hx => ?_, ?_, fun q => ?_⟩
  · have h1 := h.sm _ _ e
    rw [upd_ne (ne_of_none e nD), upd_ne (ne_of_none h1 na)]
    exact h1
  · rcases List.mem_append.mp hx with hx | hx
    · obtain ⟨h1, h2⟩ := h.low x hx
      exact ⟨by rw [upd_ne (nad x hx), upd_ne (nas x hx)]; exact h1, h2⟩
    · rw [List.mem_singleton.mp hx]
      exact ⟨by rw [upd_ne aD, upd_same], sfree h.sm na⟩
  · rw [List.nodup_append]
    refine ⟨h.nd, List.nodup_cons.mpr ⟨List.not_mem_nil, List.nodup_nil⟩, fun x hx y hy => ?_⟩
    rw [List.mem_singleton.mp hy]
    exact nas x hx
  · rcases List.mem_append.mp q with q | q
    · exact h.no q
    · exact aD (List.mem_singleton.mp q).symm
theorem Ways.step {H0 H1 H2 : Hp} {D D2 : Addr} {n : Nat} {ws : List Addr} {cs : List (List Addr)} {as : List Addr} (h : Ways H0 H1 D n ws cs) (g : Cells H1 H2 D2 as) (nD : H0 D = none) (nD2 : H1 D2 = none) (hl : as.length = n) :
    Ways H0 (upd H2 D (.lst (ws.map V.ref ++ [.ref D2]))) D n (ws ++ [D2]) (cs ++ [as]) := by
  have dd : D2 ≠ D := fun z => by rw [z, h.top] at nD2; cases nD2
  have wS : ∀ w ∈ ws, ∃ o, H1 w = some o := fun w hw => by
    obtain ⟨c, hc⟩ := List.mem_iff_getElem?.mp hw
    have l := (List.getElem?_eq_some_iff.mp hc).1
    exact ⟨_, (h.mid c w _ hc (List.getElem?_eq_getElem (by rw [← h.ln]; exact l))).1⟩
  have oldS : ∀ a ∈ cs.flatten, H1 a = some (.lst []) := fun a ha => by
    obtain ⟨cc, h1, h2⟩ := List.mem_flatten.mp ha
    exact (h.low cc a h1 h2).1
  have nas : ∀ a ∈ as, a ≠ D := fun a ha z => by
    have := (g.low a ha).2
    rw [z, h.top] at this
    cases this
  have fl : (cs ++ [as]).flatten = cs.flatten ++ as := by simp
  refine ⟨fun b u e => ?_, by rw [upd_same, List.map_append]; rfl, by rw [List.length_append, List.length_append, h.ln]; rfl, fun c w cc hw hc => ?_, fun cc a hcc ha => ?_, fun w hw => ?_, ?_, fun a ha => ?_, fun q => ?_⟩
  · rw [upd_ne (ne_of_none e nD)]
    exact g.sm _ _ (h.sm _ _ e)
  · rcases Nat.lt_or_ge c ws.length with l | l
    · rw [List.getElem?_append_left l] at hw
      rw [List.getElem?_append_left (by rw [← h.ln]; exact l)] at hc
      obtain ⟨h1, h2⟩ := h.mid c w cc hw hc
      exact ⟨by rw [upd_ne (show w ≠ D from fun z => h.dw (by rw [← z]; exact List.mem_of_getElem? hw))]; exact g.sm _ _ h1, h2⟩
    · have l2 := (List.getElem?_eq_some_iff.mp hw).1
      rw [List.length_append, List.length_singleton] at l2
      have e : c = ws.length := by omega
      rw [e, List.getElem?_append_right (Nat.le_refl _), Nat.sub_self] at hw
      rw [e, h.ln, List.getElem?_append_right (Nat.le_refl _), Nat.sub_self] at hc
      cases hw
      cases hc
      exact ⟨by rw [upd_ne dd]; exact g.top, hl⟩
  · rcases List.mem_append.mp hcc with hcc | hcc
    · obtain ⟨h1, h2⟩ := h.low cc a hcc ha
      exact ⟨by rw [upd_ne (h.nw a (List.mem_flatten.mpr ⟨cc, hcc, ha⟩)).2]; exact g.sm _ _ h1, h2⟩
    · rw [List.mem_singleton.mp hcc] at ha
      obtain ⟨h1, h2⟩ := g.low a ha
      exact ⟨by rw [upd_ne (nas a ha)]; exact h1, sfree h.sm h2⟩
  · rcases List.mem_append.mp hw with hw | hw
    · exact h.fw w hw
    · rw [List.mem_singleton.mp hw]
      exact sfree h.sm nD2
  · rw [fl, List.nodup_append]
    refine ⟨h.nd, g.nd, fun x hx y hy e => ?_⟩
    have h1 := oldS x hx
    rw [e, (g.low y hy).2] at h1
    cases h1
  · rw [fl] at ha
    rcases List.mem_append.mp ha with ha | ha
    · refine ⟨fun q => ?_, (h.nw a ha).2⟩
      rcases List.mem_append.mp q with q | q
      · exact (h.nw a ha).1 q
      · have h1 := oldS a ha
        rw [List.mem_singleton.mp q, nD2] at h1
        cases h1
    · refine ⟨fun q => ?_, nas a ha⟩
      rcases List.mem_append.mp q with q | q
      · obtain ⟨o, h1⟩ := wS a q
        rw [(g.low a ha).2] at h1
        cases h1
      · exact g.no ((List.mem_singleton.mp q) ▸ ha)
  · rcases List.mem_append.mp q with q | q
    · exact h.dw q
    · exact dd (List.mem_singleton.mp q).symm
theorem flat_one : ∀ {cs : List (List Addr)} {c c' t t' : Nat} {cc cc' : List Addr} {a : Addr}, cs.flatten.Nodup → cs[c]? = some cc → cs[c']? = some cc' → cc[t]? = some a → cc'[t']? = some a → c = c' ∧ t = t'
  | [], _, _, _, _, _, _, _, _, h, _, _, _ => by cases h
  | x :: cs, c, c', t, t', cc, cc', a, nd, h1, h2, h3, h4 => by
    rw [List.flatten_cons, List.nodup_append] at nd
    obtain ⟨n1, n2, n3⟩ := nd
    have inT : ∀ {c : Nat} {cc : List Addr}, cs[c]? = some cc → a ∈ cc → a ∈ cs.flatten := fun h m => List.mem_flatten.mpr ⟨_, List.mem_of_getElem? h, m⟩
    match c, c', h1, h2 with
    | 0, 0, h1, h2 =>
      cases h1
      cases h2
      have l := (List.getElem?_eq_some_iff.mp h3).1
      exact ⟨rfl, (List.getElem?_inj l n1).mp (h3.trans h4.symm)⟩
    | 0, c' + 1, h1, h2 =>
      cases h1
      exact absurd rfl (n3 a (List.mem_of_getElem? h3) a (inT h2 (List.mem_of_getElem? h4)))
    | c + 1, 0, h1, h2 =>
      cases h2
      exact absurd rfl (n3 a (List.mem_of_getElem? h4) a (inT h1 (List.mem_of_getElem? h3)))
    | c + 1, c' + 1, h1, h2 =>
      obtain ⟨e1, e2⟩ := flat_one n2 h1 h2 h3 h4
      exact ⟨congrArg (· + 1) e1, e2⟩
theorem Ways.ba {H0 H : Hp} {D : Addr} {n L : Nat} {ws : List Addr} {cs : List (List Addr)} (h : Ways H0 H D n ws cs) (hl : ws.length = L) : BA H D ws cs L n (fun _ _ => []) :=
  ⟨hl, by rw [← h.ln]; exact hl, h.top, h.mid, fun c t cc a hc ha => (h.low cc a (List.mem_of_getElem? hc) (List.mem_of_getElem? ha)).1⟩
theorem BA.add {H : Hp} {D : Addr} {n L : Nat} {ws : List Addr} {cs : List (List Addr)} {f f' : Nat → Nat → List Nat} (h : BA H D ws cs L n f) (nd : cs.flatten.Nodup) (nw : ∀ a ∈ cs.flatten, a ∉ ws ∧ a ≠ D) {c t : Nat} {cc : List Addr} {a : Addr} (hc : cs[c]? = some cc) (ha : cc[t]? = some a)
    (hf : ∀ c' t', f' c' t' = if c' = c ∧ t' = t then f' c t else f c' t') : BA (upd H a (.lst ((f' c t).map natV))) D ws cs L n f' := by
  have am : a ∈ cs.flatten := List.mem_flatten.mpr ⟨cc, List.mem_of_getElem? hc, List.mem_of_getElem? ha⟩
  obtain ⟨aw, aD⟩ := nw a am
  refine ⟨h.wl, h.cl, by rw [upd_ne aD.symm]; exact h.top, fun c' w cc' h1 h2 => ?_, fun c' t' cc' a' h1 h2 => ?_⟩
  · obtain ⟨g1, g2⟩ := h.mid c' w cc' h1 h2
    exact ⟨by rw [upd_ne (show w ≠ a from fun z => aw (by rw [← z]; exact List.mem_of_getElem? h1))]; exact g1, g2⟩
  · by_cases e : a' = a
    · subst e
      obtain ⟨e1, e2⟩ := flat_one nd h1 hc h2 ha
      rw [e1, e2, upd_same]
    · rw [upd_ne e, hf, if_neg]
      · exact h.low c' t' cc' a' h1 h2
      · rintro ⟨rfl, rfl⟩
        rw [hc] at h1
        cases h1
        rw [ha] at h2
        exact e (Option.some.inj h2).symm
section
variable {P : Program} {w : World} {K : PySem.W.Frag} {mg : Str → Option Value} {base : Heap}
theorem scSources : FnScope ["letters", "rows", "order", "before", "_", "state", "letter", "target"] ["letters", "rows", "order"] (defScope sSources) := ⟨rfl, rfl, rfl, by decide +kernel, rfl, by decide +kernel, by decide +kernel⟩
def spSources : Sp := fun vs H Q _ => ∃ (L : Nat) (rs : Rows) (t u : Bool) (pr od : Addr) (rvs : List V) (ord : List Nat), vs = [.int (L : Int), .ref pr, .ref od] ∧ GOk L rs ∧ GA H L rs t u pr rvs ∧ H od = some (.lst (ord.map natV)) ∧ (∀ u ∈ ord, u < rs.length) ∧ ord.length ≤ 200000 ∧
  ∀ (H' : Hp) (bf : Addr) (ws : List Addr) (cs : List (List Addr)), Same H H' → (∀ a, BAd bf ws cs a → H a = none) → BA H' bf ws cs L rs.length (fun c t => ord.filter fun s => decide (nx rs s c = some t)) → Q (.ref bf) H'
theorem ok_sources {f : Addr} {fd : FuncData} (F : Fun K "sources" "sources" sSources f fd) (T : Mg mg) : FnOk P w K mg base CX0 1 f fd ["letters", "rows", "order"] spSources := by
  refine F.ok scSources (fun vs H Q E h => ?_) (fun cdv A outer s H vs Q E hr h => ?_)
  · obtain ⟨L, rs, kt, ku, pr, od, rvs, ord, rfl, _⟩ := h
    rfl
  · obtain ⟨L, rs, kt, ku, pr, od, rvs, ord, rfl, M, MM, hod, olt, ol4, k⟩ := h
    have l4 := M.lN
    have L3 := M.L3
    refine ⟨_, (pss_cons (ps_setLc (i := 3) (own := [("_", 4)]) (g := gName 4) (tt := tYes) rfl scSources.nd rfl rfl (sw_true rfl rfl rfl (by decide +kernel)) (pi_range1 (by rfl) T.range (pa_cons (pv 0) pa_nil)) (blkOk_by (N := ["letters", "rows", "order", "before", "_", "state", "letter", "target"]) (sc := defScope sSources) (by decide +kernel)) (fun _ _ _ _ _ => pg_name (i := 4) scSources.nd rfl (Or.inl rfl)) (fun _ _ _ _ _ => pts_nil) (fun _ _ _ _ _ => (pe_lc (wi := iSeq K _) (own := [("_", 4)]) (g := gName 4) (tt := tYes) rfl scSources.nd (pi_seq (pv 1)) (blkOk_by (by kernel_rfl)) (fun _ _ _ _ _ => pg_name (i := 4) scSources.nd rfl (Or.inl rfl)) (fun _ _ _ _ _ => pts_nil) (fun _ _ _ _ _ => (pe_lst pa_nil)))))
      (pss_cons (ps_for PassesOwn.never rfl (pi_list (pv 2)) (pg_name (i := 5) scSources.nd rfl (.inl rfl)) (pss_one (ps_for PassesOwn.never rfl (pi_enumQ (by rfl) T.enum (pa_cons (pe_ix (r := rIxQ) ix_any (pv 1) (pv 5) (fun _ _ => rfl)) pa_nil)) (pg_tup rfl (pgs_cons (pg_name (i := 6) scSources.nd rfl (.inl rfl)) (pgs_cons (pg_name (i := 7) scSources.nd rfl (.inl rfl)) pgs_nil))) (pss_one (ps_if (pt_cmp (pc_notN (pv 7))) (pss_one (ps_expr (pe_bm PySem.F.plainAttrs_list PySem.F.slot_list_append PySem.F.type_list_append mt_append (pe_ix (r := rIxL K) ix_list (pe_ix (r := rIxL K) ix_list (pv 3) (pv 6) (fun _ _ => rfl)) (pv 7) (fun _ _ => rfl)) (pa_cons (pv 5) pa_nil)))) pss_nil)))))
      (pss_one (ps_ret (pv 3))))), ?_⟩
    refine ⟨_, rfl, (L : Int), rfl, by omega, by omega, fun D nD => ?_⟩
    refine lc_range (lo := 0) (n := (L : Int).toNat) (fun j H' => ∃ ws cs, Ways H H' D rs.length ws cs ∧ ws.length = j) ⟨[], [], ⟨same_new nD, upd_same, rfl, (fun c w cc h => by cases h), fun cc a h => absurd h List.not_mem_nil, fun w h => absurd h List.not_mem_nil, List.nodup_nil, fun a h => absurd h List.not_mem_nil, List.not_mem_nil⟩, rfl⟩ ?_ ?_
    · rintro j H1 hj ⟨ws, cs, W1, lw⟩
      have MM1 := MM.same W1.sm
      refine ⟨rfl, _, rfl, kt, pr, _, rfl, MM1.hr, fun D2 nD2 => ?_⟩
      refine lc_seq (t := kt) (K := K) (a := pr) (xs := rvs) (fun i H' => ∃ as, Cells H1 H' D2 as ∧ as.length = i) ⟨[], ⟨same_new nD2, upd_same, fun a h => absurd h List.not_mem_nil, List.nodup_nil, List.not_mem_nil⟩, rfl⟩ (fun i H' _ q => by
        obtain ⟨as, C, _⟩ := q
        exact (MM1.same C.sm).hr) ?_ ?_
      · rintro i x H2 hx ⟨as, C, la⟩
        have hi := (List.getElem?_eq_some_iff.mp hx).1
        rw [MM.hl] at hi
        refine ⟨rfl, by show 0 ≤ sizeLine; decide, fun a na => ?_⟩
        have aD : D2 ≠ a := fun z => by rw [← z, C.top] at na; cases na
        exact ⟨_, by rw [upd_ne aD]; exact C.top, (by rw [List.length_map]; exact Nat.lt_of_lt_of_le (show as.length < 1000000 by omega) (by decide)), as ++ [a], C.step nD2 na, by rw [List.length_append, la]; rfl⟩
      · rintro H2 ⟨as, C, la⟩
        exact ⟨_, C.sm _ _ W1.top, small1000 (by rw [List.length_map]; omega), ws ++ [D2], cs ++ [as], W1.step C nD nD2 (by rw [la]; exact MM.hl), by rw [List.length_append, lw]; rfl⟩
    · rintro H1 ⟨ws, cs, W1, lw⟩
      rw [Int.toNat_natCast] at lw
      have B1 := W1.ba lw
      have hod1 := W1.sm _ _ hod
      have nwo : ∀ a, BAd D ws cs a → H a = none := fun a z => by
        rcases z with rfl | z | ⟨cc, h1, h2⟩
        · exact nD
        · exact W1.fw a z
        · exact (W1.low cc a h1 h2).2
      refine ⟨_, rfl, od, rfl, ⟨_, SqL.of hod1⟩, ?_⟩
      refine for_list (K := K) (a := od) (xs := ord.map natV) (fun i σ H' => (∃ y5 y6 y7 : Option V, σ = [some (.int (L : Int)), some (.ref pr), some (.ref od), some (.ref D), none, y5, y6, y7]) ∧ Same H H' ∧ BA H' D ws cs L rs.length (fun c t => (ord.take i).filter fun s => decide (nx rs s c = some t)))
        ⟨⟨_, _, _, rfl⟩, W1.sm, B1⟩ (fun i σ H' _ p => SqL.of (p.2.1 _ _ hod)) ?_ (fun σ H' p => ?_)
      · rintro i x σ H2 hx ⟨⟨y5, y6, y7, rfl⟩, sm, Bi⟩
        obtain ⟨u, hu, rfl⟩ := natV_of hx
        have hun := olt u (List.mem_of_getElem? hu)
        have hrow : rs[u]? = some rs[u] := List.getElem?_eq_getElem hun
        have hmr := List.getElem_mem hun
        have hnx : ∀ c, nx rs u c = (rs[u]).getD c none := fun c => by
          unfold nx
          rw [getD_at hun]
        generalize rs[u] = row at *
        obtain ⟨q, hq1, hq0⟩ := MM.row u row hrow
        have tk : ord.take (i + 1) = ord.take i ++ [u] := by rw [List.take_add_one, hu]; rfl
        refine ⟨_, rfl, _, rfl, kt, pr, rvs, (u : Int), _, rfl, rfl, MM.hr.same sm, atI_nat hq1, ku, q, _, rfl, hq0.same sm, ?_⟩
        refine for_it (walk_enumQ (t := ku) (K := K) (a := q) (xs := row.map oV)) (fun j σ H' => (∃ y6 y7 : Option V, σ = [some (.int (L : Int)), some (.ref pr), some (.ref od), some (.ref D), none, some (.int (u : Int)), y6, y7]) ∧ Same H H' ∧ ∃ f, BA H' D ws cs L rs.length f ∧ ∀ c t, f c t = ((ord.take i).filter fun s => decide (nx rs s c = some t)) ++ if c < j ∧ nx rs u c = some t then [u] else [])
          ⟨⟨_, _, rfl⟩, sm, _, Bi, fun c t => by rw [if_neg (by omega), List.append_nil]⟩ (fun j σ H' _ p => hq0.same p.2.1) ?_ ?_
        · rintro j x σ H3 H4 hj ⟨⟨y6, y7, rfl⟩, sm3, f, Bf, hf⟩ ⟨T1, va, vb, rfl, nT, rfl, ea, eb2⟩
          cases ea
          replace eb2 : (row.map oV)[j]? = some vb := eb2
          rw [List.getElem?_map] at eb2
          obtain ⟨tg, hjt, rfl⟩ := Option.map_eq_some_iff.mp eb2
          have sT := same_new (o := .tup [V.int (j : Nat), oV tg]) nT
          have nxj : nx rs u j = tg := by rw [hnx, List.getD_eq_getElem?_getD, hjt]; rfl
          have jL : j < L := by
            have := (List.getElem?_eq_some_iff.mp hjt).1
            rw [M.row row hmr] at this
            exact this
          have Bf := Bf.same sT
          have sm4 := sm3.trans sT
          refine ⟨T1, _, rfl, SqT.of upd_same, rfl, _, _, rfl, _, _, rfl, rfl, ?_⟩
          generalize upd H3 T1 (.tup [V.int (j : Nat), oV tg]) = G at *
          refine ⟨_, rfl, _, rfl, ?_⟩
          cases tg with
          | none =>
            refine ⟨⟨_, _, rfl⟩, sm4, f, Bf, fun c t => ?_⟩
            rw [hf]
            congr 1
            by_cases e : c = j
            · rw [e, nxj, if_neg (by rintro ⟨_, z⟩; cases z), if_neg (by rintro ⟨_, z⟩; cases z)]
            · have : (c < j + 1 ∧ nx rs u c = some t) ↔ (c < j ∧ nx rs u c = some t) := by
                constructor
                · rintro ⟨a1, a2⟩
                  exact ⟨by omega, a2⟩
                · rintro ⟨a1, a2⟩
                  exact ⟨by omega, a2⟩
              exact ite_iff this.symm
          | some t =>
            have tl := M.tgt row hmr t (List.mem_of_getElem? hjt)
            obtain ⟨w0, hw⟩ : ∃ w0, ws[j]? = some w0 := ⟨_, List.getElem?_eq_getElem (by rw [lw]; exact jL)⟩
            obtain ⟨cc, hcc⟩ : ∃ cc, cs[j]? = some cc := ⟨_, List.getElem?_eq_getElem (by rw [Bf.cl]; exact jL)⟩
            obtain ⟨g1, g2⟩ := Bf.mid j w0 cc hw hcc
            obtain ⟨a, hca⟩ : ∃ a, cc[t]? = some a := ⟨_, List.getElem?_eq_getElem (by rw [g2]; exact tl)⟩
            have g3 := Bf.low j t cc a hcc hca
            have fe : f j t = ((ord.take i).filter fun s => decide (nx rs s j = some t)) := by rw [hf, if_neg (by omega), List.append_nil]
            have fl : (f j t).length ≤ 200000 := by
              rw [fe]
              refine Nat.le_trans (List.length_filter_le _ _) ?_
              rw [List.length_take]
              omega
            have am : BAd D ws cs a := .inr (.inr ⟨cc, List.mem_of_getElem? hcc, List.mem_of_getElem? hca⟩)
            refine ⟨_, rfl, _, rfl, D, _, (j : Int), V.ref w0, rfl, rfl, SqL.of Bf.top, atI_nat (v := V.ref w0) (by rw [List.getElem?_map, hw]; rfl), _, rfl, w0, _, (t : Int), V.ref a, rfl, rfl, SqL.of g1, atI_nat (v := V.ref a) (by rw [List.getElem?_map, hca]; rfl), .inl ⟨rfl, _, SqL.of g3⟩, _, rfl, a, _, _, rfl, rfl, g3, (by rw [List.length_map]; exact Nat.lt_of_lt_of_le (show (f j t).length < 1000000 by omega) (by decide)), ?_⟩
            have ev : (f j t).map natV ++ [V.int (u : Int)] = ((fun c' t' => ((ord.take i).filter fun s => decide (nx rs s c' = some t')) ++ if c' < j + 1 ∧ nx rs u c' = some t' then [u] else []) j t).map natV := by
              show _ = (((ord.take i).filter fun s => decide (nx rs s j = some t)) ++ if j < j + 1 ∧ nx rs u j = some t then [u] else []).map natV
              rw [if_pos ⟨Nat.lt_succ_self _, nxj⟩, List.map_append, fe]
              rfl
            rw [ev]
            refine ⟨⟨_, _, rfl⟩, fun b o e => ?_, _, Bf.add (f' := fun c' t' => ((ord.take i).filter fun s => decide (nx rs s c' = some t')) ++ if c' < j + 1 ∧ nx rs u c' = some t' then [u] else []) W1.nd W1.nw hcc hca fun c' t' => ?_, fun c t => rfl⟩
            · rw [upd_ne (fun z => by rw [z, nwo a am] at e; cases e)]
              exact sm4 _ _ e
            · by_cases e : c' = j ∧ t' = t
              · rw [if_pos e, e.1, e.2]
              · rw [if_neg e, hf]
                congr 1
                have : (c' < j + 1 ∧ nx rs u c' = some t') ↔ (c' < j ∧ nx rs u c' = some t') := by
                  constructor
                  · rintro ⟨a1, a2⟩
                    refine ⟨?_, a2⟩
                    by_cases y : c' = j
                    · rw [y, nxj] at a2
                      exact absurd ⟨y, (Option.some.inj a2).symm⟩ e
                    · omega
                  · rintro ⟨a1, a2⟩
                    exact ⟨by omega, a2⟩
                exact ite_iff this
        · rintro σ H3 ⟨⟨y6, y7, rfl⟩, sm3, f, Bf, hf⟩
          refine ⟨⟨_, _, _, rfl⟩, sm3, ?_⟩
          have : f = fun c t => (ord.take (i + 1)).filter fun s => decide (nx rs s c = some t) := by
            funext c t
            rw [hf, tk, List.filter_append, List.filter_cons, List.filter_nil]
            congr 1
            by_cases e : nx rs u c = some t
            · have cl := (nx_lt M.row e).2.1
              rw [if_pos ⟨by rw [List.length_map, M.row row hmr]; exact cl, e⟩, if_pos (decide_eq_true e)]
            · rw [if_neg (fun z => e z.2), if_neg (by rw [decide_eq_true_eq]; exact e)]
          rw [← this]
          exact Bf
      · obtain ⟨⟨y5, y6, y7, rfl⟩, sm, Bi⟩ := p
        rw [List.length_map, List.take_length] at Bi
        exact ⟨_, rfl, k H' D ws cs sm nwo Bi⟩
end
def NInv {α : Type} (f : α → V) (xs : List α) (H : Hp) (D : Addr) (i : Nat) (H' : Hp) : Prop := Same H H' ∧ H' D = some (.lst ((xs.take i).map f))
theorem nstart {α : Type} {f : α → V} {xs : List α} {H : Hp} {D : Addr} (hD : H D = none) : NInv f xs H D 0 (upd H D (.lst [])) := ⟨same_new hD, upd_same⟩
theorem nturn {α : Type} {f : α → V} {xs : List α} {H H' H'' : Hp} {D : Addr} {i : Nat} {x : α} (hz : xs.length < sizeLine) (hD : H D = none) (hx : xs[i]? = some x) (p : NInv f xs H D i H') (s2 : Same H' H'') :
    ∃ acc, H'' D = some (.lst acc) ∧ acc.length < sizeLine ∧ NInv f xs H D (i + 1) (upd H'' D (.lst (acc ++ [f x]))) := by
  obtain ⟨sm, hl⟩ := p
  refine ⟨_, s2 _ _ hl, ?_, fun b o q => ?_, ?_⟩
  · rw [List.length_map, List.length_take]
    omega
  · rw [upd_ne (ne_of_none q hD)]
    exact s2 _ _ (sm _ _ q)
  · rw [upd_same, List.take_add_one, hx, List.map_append]
    rfl
theorem nend {α : Type} {f : α → V} {xs : List α} {H H' : Hp} {D : Addr} {n : Nat} (e : n = xs.length) (p : NInv f xs H D n H') : Same H H' ∧ H' D = some (.lst (xs.map f)) := by
  obtain ⟨sm, hl⟩ := p
  rw [e, List.take_length] at hl
  exact ⟨sm, hl⟩
def KInv {α : Type} (t : α → Bool) (f : α → V) (xs : List α) (H : Hp) (D : Addr) (i : Nat) (H' : Hp) : Prop := Same H H' ∧ H' D = some (.lst (((xs.take i).filter t).map f))
theorem kstart {α : Type} {t : α → Bool} {f : α → V} {xs : List α} {H : Hp} {D : Addr} (hD : H D = none) : KInv t f xs H D 0 (upd H D (.lst [])) := ⟨same_new hD, upd_same⟩
theorem kyes {α : Type} {t : α → Bool} {f : α → V} {xs : List α} {H H' H'' : Hp} {D : Addr} {i : Nat} {x : α} (hz : xs.length < sizeLine) (hD : H D = none) (hx : xs[i]? = some x) (ht : t x = true) (p : KInv t f xs H D i H') (s2 : Same H' H'') :
    ∃ acc, H'' D = some (.lst acc) ∧ acc.length < sizeLine ∧ KInv t f xs H D (i + 1) (upd H'' D (.lst (acc ++ [f x]))) := by
  obtain ⟨sm, hl⟩ := p
  refine ⟨_, s2 _ _ hl, ?_, fun b o q => ?_, ?_⟩
  · rw [List.length_map]
    have h1 := List.length_filter_le t (xs.take i)
    rw [List.length_take] at h1
    omega
  · rw [upd_ne (ne_of_none q hD)]
    exact s2 _ _ (sm _ _ q)
  · rw [upd_same, List.take_add_one, hx, List.filter_append, List.map_append]
    show _ = some (HO.lst (_ ++ ([x].filter t).map f))
    rw [List.filter_cons, if_pos ht]
    rfl
theorem kno {α : Type} {t : α → Bool} {f : α → V} {xs : List α} {H H' H'' : Hp} {D : Addr} {i : Nat} {x : α} (hx : xs[i]? = some x) (ht : t x = false) (p : KInv t f xs H D i H') (s2 : Same H' H'') : KInv t f xs H D (i + 1) H'' := by
  obtain ⟨sm, hl⟩ := p
  refine ⟨sm.trans s2, ?_⟩
  rw [s2 _ _ hl, List.take_add_one, hx, List.filter_append, List.map_append]
  show _ = some (HO.lst (_ ++ ([x].filter t).map f))
  rw [List.filter_cons, if_neg (by rw [ht]; exact Bool.false_ne_true)]
  simp
theorem kend {α : Type} {t : α → Bool} {f : α → V} {xs : List α} {H H' : Hp} {D : Addr} {n : Nat} (e : n = xs.length) (p : KInv t f xs H D n H') : Same H H' ∧ H' D = some (.lst ((xs.filter t).map f)) := by
  obtain ⟨sm, hl⟩ := p
  rw [e, List.take_length] at hl
  exact ⟨sm, hl⟩
def rListL (K : PySem.W.Frag) : List V → Hp → VK → Prop := fun xs H Q => ∃ p ys, xs = [.ref p] ∧ (SqL K H p ys ∨ SqT K H p ys) ∧ ∀ l, H l = none → Q (.ref l) (upd H l (.lst ys))
/-- what is marked, what waits -/
structure Ld (n : Nat) (f : Nat → Nat → List Nat) (L : Nat) (Pd : Nat → Prop) (goals M F : List Nat) (x : Nat → Nat → Prop) : Prop where
  nd : M.Nodup
  lt : ∀ s ∈ M, s < n
  so : ∀ s ∈ M, Pd s
  go : ∀ s ∈ goals, s ∈ M
  fs : ∀ s ∈ F, s ∈ M
  cl : ∀ t ∈ M, t ∉ F → ∀ c, c < L → x c t ∨ ∀ s ∈ f c t, s ∈ M
def unm (n : Nat) (M : List Nat) : Nat := ((List.range n).filter fun u => !(decide (u ∈ M))).length
theorem knB_cnt {n : Nat} {M : List Nat} : (knB n M).countP (fun v => decide (v = V.bl false)) = unm n M := by
  unfold knB unm
  rw [List.countP_map, List.countP_eq_length_filter]
  congr 1
  refine List.filter_congr fun u _ => ?_
  show decide (V.bl (decide (u ∈ M)) = V.bl false) = !(decide (u ∈ M))
  cases h : decide (u ∈ M)
  · exact decide_eq_true rfl
  · exact decide_eq_false (fun q => by cases q)
theorem unm_push {n s : Nat} {M : List Nat} (hs : s < n) (hn : s ∉ M) : unm n (M ++ [s]) + 1 = unm n M := by
  unfold unm
  have h1 : ((List.range n).filter fun u => !(decide (u ∈ M ++ [s]))) = ((List.range n).filter fun u => !(decide (u ∈ M))).filter fun u => !(decide (u ∈ [s])) := by
    rw [List.filter_filter]
    refine List.filter_congr fun u _ => ?_
    by_cases a : u ∈ M
    · rw [decide_eq_true a, decide_eq_true (List.mem_append.mpr (.inl a))]
      simp
    · by_cases b : u ∈ [s]
      · rw [decide_eq_true b, decide_eq_true (List.mem_append.mpr (.inr b))]
        rfl
      · rw [decide_eq_false a, decide_eq_false b, decide_eq_false (fun q => (List.mem_append.mp q).elim a b)]
        rfl
  have h2 := cnt_out (xs := (List.range n).filter fun u => !(decide (u ∈ M))) (ys := [s]) (List.nodup_range.filter _) (List.nodup_cons.mpr ⟨List.not_mem_nil, List.nodup_nil⟩) fun y hy => by
    rw [List.mem_singleton.mp hy]
    exact List.mem_filter.mpr ⟨List.mem_range.mpr hs, by rw [decide_eq_false hn]; rfl⟩
  rw [h1]
  exact h2
theorem Ld.mono {n : Nat} {f : Nat → Nat → List Nat} {L : Nat} {Pd : Nat → Prop} {goals M F F' : List Nat} {x x' : Nat → Nat → Prop} (h : Ld n f L Pd goals M F x) (hF : ∀ s ∈ F', s ∈ F) (hx : ∀ t, t ∈ M → t ∉ F' → ∀ c, c < L → (t ∈ F ∨ x c t) → x' c t ∨ ∀ s ∈ f c t, s ∈ M) : Ld n f L Pd goals M F' x' :=
  ⟨h.nd, h.lt, h.so, h.go, fun s hs => h.fs s (hF s hs), fun t ht hn c hc => by
    by_cases q : t ∈ F
    · exact hx t ht hn c hc (.inl q)
    · rcases h.cl t ht q c hc with z | z
      · exact hx t ht hn c hc (.inr z)
      · exact .inr z⟩
theorem Ld.push {n : Nat} {f : Nat → Nat → List Nat} {L : Nat} {Pd : Nat → Prop} {goals M F : List Nat} {x : Nat → Nat → Prop} (h : Ld n f L Pd goals M F x) {s : Nat} (hs : s < n) (hp : Pd s) (hn : s ∉ M) : Ld n f L Pd goals (M ++ [s]) (F ++ [s]) x where
  nd := by
    rw [List.nodup_append]
    refine ⟨h.nd, List.nodup_cons.mpr ⟨List.not_mem_nil, List.nodup_nil⟩, fun a ha b hb e => ?_⟩
    rw [List.mem_singleton.mp hb] at e
    exact hn (e ▸ ha)
  lt := fun a ha => by
    rcases List.mem_append.mp ha with ha | ha
    · exact h.lt a ha
    · rw [List.mem_singleton.mp ha]
      exact hs
  so := fun a ha => by
    rcases List.mem_append.mp ha with ha | ha
    · exact h.so a ha
    · rw [List.mem_singleton.mp ha]
      exact hp
  go := fun a ha => List.mem_append.mpr (.inl (h.go a ha))
  fs := fun a ha => by
    rcases List.mem_append.mp ha with ha | ha
    · exact List.mem_append.mpr (.inl (h.fs a ha))
    · exact List.mem_append.mpr (.inr ha)
  cl := fun t ht hf c hc => by
    rcases List.mem_append.mp ht with ht | ht
    · rcases h.cl t ht (fun q => hf (List.mem_append.mpr (.inl q))) c hc with q | q
      · exact .inl q
      · exact .inr fun a ha => List.mem_append.mpr (.inl (q a ha))
    · exact absurd (List.mem_append.mpr (.inr ht)) hf
section
variable {P : Program} {w : World} {K : PySem.W.Frag} {mg : Str → Option Value} {base : Heap}
theorem scLeading : FnScope ["before", "goals", "many", "leads", "state", "found", "ways", "source"] ["before", "goals", "many"] (defScope sLeading) := ⟨rfl, rfl, rfl, by decide +kernel, rfl, by decide +kernel, by decide +kernel⟩
def spLeading : Sp := fun vs H Q _ => ∃ (bf gl : Addr) (ws : List Addr) (cs : List (List Addr)) (L n : Nat) (f : Nat → Nat → List Nat) (goals : List Nat) (Pd : Nat → Prop), vs = [.ref bf, .ref gl, .int (n : Int)] ∧ BA H bf ws cs L n f ∧ H gl = some (.lst (goals.map natV)) ∧ 1 ≤ n ∧ n ≤ 200000 ∧ goals.Nodup ∧ (∀ s ∈ goals, s < n ∧ Pd s) ∧
  (∀ c t s, c < L → t < n → s ∈ f c t → s < n ∧ (Pd t → Pd s)) ∧
  ∀ (H' : Hp) (ld : Addr) (M : List Nat), Same H H' → H ld = none → H' ld = some (.lst (knB n M)) → Ld n f L Pd goals M [] (fun _ _ => False) → Q (.ref ld) H'
theorem ok_leading {f : Addr} {fd : FuncData} (F : Fun K "leading" "leading" sLeading f fd) (T : Mg mg) : FnOk P w K mg base CX0 1 f fd ["before", "goals", "many"] spLeading := by
  refine F.ok scLeading (fun vs H Q E h => ?_) (fun cdv A outer s H vs Q E hr h => ?_)
  · obtain ⟨bf, gl, ws, cs, L, n, f, goals, Pd, rfl, _⟩ := h
    rfl
  · obtain ⟨bf, gl, ws, cs, L, n, f, goals, Pd, rfl, BB, hgl, n1, n4, gnd, hgo, hf, k⟩ := h
    have gle : goals.length ≤ n := nodup_len gnd fun u hu => (hgo u hu).1
    refine ⟨_, (pss_cons (ps_set (i := 3) scLeading.nd rfl (.inl rfl) (pe_op op_rep (pe_lst (pa_cons pe_bl pa_nil)) (pv 2)))
      (pss_cons (ps_for PassesOwn.never rfl (pi_list (pv 1)) (pg_name (i := 4) scLeading.nd rfl (.inl rfl)) (pss_one (ps_asg pe_bl (pg_sub (pv 3) (pv 4) set_list))))
      (pss_cons (ps_set (i := 5) scLeading.nd rfl (.inl rfl) (pe_callTy (r := rListL K) call_list_of (by rfl) T.list (by decide +kernel) (pa_cons (pv 1) pa_nil)))
      (pss_cons (ps_while PassesOwn.never (pt_lstT (pv 5)) (pss_cons (ps_set (i := 4) scLeading.nd rfl (.inl rfl) (pe_bm0 PySem.F.plainAttrs_list PySem.F.slot_list_pop PySem.F.type_list_pop mt_pop (pv 5)))
      (pss_one (ps_for PassesOwn.never rfl (pi_list (pv 0)) (pg_name (i := 6) scLeading.nd rfl (.inl rfl)) (pss_one (ps_for PassesOwn.never rfl (pi_list (pe_ix (r := rIxL K) ix_list (pv 6) (pv 4) (fun _ _ => rfl))) (pg_name (i := 7) scLeading.nd rfl (.inl rfl)) (pss_one (ps_if (pt_not (pt_val (pe_ix (r := rIxL K) ix_list (pv 3) (pv 7) (fun _ _ => rfl)))) (pss_cons (ps_asg pe_bl (pg_sub (pv 3) (pv 7) set_list))
      (pss_one (ps_expr (pe_bm PySem.F.plainAttrs_list PySem.F.slot_list_append PySem.F.type_list_append mt_append (pv 5) (pa_cons (pv 7) pa_nil))))) pss_nil))))))))
      (pss_one (ps_ret (pv 3))))))), ?_⟩
    refine ⟨by show 1 ≤ sizeLine; decide, fun t ht => ?_⟩
    have s2 := same_new (o := .lst [.bl false]) ht
    refine ⟨_, rfl, t, (n : Int), [V.bl false], rfl, rfl, upd_same, by omega, by omega, sz_big (by rw [List.length_singleton]; omega), fun ld hk => ?_⟩
    have e0 : (List.replicate (n : Int).toNat [V.bl false]).flatten = knB n [] := by
      refine List.ext_getElem? fun u => ?_
      rw [show (List.replicate (n : Int).toNat [V.bl false]).flatten = List.replicate n (V.bl false) by simp]
      by_cases hu : u < n
      · rw [knB_get hu, List.getElem?_replicate, if_pos hu]
        rfl
      · rw [List.getElem?_eq_none (by rw [List.length_replicate]; omega), List.getElem?_eq_none (by rw [knB_len]; omega)]
    rw [e0]
    have s3 := same_new (o := .lst (knB n [])) hk
    have hld : (upd (upd H t (.lst [.bl false])) ld (.lst (knB n []))) ld = some (.lst (knB n [])) := upd_same
    have sG := s2.trans s3
    have ld0 : H ld = none := s2.free hk
    generalize upd (upd H t (.lst [.bl false])) ld (.lst (knB n [])) = G at *
    have pld : ∀ {H' : Hp} {u : HO}, Same H H' → Same H (upd H' ld u) := fun {H' u} sm b o e => by
      rw [upd_ne (ne_of_none e ld0)]
      exact sm _ _ e
    refine ⟨_, rfl, gl, rfl, ⟨_, SqL.of (sG _ _ hgl)⟩, ?_⟩
    refine for_list (K := K) (a := gl) (xs := goals.map natV) (fun i σ H' => (∃ y4, σ = [some (.ref bf), some (.ref gl), some (.int (n : Int)), some (.ref ld), y4, none, none, none]) ∧ Same H H' ∧ H' ld = some (.lst (knB n (goals.take i)))) ⟨⟨_, rfl⟩, sG, hld⟩ (fun i σ H' _ p => SqL.of (p.2.1 _ _ hgl)) ?_ ?_
    · rintro i x σ H2 hx ⟨⟨y4, rfl⟩, sm, hl⟩
      obtain ⟨u, hu, rfl⟩ := natV_of hx
      have hun := (hgo u (List.mem_of_getElem? hu)).1
      refine ⟨_, rfl, _, rfl, ld, _, (u : Int), u, rfl, rfl, hl, Evl.ixN_nat (by rw [knB_len]; exact hun), ?_⟩
      rw [knB_set]
      exact ⟨⟨_, rfl⟩, pld sm, by rw [upd_same, List.take_add_one, hu]; rfl⟩
    · rintro σ H2 ⟨⟨y4, rfl⟩, sm, hl⟩
      rw [List.length_map, List.take_length] at hl
      refine ⟨_, rfl, gl, _, rfl, .inl (SqL.of (sm _ _ hgl)), fun fd_ hfd => ?_⟩
      have s4 := same_new (o := .lst (goals.map natV)) hfd
      have hl4 := s4 _ _ hl
      have hf4 : (upd H2 fd_ (.lst (goals.map natV))) fd_ = some (.lst (goals.map natV)) := upd_same
      have sm4 := sm.trans s4
      have fd0 : H fd_ = none := sm.free hfd
      have nfl : fd_ ≠ ld := fun z => by rw [z, hl] at hfd; cases hfd
      generalize upd H2 fd_ (.lst (goals.map natV)) = G4 at *
      have pfd : ∀ {H' : Hp} {u : HO}, Same H H' → Same H (upd H' fd_ u) := fun {H' u} sm b o e => by
        rw [upd_ne (ne_of_none e fd0)]
        exact sm _ _ e
      refine while_by (fun σ H' => ∃ (M F : List Nat) (y4 y6 y7 : Option V), σ = [some (.ref bf), some (.ref gl), some (.int (n : Int)), some (.ref ld), y4, some (.ref fd_), y6, y7] ∧ Same H H' ∧ H' ld = some (.lst (knB n M)) ∧ H' fd_ = some (.lst (F.map natV)) ∧ F.length + 2 * unm n M ≤ 1000000 ∧ Ld n f L Pd goals M F (fun _ _ => False))
        (fun (_ : List (Option V)) (H' : Hp) => match H' fd_, H' ld with
          | some (.lst xs), some (.lst ys) => xs.length + 2 * (ys.countP fun v => decide (v = V.bl false))
          | _, _ => 0) ⟨goals, goals, _, _, _, rfl, sm4, hl4, hf4, by have := List.length_filter_le (fun u => !(decide (u ∈ goals))) (List.range n); rw [List.length_range] at this; unfold unm; omega, ⟨gnd, fun s hs => (hgo s hs).1, fun s hs => (hgo s hs).2, fun s hs => hs, fun s hs => hs, fun t ht hn => absurd ht hn⟩⟩ ?_ ?_
      · rintro σ H3 ⟨M, F, y4, y6, y7, rfl, sm3, hl, hF, hμ, Ld3⟩
        refine ⟨_, rfl, fd_, _, rfl, SqL.of hF, ?_⟩
        cases F with
        | nil => exact ⟨_, rfl, k H3 ld M sm3 ld0 hl Ld3⟩
        | cons f0 F0 =>
          have hne : (f0 :: F0) ≠ [] := List.cons_ne_nil _ _
          generalize f0 :: F0 = F at *
          obtain ⟨F', u, eF⟩ : ∃ F' u, F = F' ++ [u] := ⟨F.dropLast, F.getLast hne, (List.dropLast_concat_getLast hne).symm⟩
          subst eF
          have um : u ∈ M := Ld3.fs u (List.mem_append.mpr (.inr List.mem_cons_self))
          have un := Ld3.lt u um
          have upd_ := Ld3.so u um
          rw [List.length_append, List.length_singleton] at hμ
          have hx0 : (!((F' ++ [u]).map natV).isEmpty) = true := by
            rw [List.map_append]
            cases F'.map natV <;> rfl
          rw [if_pos hx0]
          have μ0 : (match H3 fd_, H3 ld with
          | some (.lst xs), some (.lst ys) => xs.length + 2 * (ys.countP fun v => decide (v = V.bl false))
          | _, _ => 0) = F'.length + 1 + 2 * unm n M := by
            rw [hF, hl]
            show ((F' ++ [u]).map natV).length + 2 * _ = _
            rw [knB_cnt, List.length_map, List.length_append]
            rfl
          rw [μ0]
          have em : (F' ++ [u]).map natV = F'.map natV ++ [V.int (u : Int)] := by
            rw [List.map_append]
            rfl
          refine ⟨_, rfl, .inl ⟨rfl, _, SqL.of hF⟩, fd_, _, V.int (u : Int), rfl, rfl, hF, by rw [em]; simp, ?_⟩
          have ed : ((F' ++ [u]).map natV).dropLast = F'.map natV := by rw [em, List.dropLast_concat]
          rw [ed]
          have smp := pfd (u := .lst (F'.map natV)) sm3
          have hl1 : (upd H3 fd_ (.lst (F'.map natV))) ld = some (.lst (knB n M)) := by rw [upd_ne nfl.symm]; exact hl
          have hf1 : (upd H3 fd_ (.lst (F'.map natV))) fd_ = some (.lst (F'.map natV)) := upd_same
          generalize upd H3 fd_ (.lst (F'.map natV)) = G5 at *
          have Ld5 : Ld n f L Pd goals M F' (fun c t => t = u ∧ 0 ≤ c) := Ld3.mono (fun s hs => List.mem_append.mpr (.inl hs)) fun t ht hn c hc q => by
            rcases q with q | q
            · rcases List.mem_append.mp q with q | q
              · exact absurd q hn
              · exact .inl ⟨List.mem_singleton.mp q, Nat.zero_le _⟩
            · exact q.elim
          refine ⟨_, rfl, bf, rfl, ⟨_, SqL.of (BB.same smp).top⟩, ?_⟩
          refine for_list (K := K) (a := bf) (xs := ws.map V.ref) (fun i σ H' => (∃ (M1 F1 : List Nat) (y6 y7 : Option V), σ = [some (.ref bf), some (.ref gl), some (.int (n : Int)), some (.ref ld), some (.int (u : Int)), some (.ref fd_), y6, y7] ∧ Same H H' ∧ H' ld = some (.lst (knB n M1)) ∧ H' fd_ = some (.lst (F1.map natV)) ∧ F1.length + 2 * unm n M1 ≤ F'.length + 2 * unm n M ∧ u ∈ M1 ∧ Ld n f L Pd goals M1 F1 (fun c t => t = u ∧ i ≤ c)))
            ⟨M, F', _, _, rfl, smp, hl1, hf1, Nat.le_refl _, um, Ld5⟩ (fun i σ H' _ p => by
              obtain ⟨M1, F1, _, _, _, sm, _⟩ := p
              exact SqL.of (BB.same sm).top) ?_ ?_
          · rintro i x σ H6 hx ⟨M1, F1, y6, y7, rfl, sm6, hl6, hf6, hm6, um6, Ld6⟩
            rw [List.getElem?_map] at hx
            obtain ⟨w0, hw, rfl⟩ := Option.map_eq_some_iff.mp hx
            have iL : i < L := by
              have := (List.getElem?_eq_some_iff.mp hw).1
              rw [BB.wl] at this
              exact this
            obtain ⟨cc, hcc⟩ : ∃ cc, cs[i]? = some cc := ⟨_, List.getElem?_eq_getElem (by rw [BB.cl]; exact iL)⟩
            obtain ⟨g1, g2⟩ := (BB.same sm6).mid i w0 cc hw hcc
            obtain ⟨a, hca⟩ : ∃ a, cc[u]? = some a := ⟨_, List.getElem?_eq_getElem (by rw [g2]; exact un)⟩
            have g3 := (BB.same sm6).low i u cc a hcc hca
            have g30 := BB.low i u cc a hcc hca
            refine ⟨_, rfl, _, rfl, w0, _, (u : Int), V.ref a, rfl, rfl, SqL.of g1, atI_nat (v := V.ref a) (by rw [List.getElem?_map, hca]; rfl), a, rfl, ⟨_, SqL.of g3⟩, ?_⟩
            refine for_list (K := K) (a := a) (xs := (f i u).map natV) (fun j σ H' => (∃ (M1 F1 : List Nat) (y7 : Option V), σ = [some (.ref bf), some (.ref gl), some (.int (n : Int)), some (.ref ld), some (.int (u : Int)), some (.ref fd_), some (.ref w0), y7] ∧ Same H H' ∧ H' ld = some (.lst (knB n M1)) ∧ H' fd_ = some (.lst (F1.map natV)) ∧ F1.length + 2 * unm n M1 ≤ F'.length + 2 * unm n M ∧ u ∈ M1 ∧ (∀ s ∈ (f i u).take j, s ∈ M1) ∧ Ld n f L Pd goals M1 F1 (fun c t => t = u ∧ i ≤ c)))
              ⟨M1, F1, _, rfl, sm6, hl6, hf6, hm6, um6, fun s hs => absurd hs (by rw [List.take_zero]; exact List.not_mem_nil), Ld6⟩ (fun j σ H' _ p => by
                obtain ⟨M1, F1, _, _, sm, _⟩ := p
                exact SqL.of (sm _ _ g30)) ?_ ?_
            · rintro j x σ H7 hx ⟨M2, F2, y7, rfl, sm7, hl7, hf7, hm7, um7, htk, Ld7⟩
              obtain ⟨v, hv, rfl⟩ := natV_of hx
              obtain ⟨vn, vp⟩ := hf i u v iL un (List.mem_of_getElem? hv)
              have tk : (f i u).take (j + 1) = (f i u).take j ++ [v] := by rw [List.take_add_one, hv]; rfl
              refine ⟨_, rfl, _, rfl, ld, _, (v : Int), _, rfl, rfl, SqL.of hl7, atI_nat (knB_get vn), _, rfl, ?_⟩
              by_cases hin : v ∈ M2
              · rw [decide_eq_true hin]
                refine ⟨M2, F2, _, rfl, sm7, hl7, hf7, hm7, um7, fun s hs => ?_, Ld7⟩
                rw [tk] at hs
                rcases List.mem_append.mp hs with hs | hs
                · exact htk s hs
                · rw [List.mem_singleton.mp hs]
                  exact hin
              · rw [decide_eq_false hin]
                refine ⟨_, rfl, _, rfl, ld, _, (v : Int), v, rfl, rfl, hl7, Evl.ixN_nat (by rw [knB_len]; exact vn), ?_⟩
                rw [knB_set]
                have f8 : (upd H7 ld (.lst (knB n (M2 ++ [v])))) fd_ = some (.lst (F2.map natV)) := by rw [upd_ne nfl]; exact hf7
                have up := unm_push vn hin
                refine ⟨_, rfl, .inl ⟨rfl, _, SqL.of f8⟩, _, rfl, fd_, _, _, rfl, rfl, f8, Nat.lt_of_le_of_lt (show (F2.map natV).length ≤ 1000000 by rw [List.length_map]; omega) (by decide), ?_⟩
                refine ⟨M2 ++ [v], F2 ++ [v], _, rfl, pfd (pld sm7), by rw [upd_ne nfl.symm, upd_same], by rw [upd_same, List.map_append]; rfl, by rw [List.length_append, List.length_singleton]; omega, List.mem_append.mpr (.inl um7), fun s hs => ?_, Ld7.push vn (vp upd_) hin⟩
                rw [tk] at hs
                rcases List.mem_append.mp hs with hs | hs
                · exact List.mem_append.mpr (.inl (htk s hs))
                · exact List.mem_append.mpr (.inr hs)
            · rintro σ H7 ⟨M2, F2, y7, rfl, sm7, hl7, hf7, hm7, um7, htk, Ld7⟩
              rw [List.length_map, List.take_length] at htk
              refine ⟨M2, F2, _, _, rfl, sm7, hl7, hf7, hm7, um7, Ld7.mono (fun s hs => hs) fun t ht hn c hc q => ?_⟩
              rcases q with q | ⟨q1, q2⟩
              · exact absurd q hn
              · by_cases z : c = i
                · subst z
                  subst q1
                  exact .inr htk
                · exact .inl ⟨q1, by omega⟩
          · rintro σ H6 ⟨M1, F1, y6, y7, rfl, sm6, hl6, hf6, hm6, um6, Ld6⟩
            refine ⟨⟨M1, F1, _, _, _, rfl, sm6, hl6, hf6, by omega, Ld6.mono (fun s hs => hs) fun t ht hn c hc q => ?_⟩, ?_⟩
            · rcases q with q | ⟨_, q⟩
              · exact absurd q hn
              · rw [List.length_map, BB.wl] at q
                omega
            · rw [hf6, hl6]
              show (F1.map natV).length + 2 * _ < _
              rw [knB_cnt, List.length_map]
              omega
      · rintro σ H3 Q1 Q2 hQ ⟨x, e1, a, xs, e2, e3, q⟩
        exact ⟨x, e1, a, xs, e2, e3, hQ _ _ q⟩
end
theorem BA.ex {H : Hp} {bf : Addr} {ws : List Addr} {cs : List (List Addr)} {L n : Nat} {f : Nat → Nat → List Nat} (h : BA H bf ws cs L n f) {a : Addr} (ha : BAd bf ws cs a) : ∃ o, H a = some o := by
  rcases ha with rfl | ha | ⟨cc, h1, h2⟩
  · exact ⟨_, h.top⟩
  · obtain ⟨c, hc⟩ := List.mem_iff_getElem?.mp ha
    have l := (List.getElem?_eq_some_iff.mp hc).1
    exact ⟨_, (h.mid c a _ hc (List.getElem?_eq_getElem (by rw [h.cl, ← h.wl]; exact l))).1⟩
  · obtain ⟨c, hc⟩ := List.mem_iff_getElem?.mp h1
    obtain ⟨t, ht⟩ := List.mem_iff_getElem?.mp h2
    exact ⟨_, h.low c t cc a hc ht⟩
theorem reach_nx {rs : Rows} {s c t : Nat} (h : Reach rs s) (e : nx rs s c = some t) : Reach rs t := by
  unfold nx at e
  rw [List.getD_eq_getElem?_getD] at e
  cases e1 : rs[s]? with
  | none =>
    have : rs.getD s [] = [] := by rw [List.getD_eq_getElem?_getD, e1]; rfl
    rw [this] at e
    cases e
  | some row =>
    have : rs.getD s [] = row := by rw [List.getD_eq_getElem?_getD, e1]; rfl
    rw [this] at e
    cases e2 : row[c]? with
    | none =>
      rw [e2] at e
      cases e
    | some o =>
      rw [e2] at e
      have : o = some t := e
      subst this
      exact .s h e1 e2
/-- what leads on among the states that are come to is what lives -/
theorem ld_live {rs : Rows} {es : List Bool} {L n : Nat} {ord M : List Nat} {f : Nat → Nat → List Nat} {Pd : Nat → Prop} (wide : ∀ r ∈ rs, r.length = L) (tgt : ∀ r ∈ rs, ∀ t, some t ∈ r → t < rs.length) (hm : ∀ u, u ∈ ord ↔ Reach rs u) (hf : ∀ c t s, s ∈ f c t ↔ (s ∈ ord ∧ nx rs s c = some t)) (h : Ld n f L Pd (ord.filter fun s => es.getD s false) M [] (fun _ _ => False)) (hP : ∀ s, Pd s → Live rs es s) : ∀ s, Reach rs s → (s ∈ M ↔ Live rs es s) := by
  have key : ∀ (w : List Nat) (s : Nat), Reach rs s → acc rs es w s = true → s ∈ M := by
    intro w
    induction w with
    | nil => exact fun s hs e => h.go s (List.mem_filter.mpr ⟨(hm s).mpr hs, e⟩)
    | cons c w ih =>
      intro s hs e
      cases ep : nx rs s c with
      | none =>
        rw [acc_none ep] at e
        cases e
      | some t =>
        rw [acc_cons ep] at e
        have ht := ih t (reach_nx hs ep) e
        rcases h.cl t ht List.not_mem_nil c (nx_lt wide ep).2.1 with q | q
        · exact q.elim
        · exact q s ((hf c t s).mpr ⟨(hm s).mpr hs, ep⟩)
  exact fun s hs => ⟨fun q => hP s (h.so s q), fun ⟨w, hw⟩ => key w s hs hw⟩
def Wl (L : Nat) (u : List Nat) : Prop := ∀ c ∈ u, c < L
def walkr (gt : Nat → Nat → Nat) (v0 : Nat) : List Nat → Nat
  | [] => v0
  | c :: u => gt (walkr gt v0 u) c
def mkS (cs : List Nat) : Str := ⟨cs.toArray⟩
/-- a list that hides the heap -/
def tLstA (t : TA) : TE := fun σ H Q => t σ H fun xs H1 => xs.length ≤ sizeLine ∧ ∀ p H', Same H1 H' → H1 p = none → p ≠ sysModules → H' p = some (.lst xs) → Q (.ref p) H'
section
variable {X : Cx}
theorem pe_lstA {es : List Expr} {t : TA} {pos : Pos} (ht : PA X es t) : PE X (.List es pos) (tLstA t) := by
  refine ⟨fun pins s σ H Q I h => wpAny_List_spliced (thn (ht.run pos pins s σ H _ I h) ?_)⟩
  rintro us s1 ⟨xs, H1, I1, r, hz, q⟩
  have hl := r.length
  have np := I1.hok.fresh (Nat.le_refl s1.heap.objs.size)
  exact ⟨by rw [← hl]; exact hz, .ref s1.heap.objs.size, _, I1.laid (o := .lst xs) (t' := s1.toks) (fun b u e => Heap.get?_push_of_some _ e) (Nat.le_refl _) ⟨hz, us, 0, r, Heap.get?_push_size _ rfl⟩, rfl, q _ _ (same_new np) np (Nat.ne_of_gt I1.big) upd_same⟩
end
section
variable {α κ : Type} [DecidableEq α] [DecidableEq κ] {f : α → κ}
def opG (f : α → κ) (ks : List α) : List (κ × V) := ks.map fun s => (f s, V.bl true)
theorem og_no {ks : List α} {k : α} (inj : ∀ a b, f a = f b → a = b) (h : k ∉ ks) : ∀ x ∈ opG f ks, ¬ (decide (x.1 = f k) = true) := fun x hx e => by
  obtain ⟨p, hp, rfl⟩ := List.mem_map.mp hx
  exact h (inj _ _ (of_decide_eq_true e) ▸ hp)
theorem og_val (inj : ∀ a b, f a = f b → a = b) : ∀ (ks : List α) (k : α), valV (opG f ks) (f k) = if k ∈ ks then some (.bl true) else none
  | [], k => rfl
  | p :: ks, k => by
    unfold valV opG
    rw [List.map_cons]
    by_cases e : p = k
    · subst e
      rw [List.find?_cons_of_pos (by exact decide_eq_true rfl), if_pos List.mem_cons_self]
      rfl
    · rw [List.find?_cons_of_neg (by rw [decide_eq_true_eq]; exact fun z => e (inj _ _ z))]
      have ih := og_val inj ks k
      unfold valV opG at ih
      rw [ih]
      by_cases m : k ∈ ks
      · rw [if_pos m, if_pos (List.mem_cons_of_mem _ m)]
      · rw [if_neg m, if_neg (fun z => by
          rcases List.mem_cons.mp z with z | z
          · exact e z.symm
          · exact m z)]
theorem og_some (inj : ∀ a b, f a = f b → a = b) (ks : List α) (k : α) : (valV (opG f ks) (f k)).isSome = decide (k ∈ ks) := by
  rw [og_val inj]
  by_cases m : k ∈ ks
  · rw [if_pos m, decide_eq_true m]
    rfl
  · rw [if_neg m, decide_eq_false m]
    rfl
theorem og_put {ks : List α} {k : α} (inj : ∀ a b, f a = f b → a = b) (h : k ∉ ks) : putK (opG f ks) (f k) (.bl true) = opG f (ks ++ [k]) := by
  unfold putK
  rw [if_neg (fun z => by
    obtain ⟨x, hx, e⟩ := List.any_eq_true.mp z
    exact og_no inj h x hx e)]
  unfold opG
  rw [List.map_append]
  rfl
theorem og_len {ks : List α} : (opG f ks).length = ks.length := List.length_map _
end
abbrev opK (ks : List Nat) : List (Key × V) := opG (fun s : Nat => (.inl (s : Int) : Key)) ks
theorem opI : ∀ a b : Nat, (.inl (a : Int) : Key) = .inl (b : Int) → a = b := fun a b e => by
  have := Sum.inl.inj e
  omega
theorem opK_merge : ∀ (more ks : List Nat), (ks ++ more).Nodup → mergeK (opK ks) (opK more) = opK (ks ++ more)
  | [], ks, _ => by rw [List.append_nil]; rfl
  | k :: more, ks, nd => by
    have hk : k ∉ ks := fun z => (List.nodup_append.mp nd).2.2 k z k List.mem_cons_self rfl
    have ih := opK_merge more (ks ++ [k]) (by rw [List.append_assoc]; exact nd)
    rw [List.append_assoc] at ih
    show mergeK (putK (opK ks) (.inl (k : Int)) (.bl true)) (opK more) = opK (ks ++ ([k] ++ more))
    rw [← ih]
    congr 1
    exact og_put opI hk
theorem paired_mem {α β : Type} {F G : α → β → Prop} : ∀ {l₁ : List α} {l₂ : List β}, Paired F l₁ l₂ → (∀ a ∈ l₁, ∀ b, F a b → G a b) → Paired G l₁ l₂
  | _, _, .nil, _ => .nil
  | _, _, .cons r t, f => .cons (f _ List.mem_cons_self _ r) (paired_mem t fun a ha => f a (List.mem_cons_of_mem _ ha))
def inO (ks : List Nat) : Option Nat → Bool
  | none => false
  | some t => decide (t ∈ ks)
def rCatA : R2 := fun x y H Q => ∃ l b xs zs, x = .ref l ∧ y = .ref b ∧ H l = some (.lst xs) ∧ H b = some (.lst zs) ∧ xs.length + zs.length ≤ sizeLine ∧ ∀ p H', Same H H' → H p = none → H' p = some (.lst (xs ++ zs)) → Q (.ref p) H'
section
variable {X : Cx}
theorem op_catA : OpR X (binaryOp .Add) rCatA := by
  intro pins s σ H x y v u Q I rx ry h
  obtain ⟨l, b, xs, zs, rfl, rfl, hx, hy, hz, q⟩ := h
  cases rx
  cases ry
  obtain ⟨_, its, n, r, h1, e⟩ := I.lstM hx
  obtain ⟨_, jts, m, r2, h2, e2⟩ := I.lstM hy
  refine PySem.P.add_list e e2 ?_ (by rw [List.size_toArray, List.size_toArray]; omega)
  rw [show its.toArray ++ jts.toArray = (its ++ jts).toArray by simp]
  exact ⟨.ref _, _, I.lnew (t' := s.toks) (r.append r2) (by rw [List.length_append]; omega), rfl, q _ _ (same_new I.fresh) I.fresh upd_same⟩
end
section
open NdefX LamX
variable {P : Program} {w : World} {K : PySem.W.Frag} {mg : Str → Option Value} {base : Heap}
def gT (g : Nat → List Nat) (v c : Nat) : Nat := (g v).getD c 0
end
def run (rs : Rws) : List Nat → Nat → Option Nat
  | [], s => some s
  | c :: w, s => match nx rs s c with
    | none => none
    | some t => run rs w t
theorem run_cons {rs : Rws} {c s : Nat} {w : List Nat} : run rs (c :: w) s = (nx rs s c).bind (run rs w) := by
  show (match nx rs s c with | none => none | some t => run rs w t) = _
  cases nx rs s c <;> rfl
theorem run_snoc {rs : Rws} {c : Nat} : ∀ (w : List Nat) (s : Nat), run rs (w ++ [c]) s = (run rs w s).bind fun p => nx rs p c
  | [], s => by
    show run rs [c] s = nx rs s c
    rw [run_cons]
    cases nx rs s c <;> rfl
  | d :: w, s => by
    show run rs (d :: (w ++ [c])) s = _
    rw [run_cons, run_cons]
    cases nx rs s d with
    | none => rfl
    | some t => exact run_snoc w t
theorem acc_run {rs : Rws} {es : List Bool} : ∀ (w : List Nat) (s : Nat), acc rs es w s = true ↔ ∃ t, run rs w s = some t ∧ es.getD t false = true
  | [], s => ⟨fun h => ⟨s, rfl, h⟩, fun ⟨t, h1, h2⟩ => by cases h1; exact h2⟩
  | c :: w, s => by
    cases e : nx rs s c with
    | none =>
      rw [acc_none e, run_cons, e]
      exact ⟨fun z => (by cases z), fun ⟨t, h, _⟩ => (by cases h)⟩
    | some t =>
      rw [acc_cons e, run_cons, e]
      exact acc_run w t
theorem nx_at {rs : Rws} {s c t : Nat} : nx rs s c = some t ↔ ∃ row, rs[s]? = some row ∧ row[c]? = some (some t) := by
  unfold nx
  rw [List.getD_eq_getElem?_getD, List.getD_eq_getElem?_getD]
  constructor
  · intro h
    cases e : rs[s]? with
    | none =>
      rw [e] at h
      cases h
    | some row =>
      rw [e, Option.getD_some] at h
      cases e2 : row[c]? with
      | none =>
        rw [e2] at h
        cases h
      | some o =>
        rw [e2] at h
        exact ⟨row, rfl, by rw [e2]; exact congrArg some h⟩
  · rintro ⟨row, h1, h2⟩
    rw [h1, Option.getD_some, h2]
    rfl
theorem reach_on {rs : Rws} {p c s : Nat} (r : Reach rs p) (h : nx rs p c = some s) : Reach rs s := by
  obtain ⟨row, h1, h2⟩ := nx_at.mp h
  exact .s r h1 h2
theorem run_append {rs : Rws} {b : List Nat} : ∀ (a : List Nat) (s : Nat), run rs (a ++ b) s = (run rs a s).bind (run rs b)
  | [], s => rfl
  | c :: a, s => by
    show run rs (c :: (a ++ b)) s = _
    rw [run_cons, run_cons]
    cases nx rs s c with
    | none => rfl
    | some t => exact run_append a t
theorem run_stop {rs : Rws} {es : List Bool} {w : List Nat} {i : Nat} (h : run rs (w.take i) 0 = none) : acc rs es w 0 = false := by
  cases e : acc rs es w 0 with
  | false => rfl
  | true =>
    obtain ⟨t, h1, _⟩ := (acc_run w 0).mp e
    rw [← List.take_append_drop i w, run_append, h] at h1
    cases h1
theorem MOk.nx_lt {L : Nat} {rs : Rows} {es : List Bool} (M : MOk L rs es) {s c t : Nat} (h : nx rs s c = some t) : t < rs.length := by
  obtain ⟨_, _, row, hr, hm⟩ := Ver.nx_lt M.row h
  exact M.tgt row hr t hm
theorem acc_end {rs : Rws} {es : List Bool} {w : List Nat} {t : Nat} (h : run rs w 0 = some t) : acc rs es w 0 = es.getD t false := by
  rw [Bool.eq_iff_iff, acc_run, h]
  exact ⟨fun ⟨_, e, z⟩ => by cases e; exact z, fun z => ⟨t, rfl, z⟩⟩
def endO (es : List Bool) : Option Nat → Bool
  | none => false
  | some u => es.getD u false
theorem endO_acc {rs : Rws} {es : List Bool} {w : List Nat} : endO es (run rs w 0) = acc rs es w 0 := by
  cases e : run rs w 0 with
  | none =>
    have := run_stop (es := es) (w := w) (i := w.length) (rs := rs) (by rw [List.take_length]; exact e)
    rw [this]
    rfl
  | some t => exact (acc_end e).symm
def wS (w : List Nat) : Str := mkS (w.map (97 + ·))
/-- nodes in the order in which they came, rows by their places -/
structure PI (g : Nat → List Nat) (L : Nat) (ns : List Nat) (rows : List (List Nat)) : Prop where
  nd : ns.Nodup
  z : ns[0]? = some 0
  le : rows.length ≤ ns.length
  row : ∀ (i v : Nat) (r : List Nat), rows[i]? = some r → ns[i]? = some v → r.length = L ∧ ∀ c, c < L → ns[r.getD c 0]? = some (gT g v c)
  rch : ∀ v ∈ ns, ∃ u, Wl L u ∧ walkr (gT g) 0 u = v
theorem run_wl {rs : Rws} {L : Nat} (wide : ∀ r ∈ rs, r.length = L) : ∀ (w : List Nat) (s : Nat) {t : Nat}, run rs w s = some t → Wl L w
  | [], _, _, _ => fun c hc => absurd hc List.not_mem_nil
  | c :: w, s, t, h => by
    rw [run_cons] at h
    cases e : nx rs s c with
    | none =>
      rw [e] at h
      cases h
    | some v =>
      rw [e] at h
      intro x hx
      rcases List.mem_cons.mp hx with z | hx
      · rw [z]
        exact (Ver.nx_lt wide e).2.1
      · exact run_wl wide w v h x hx
theorem acc_wide {rs : Rws} {es : List Bool} {L : Nat} (wide : ∀ r ∈ rs, r.length = L) {w : List Nat} {s : Nat} (h : acc rs es w s = true) : Wl L w := by
  obtain ⟨t, hr, _⟩ := (acc_run w s).mp h
  exact run_wl wide w s hr
def vl (ws : List (Nat × Nat)) (t : Nat) : Nat := ((ws.find? fun p => decide (p.1 = t)).map (·.2)).getD 0
def addW (ws : List (Nat × Nat)) (t v : Nat) : List (Nat × Nat) := if t ∈ ws.map Prod.fst then ws.map (fun p => if p.1 = t then (t, p.2 + v) else p) else ws ++ [(t, v)]
def sumW (ws : List (Nat × Nat)) (f : Nat → Nat) : Nat := (ws.map fun p => p.2 * f p.1).sum
def rowStep (v : Nat) (acc : List (Nat × Nat)) : Option Nat → List (Nat × Nat)
  | none => acc
  | some t => addW acc t v
def onwStep (rs : Rws) (acc : List (Nat × Nat)) (p : Nat × Nat) : List (Nat × Nat) := (rs.getD p.1 []).foldl (rowStep p.2) acc
def onw (rs : Rws) (ws : List (Nat × Nat)) : List (Nat × Nat) := ws.foldl (onwStep rs) []
def optF (f : Nat → Nat) : Option Nat → Nat
  | none => 0
  | some t => f t
theorem addW_keys {ws : List (Nat × Nat)} {t v : Nat} (nd : (ws.map Prod.fst).Nodup) : ((addW ws t v).map Prod.fst).Nodup ∧ ∀ k, k ∈ (addW ws t v).map Prod.fst ↔ k ∈ ws.map Prod.fst ∨ k = t := by
  unfold addW
  by_cases h : t ∈ ws.map Prod.fst
  · rw [if_pos h]
    have e : (ws.map fun p => if p.1 = t then (t, p.2 + v) else p).map Prod.fst = ws.map Prod.fst := by
      rw [List.map_map]
      refine List.map_congr_left fun p _ => ?_
      show (if p.1 = t then (t, p.2 + v) else p).1 = p.1
      by_cases z : p.1 = t
      · rw [if_pos z, z]
      · rw [if_neg z]
    rw [e]
    exact ⟨nd, fun k => ⟨.inl, fun q => q.elim id fun z => by rw [z]; exact h⟩⟩
  · rw [if_neg h, List.map_append]
    refine ⟨List.nodup_append.mpr ⟨nd, List.nodup_cons.mpr ⟨List.not_mem_nil, List.nodup_nil⟩, fun a ha b hb e => h (by
      rw [List.mem_singleton.mp hb] at e
      have e : a = t := e
      rw [← e]
      exact ha)⟩, fun k => ?_⟩
    rw [List.mem_append]
    exact ⟨fun q => q.elim .inl fun z => .inr (List.mem_singleton.mp z), fun q => q.elim .inl fun z => .inr (List.mem_singleton.mpr z)⟩
theorem sumW_add {ws : List (Nat × Nat)} {t v : Nat} (nd : (ws.map Prod.fst).Nodup) (f : Nat → Nat) : sumW (addW ws t v) f = sumW ws f + v * f t := by
  unfold addW
  by_cases h : t ∈ ws.map Prod.fst
  · rw [if_pos h]
    induction ws with
    | nil => exact absurd h List.not_mem_nil
    | cons p ws ih =>
      obtain ⟨n1, n2⟩ := List.nodup_cons.mp nd
      unfold sumW at ih ⊢
      rw [List.map_cons, List.map_cons, List.sum_cons, List.map_cons, List.sum_cons]
      by_cases z : p.1 = t
      · rw [if_pos z]
        have e : (ws.map fun q => if q.1 = t then (t, q.2 + v) else q) = ws := by
          conv => rhs; rw [← List.map_id ws]
          refine List.map_congr_left fun q hq => ?_
          have : q.1 ≠ t := fun y => n1 (by rw [z, ← y]; exact List.mem_map_of_mem hq)
          rw [if_neg this]
          rfl
        rw [e, ← z]
        show (p.2 + v) * f p.1 + _ = _
        rw [Nat.add_mul]
        omega
      · rw [if_neg z]
        have h' : t ∈ ws.map Prod.fst := by
          rcases List.mem_cons.mp h with y | y
          · exact absurd y.symm z
          · exact y
        rw [ih n2 h']
        omega
  · rw [if_neg h]
    unfold sumW
    rw [List.map_append, List.sum_append]
    rfl
theorem rows_keys {v : Nat} : ∀ (row : List (Option Nat)) (acc : List (Nat × Nat)), (acc.map Prod.fst).Nodup → ((row.foldl (rowStep v) acc).map Prod.fst).Nodup ∧ ∀ k, k ∈ (row.foldl (rowStep v) acc).map Prod.fst → k ∈ acc.map Prod.fst ∨ some k ∈ row
  | [], acc, nd => ⟨nd, fun k => .inl⟩
  | none :: row, acc, nd => by
    obtain ⟨a, b⟩ := rows_keys row acc nd
    exact ⟨a, fun k hk => (b k hk).elim .inl fun z => .inr (List.mem_cons_of_mem _ z)⟩
  | some t :: row, acc, nd => by
    obtain ⟨a1, b1⟩ := addW_keys (t := t) (v := v) nd
    obtain ⟨a, b⟩ := rows_keys row (addW acc t v) a1
    refine ⟨a, fun k hk => ?_⟩
    rcases b k hk with z | z
    · rcases (b1 k).mp z with y | y
      · exact .inl y
      · rw [y]
        exact .inr List.mem_cons_self
    · exact .inr (List.mem_cons_of_mem _ z)
theorem sumW_row {v : Nat} (f : Nat → Nat) : ∀ (row : List (Option Nat)) (acc : List (Nat × Nat)), (acc.map Prod.fst).Nodup → sumW (row.foldl (rowStep v) acc) f = sumW acc f + v * (row.map (optF f)).sum
  | [], acc, _ => by
    show sumW acc f = sumW acc f + v * 0
    omega
  | none :: row, acc, nd => by
    show sumW (row.foldl (rowStep v) acc) f = _
    rw [sumW_row f row acc nd, List.map_cons, List.sum_cons]
    show _ = sumW acc f + v * (0 + _)
    rw [Nat.zero_add]
  | some t :: row, acc, nd => by
    show sumW (row.foldl (rowStep v) (addW acc t v)) f = _
    rw [sumW_row f row _ (addW_keys nd).1, sumW_add nd, List.map_cons, List.sum_cons]
    show _ = sumW acc f + v * (f t + _)
    rw [Nat.mul_add]
    omega
theorem onw_keys {rs : Rws} : ∀ (ws acc : List (Nat × Nat)), (acc.map Prod.fst).Nodup → ((ws.foldl (onwStep rs) acc).map Prod.fst).Nodup ∧ ∀ k, k ∈ (ws.foldl (onwStep rs) acc).map Prod.fst → k ∈ acc.map Prod.fst ∨ ∃ row ∈ rs, some k ∈ row
  | [], acc, nd => ⟨nd, fun k => .inl⟩
  | p :: ws, acc, nd => by
    obtain ⟨a1, b1⟩ := rows_keys (v := p.2) (rs.getD p.1 []) acc nd
    obtain ⟨a, b⟩ := onw_keys (rs := rs) ws (onwStep rs acc p) a1
    refine ⟨a, fun k hk => ?_⟩
    rcases b k hk with z | z
    · rcases b1 k z with y | y
      · exact .inl y
      · refine .inr ⟨_, ?_, y⟩
        rw [List.getD_eq_getElem?_getD] at y ⊢
        cases e : rs[p.1]? with
        | none =>
          rw [e] at y
          exact absurd y List.not_mem_nil
        | some row => exact List.mem_of_getElem? e
    · exact .inr z
theorem sumW_onw {rs : Rws} (f : Nat → Nat) : ∀ (ws acc : List (Nat × Nat)), (acc.map Prod.fst).Nodup → sumW (ws.foldl (onwStep rs) acc) f = sumW acc f + sumW ws (fun s => ((rs.getD s []).map (optF f)).sum)
  | [], acc, _ => rfl
  | p :: ws, acc, nd => by
    show sumW (ws.foldl (onwStep rs) (onwStep rs acc p)) f = _
    rw [sumW_onw f ws (onwStep rs acc p) (rows_keys (v := p.2) (rs.getD p.1 []) acc nd).1]
    have h1 : sumW (onwStep rs acc p) f = sumW acc f + p.2 * ((rs.getD p.1 []).map (optF f)).sum := sumW_row (v := p.2) f (rs.getD p.1 []) acc nd
    have h2 : sumW (p :: ws) (fun s => ((rs.getD s []).map (optF f)).sum) = p.2 * ((rs.getD p.1 []).map (optF f)).sum + sumW ws (fun s => ((rs.getD s []).map (optF f)).sum) := by
      unfold sumW
      rw [List.map_cons, List.sum_cons]
    rw [h1, h2, Nat.add_assoc]
/-- all words of a length -/
def wordsN (L : Nat) : Nat → List (List Nat)
  | 0 => [[]]
  | n + 1 => (wordsN L n).flatMap fun w => (List.range L).map fun c => w ++ [c]
/-- how many words of a length are of a language -/
def cntP (L : Nat) (p : List Nat → Bool) (n : Nat) : Nat := ((wordsN L n).map fun w => b2n (p w)).sum
def wayN (rs : Rws) : Nat → List (Nat × Nat)
  | 0 => [(0, 1)]
  | n + 1 => onw rs (wayN rs n)
theorem way_keys {L : Nat} {rs : Rows} (M : GOk L rs) : ∀ n, ((wayN rs n).map Prod.fst).Nodup ∧ ∀ k, k ∈ (wayN rs n).map Prod.fst → k < rs.length
  | 0 => ⟨List.nodup_cons.mpr ⟨List.not_mem_nil, List.nodup_nil⟩, fun k hk => by rw [List.mem_singleton.mp hk]; exact M.l1⟩
  | n + 1 => by
    obtain ⟨a, b⟩ := onw_keys (rs := rs) (wayN rs n) [] List.nodup_nil
    refine ⟨a, fun k hk => ?_⟩
    rcases b k hk with z | ⟨row, hr, z⟩
    · exact absurd z List.not_mem_nil
    · exact M.tgt row hr k z
theorem sum_flat {α β : Type} (g : β → Nat) (h : α → List β) : ∀ xs : List α, ((xs.flatMap h).map g).sum = (xs.map fun x => ((h x).map g).sum).sum
  | [] => rfl
  | x :: xs => by
    rw [List.flatMap_cons, List.map_append, List.sum_append, sum_flat g h xs, List.map_cons, List.sum_cons]
theorem row_sum {L : Nat} {rs : Rows} (M : GOk L rs) (f : Nat → Nat) {s : Nat} (hs : s < rs.length) : ((rs.getD s []).map (optF f)).sum = ((List.range L).map fun c => optF f (nx rs s c)).sum := by
  have hr := M.row _ (List.getElem_mem hs)
  have e : (rs.getD s []) = (List.range L).map fun c => nx rs s c := by
    rw [getD_at hs]
    refine List.ext_getElem? fun i => ?_
    rw [List.getElem?_map]
    by_cases hi : i < L
    · rw [List.getElem?_range hi]
      show _ = some (nx rs s i)
      unfold nx
      rw [getD_at hs, getD_at (by omega), List.getElem?_eq_getElem (by omega)]
    · rw [List.getElem?_eq_none (by omega), List.getElem?_eq_none (by rw [List.length_range]; omega)]
      rfl
  rw [e, List.map_map]
  rfl
theorem way_sum {L : Nat} {rs : Rows} (M : GOk L rs) : ∀ (n : Nat) (f : Nat → Nat), sumW (wayN rs n) f = ((wordsN L n).map fun w => optF f (run rs w 0)).sum
  | 0, f => by
    show 1 * f 0 + 0 = f 0 + 0
    omega
  | n + 1, f => by
    show sumW (onw rs (wayN rs n)) f = _
    unfold onw
    rw [sumW_onw f _ [] List.nodup_nil]
    have e0 : sumW [] f = 0 := rfl
    rw [e0, Nat.zero_add]
    have e1 : sumW (wayN rs n) (fun s => ((rs.getD s []).map (optF f)).sum) = sumW (wayN rs n) (fun s => ((List.range L).map fun c => optF f (nx rs s c)).sum) := by
      unfold sumW
      congr 1
      refine List.map_congr_left fun p hp => ?_
      show p.2 * ((rs.getD p.1 []).map (optF f)).sum = p.2 * ((List.range L).map fun c => optF f (nx rs p.1 c)).sum
      rw [row_sum M f ((way_keys M n).2 p.1 (List.mem_map_of_mem hp))]
    rw [e1, way_sum M n]
    show _ = (((wordsN L n).flatMap fun w => (List.range L).map fun c => w ++ [c]).map fun w => optF f (run rs w 0)).sum
    rw [sum_flat]
    congr 1
    refine List.map_congr_left fun w _ => ?_
    rw [List.map_map]
    cases hw : run rs w 0 with
    | none =>
      show 0 = _
      have : ∀ cs : List Nat, (cs.map ((fun w => optF f (run rs w 0)) ∘ fun c => w ++ [c])).sum = 0 := fun cs => by
        induction cs with
        | nil => rfl
        | cons c cs ih =>
          rw [List.map_cons, List.sum_cons, ih]
          show optF f (run rs (w ++ [c]) 0) + 0 = 0
          rw [run_snoc, hw]
          rfl
      exact (this _).symm
    | some s =>
      show ((List.range L).map fun c => optF f (nx rs s c)).sum = _
      congr 1
      refine List.map_congr_left fun c _ => ?_
      show _ = optF f (run rs (w ++ [c]) 0)
      rw [run_snoc, hw]
      rfl
theorem way_cnt {L : Nat} {rs : Rows} {es : List Bool} (M : GOk L rs) (n : Nat) : sumW (wayN rs n) (fun s => b2n (es.getD s false)) = cntP L (fun w => acc rs es w 0) n := by
  rw [way_sum M n]
  unfold cntP
  congr 1
  refine List.map_congr_left fun w _ => ?_
  cases hw : run rs w 0 with
  | none =>
    show 0 = b2n (acc rs es w 0)
    rw [← endO_acc, hw]
    rfl
  | some s =>
    show b2n (es.getD s false) = b2n (acc rs es w 0)
    rw [acc_end hw]
theorem words_mem {L : Nat} : ∀ (n : Nat) (w : List Nat), w ∈ wordsN L n ↔ (Wl L w ∧ w.length = n)
  | 0, w => by
    show w ∈ [[]] ↔ _
    rw [List.mem_singleton]
    exact ⟨fun e => by rw [e]; exact ⟨fun c hc => absurd hc List.not_mem_nil, rfl⟩, fun ⟨_, e⟩ => List.length_eq_zero_iff.mp e⟩
  | n + 1, w => by
    show w ∈ (wordsN L n).flatMap _ ↔ _
    rw [List.mem_flatMap]
    constructor
    · rintro ⟨v, hv, hw⟩
      obtain ⟨c, hc, rfl⟩ := List.mem_map.mp hw
      obtain ⟨a, b⟩ := (words_mem n v).mp hv
      refine ⟨fun x hx => ?_, by rw [List.length_append, b]; rfl⟩
      rcases List.mem_append.mp hx with z | z
      · exact a x z
      · rw [List.mem_singleton.mp z]
        exact List.mem_range.mp hc
    · rintro ⟨a, b⟩
      have ne : w ≠ [] := fun z => by rw [z] at b; cases b
      refine ⟨w.dropLast, (words_mem n _).mpr ⟨fun x hx => a x (List.dropLast_subset w hx), by rw [List.length_dropLast, b]; rfl⟩, List.mem_map.mpr ⟨w.getLast ne, List.mem_range.mpr (a _ (List.getLast_mem ne)), List.dropLast_concat_getLast ne⟩⟩
theorem cnt_pos {L : Nat} {p : List Nat → Bool} {n : Nat} : 0 < cntP L p n ↔ ∃ w, Wl L w ∧ w.length = n ∧ p w = true := by
  unfold cntP
  have key : ∀ ws : List (List Nat), 0 < (ws.map fun w => b2n (p w)).sum ↔ ∃ w ∈ ws, p w = true := fun ws => by
    induction ws with
    | nil => exact ⟨fun h => absurd h (Nat.lt_irrefl _), fun ⟨w, hw, _⟩ => absurd hw List.not_mem_nil⟩
    | cons w ws ih =>
      rw [List.map_cons, List.sum_cons]
      cases e : p w with
      | true => exact ⟨fun _ => ⟨w, List.mem_cons_self, e⟩, fun _ => by show 0 < 1 + _; omega⟩
      | false =>
        show 0 < 0 + _ ↔ _
        rw [Nat.zero_add, ih]
        exact ⟨fun ⟨v, hv, h⟩ => ⟨v, List.mem_cons_of_mem _ hv, h⟩, fun ⟨v, hv, h⟩ => by
          rcases List.mem_cons.mp hv with z | z
          · rw [z, e] at h
            cases h
          · exact ⟨v, z, h⟩⟩
  rw [key]
  exact ⟨fun ⟨w, hw, h⟩ => let ⟨a, b⟩ := (words_mem n w).mp hw; ⟨w, a, b, h⟩, fun ⟨w, a, b, h⟩ => ⟨w, (words_mem n w).mpr ⟨a, b⟩, h⟩⟩
def wKv (ws : List (Nat × Nat)) : List (Key × V) := ws.map fun p => (.inl (p.1 : Int), .int (p.2 : Int))
theorem inl_eq {a b : Nat} : ((.inl (a : Int) : Key) = .inl (b : Int)) ↔ a = b := ⟨fun e => by have := Sum.inl.inj e; omega, fun e => by rw [e]⟩
theorem wKv_val : ∀ (ws : List (Nat × Nat)) (t : Nat), valV (wKv ws) (.inl (t : Int)) = if t ∈ ws.map Prod.fst then some (.int (vl ws t : Int)) else none
  | [], t => rfl
  | p :: ws, t => by
    have ih := wKv_val ws t
    unfold valV wKv at ih ⊢
    rw [List.map_cons]
    by_cases e : p.1 = t
    · rw [List.find?_cons_of_pos (by exact decide_eq_true (inl_eq.mpr e)), if_pos (by rw [List.map_cons, e]; exact List.mem_cons_self)]
      unfold vl
      rw [List.find?_cons_of_pos (by exact decide_eq_true e)]
      rfl
    · rw [List.find?_cons_of_neg (by rw [decide_eq_true_eq]; exact fun z => e (inl_eq.mp z)), ih]
      have e1 : vl (p :: ws) t = vl ws t := by
        unfold vl
        rw [List.find?_cons_of_neg (by rw [decide_eq_true_eq]; exact e)]
      rw [e1, List.map_cons]
      by_cases m : t ∈ ws.map Prod.fst
      · rw [if_pos m, if_pos (List.mem_cons_of_mem _ m)]
      · rw [if_neg m, if_neg (fun z => by
          rcases List.mem_cons.mp z with z | z
          · exact e z.symm
          · exact m z)]
theorem vl_no {ws : List (Nat × Nat)} {t : Nat} (h : t ∉ ws.map Prod.fst) : vl ws t = 0 := by
  unfold vl
  rw [List.find?_eq_none.mpr fun p hp z => h (by rw [← of_decide_eq_true z]; exact List.mem_map_of_mem hp)]
  rfl
theorem vl_at {ws : List (Nat × Nat)} (nd : (ws.map Prod.fst).Nodup) {p : Nat × Nat} (h : p ∈ ws) : vl ws p.1 = p.2 := by
  induction ws with
  | nil => exact absurd h List.not_mem_nil
  | cons q ws ih =>
    obtain ⟨n1, n2⟩ := List.nodup_cons.mp nd
    unfold vl
    rcases List.mem_cons.mp h with z | z
    · rw [z, List.find?_cons_of_pos (by exact decide_eq_true rfl)]
      rfl
    · have : q.1 ≠ p.1 := fun e => n1 (by rw [e]; exact List.mem_map_of_mem z)
      rw [List.find?_cons_of_neg (by rw [decide_eq_true_eq]; exact this)]
      exact ih n2 z
theorem wKv_get (ws : List (Nat × Nat)) (t : Nat) : (valV (wKv ws) (.inl (t : Int))).getD (.int 0) = .int (vl ws t : Int) := by
  rw [wKv_val]
  by_cases m : t ∈ ws.map Prod.fst
  · rw [if_pos m]
    rfl
  · rw [if_neg m, vl_no m]
    rfl
theorem wKv_put {ws : List (Nat × Nat)} {t v : Nat} (nd : (ws.map Prod.fst).Nodup) : putK (wKv ws) (.inl (t : Int)) (.int ((vl ws t : Int) + (v : Int))) = wKv (addW ws t v) := by
  have any : ((wKv ws).any fun kv => decide (kv.1 = (.inl (t : Int) : Key))) = true ↔ t ∈ ws.map Prod.fst := by
    rw [List.any_eq_true]
    constructor
    · rintro ⟨x, hx, e⟩
      unfold wKv at hx
      obtain ⟨p, hp, rfl⟩ := List.mem_map.mp hx
      have e : (.inl (p.1 : Int) : Key) = .inl (t : Int) := of_decide_eq_true e
      rw [← inl_eq.mp e]
      exact List.mem_map_of_mem hp
    · intro h
      obtain ⟨p, hp, e⟩ := List.mem_map.mp h
      exact ⟨_, List.mem_map_of_mem hp, decide_eq_true (inl_eq.mpr e)⟩
  unfold putK addW
  by_cases m : t ∈ ws.map Prod.fst
  · rw [if_pos (any.mpr m), if_pos m]
    unfold wKv
    rw [List.map_map, List.map_map]
    refine List.map_congr_left fun p hp => ?_
    show (if (.inl (p.1 : Int) : Key) = .inl (t : Int) then ((.inl (p.1 : Int) : Key), V.int ((vl ws t : Int) + (v : Int))) else (.inl (p.1 : Int), .int (p.2 : Int))) = (.inl ((if p.1 = t then (t, p.2 + v) else p).1 : Int), .int ((if p.1 = t then (t, p.2 + v) else p).2 : Int))
    by_cases e : p.1 = t
    · rw [if_pos (inl_eq.mpr e), if_pos e, ← e, vl_at nd hp]
      show _ = ((.inl (p.1 : Int) : Key), V.int ((p.2 + v : Nat) : Int))
      rw [Int.natCast_add]
    · rw [if_neg (fun z => e (inl_eq.mp z)), if_neg e]
  · rw [if_neg (fun z => m (any.mp z)), if_neg m, vl_no m]
    unfold wKv
    rw [List.map_append]
    show _ = _ ++ [((.inl (t : Int) : Key), V.int (v : Int))]
    rw [show ((0 : Nat) : Int) + (v : Int) = (v : Int) by omega]
theorem sq_keep {t : Bool} {H H' : Hp} {a d : Addr} {xs : List V} {kvs : List (Key × V)} (hd : H d = some (.dK kvs)) (k : Keep (fun b => b = d) H H') (h : Sq t H a xs) : Sq t H' a xs := by
  have ne : a ≠ d := fun e => by
    subst e
    cases t <;> rcases h with h | ⟨_, h⟩ <;> (rw [hd] at h; cases h)
  cases t <;> exact Keep.rd k ne h
theorem GA.keepD {H H' : Hp} {L : Nat} {rs : Rows} {t u : Bool} {pr d : Addr} {rvs : List V} {kvs : List (Key × V)} (hd : H d = some (.dK kvs)) (k : Keep (fun b => b = d) H H') (M : GA H L rs t u pr rvs) : GA H' L rs t u pr rvs :=
  ⟨sq_keep hd k M.hr, M.hl, fun i row h => let ⟨q, h1, h2⟩ := M.row i row h; ⟨q, h1, sq_keep hd k h2⟩⟩
section
variable {P : Program} {w : World} {K : PySem.W.Frag} {mg : Str → Option Value} {base : Heap}
theorem scOnward : FnScope ["rows", "ways", "longer", "state", "target"] ["rows", "ways"] (defScope sOnward) := ⟨rfl, rfl, rfl, by decide +kernel, rfl, by decide +kernel, by decide +kernel⟩
def spOnward : Sp := fun vs H Q _ => ∃ (L : Nat) (rs : Rows) (t u : Bool) (pr dw : Addr) (rvs : List V) (ws : List (Nat × Nat)), vs = [.ref pr, .ref dw] ∧ GOk L rs ∧ GA H L rs t u pr rvs ∧ H dw = some (.dK (wKv ws)) ∧ (ws.map Prod.fst).Nodup ∧ (∀ k ∈ ws.map Prod.fst, k < rs.length) ∧
  ∀ (H' : Hp) (p : Addr), Same H H' → H p = none → H' p = some (.dK (wKv (onw rs ws))) → Q (.ref p) H'
theorem ok_onward {f : Addr} {fd : FuncData} (F : Fun K "onward" "onward" sOnward f fd) (T : Mg mg) : FnOk P w K mg base CX0 1 f fd ["rows", "ways"] spOnward := by
  refine F.ok scOnward (fun vs H Q E h => ?_) (fun cdv A outer s H vs Q E hr h => ?_)
  · obtain ⟨L, rs, kt, ku, pr, dw, rvs, ws, rfl, _⟩ := h
    rfl
  · obtain ⟨L, rs, kt, ku, pr, dw, rvs, ws, rfl, M, MM, hdw, nd, klt, k⟩ := h
    have hu1 := hu_of hr
    refine ⟨_, (pss_cons (ps_set (i := 2) scOnward.nd rfl (.inl rfl) pe_dnewK)
      (pss_cons (ps_lock (ps_for PassesOwn.never rfl (pi_keys (pv 1)) (pg_name (i := 3) scOnward.nd rfl (.inl rfl)) (pss_one (ps_for PassesOwn.never rfl (pi_seq (pe_ix (r := rIxQ) ix_any (pv 0) (pv 3) (fun _ _ => rfl))) (pg_name (i := 4) scOnward.nd rfl (.inl rfl)) (pss_one (ps_if (pt_cmp (pc_notN (pv 4))) (pss_one (ps_asg (pe_op op_add (pe_dget2 hu1 (pv 2) (pv 4) pe_int ⟨rfl, rfl, rfl, rfl⟩) (pe_dget hu1 (pv 1) (pv 3) (fun _ _ => rfl))) (pg_sub (pv 2) (pv 4) (set_dict hu1)))) pss_nil))))))
      (pss_one (ps_ret (pv 2))))), ?_⟩
    intro dn hdn
    have s1 := same_new (o := .dK ([] : List (Key × V))) hdn
    have hd0 := s1 _ _ hdw
    have hn0 : (upd H dn (.dK [])) dn = some (.dK (wKv [])) := upd_same
    have ndw : dn ≠ dw := fun z => by rw [z, hdw] at hdn; cases hdn
    generalize upd H dn (.dK []) = H1 at *
    refine ⟨dw, .dK (wKv ws), hd0, trivial, fun od => ?_⟩
    have gd : (upd H1 dw (.frz od (.dK (wKv ws)))) dw = some (.frz od (.dK (wKv ws))) := upd_same
    have gn : (upd H1 dw (.frz od (.dK (wKv ws)))) dn = some (.dK (wKv [])) := by rw [upd_ne ndw]; exact hn0
    have kp : Keep (fun b => b = dw) H (upd H1 dw (.frz od (.dK (wKv ws)))) := fun b o nb e => by
      rw [upd_ne nb]
      exact s1 _ _ e
    generalize upd H1 dw (.frz od (.dK (wKv ws))) = H2 at *
    refine ⟨_, rfl, dw, od, rfl, .inl ⟨wKv ws, gd, ?_⟩⟩
    have lw : (wKv ws).length = ws.length := List.length_map _
    have wl : ws.length ≤ 200000 := by
      have h1 := nodup_len nd klt
      rw [List.length_map] at h1
      exact Nat.le_trans h1 M.lN
    have accN : ∀ {acc : List (Nat × Nat)}, (acc.map Prod.fst).Nodup → (∀ k ∈ acc.map Prod.fst, k < rs.length) → acc.length ≤ 200000 := fun {acc} a b => by
      have h1 := nodup_len a b
      rw [List.length_map] at h1
      exact Nat.le_trans h1 M.lN
    refine for_it (walk_keys (d := dw) (o := od) (kvs := wKv ws)) (fun i σ H' => (∃ y3 y4 : Option V, σ = [some (.ref pr), some (.ref dw), some (.ref dn), y3, y4]) ∧ H' dw = some (.frz od (.dK (wKv ws))) ∧ Keep (fun b => b = dw) H H' ∧ H' dn = some (.dK (wKv ((ws.take i).foldl (onwStep rs) []))) ∧
        (((ws.take i).foldl (onwStep rs) []).map Prod.fst).Nodup ∧ ∀ k ∈ ((ws.take i).foldl (onwStep rs) []).map Prod.fst, k < rs.length)
      ⟨⟨_, _, rfl⟩, gd, kp, gn, List.nodup_nil, fun k hk => absurd hk List.not_mem_nil⟩ (fun i σ H' _ p => p.2.1) ?_ ?_
    · rintro i x σ H3 H4 hi ⟨⟨y3, y4, rfl⟩, gd3, kp3, gn3, nd3, lt3⟩ ⟨rfl, key, vv, hkv, rfl⟩
      unfold wKv at hkv
      rw [List.getElem?_map] at hkv
      obtain ⟨p, hp, e⟩ := Option.map_eq_some_iff.mp hkv
      cases e
      have pm := List.mem_of_getElem? hp
      have pl := klt p.1 (List.mem_map_of_mem pm)
      have hrow : rs[p.1]? = some rs[p.1] := List.getElem?_eq_getElem pl
      have hmr := List.getElem_mem pl
      have gD : rs.getD p.1 [] = rs[p.1] := getD_at pl
      have tk : (ws.take (i + 1)).foldl (onwStep rs) [] = (rs[p.1]).foldl (rowStep p.2) ((ws.take i).foldl (onwStep rs) []) := by
        rw [List.take_add_one, hp, List.foldl_append]
        show onwStep rs _ p = _
        unfold onwStep
        rw [gD]
      rw [tk]
      generalize rs[p.1] = row at *
      generalize (ws.take i).foldl (onwStep rs) [] = acc at *
      have MM3 := MM.keepD hdw kp3
      obtain ⟨q, hq1, hq2⟩ := MM.row p.1 row hrow
      refine ⟨_, rfl, _, rfl, kt, pr, rvs, (p.1 : Int), _, rfl, rfl, MM3.hr, atI_nat hq1, ku, q, _, rfl, sq_keep hdw kp3 hq2, ?_⟩
      refine for_seq (t := ku) (K := K) (a := q) (xs := row.map oV) (fun j σ H' => (∃ y4 : Option V, σ = [some (.ref pr), some (.ref dw), some (.ref dn), some (.int (p.1 : Int)), y4]) ∧ H' dw = some (.frz od (.dK (wKv ws))) ∧ Keep (fun b => b = dw) H H' ∧ H' dn = some (.dK (wKv ((row.take j).foldl (rowStep p.2) acc))))
        ⟨⟨_, rfl⟩, gd3, kp3, gn3⟩ (fun j σ H' _ p => sq_keep hdw p.2.2.1 hq2) ?_ ?_
      · rintro j x σ H5 hx ⟨⟨y4', rfl⟩, gd5, kp5, gn5⟩
        rw [List.getElem?_map] at hx
        obtain ⟨o, ho, rfl⟩ := Option.map_eq_some_iff.mp hx
        have tj : (row.take (j + 1)).foldl (rowStep p.2) acc = rowStep p.2 ((row.take j).foldl (rowStep p.2) acc) o := by
          rw [List.take_add_one, ho, List.foldl_append]
          rfl
        rw [tj]
        obtain ⟨nd5, lt5⟩ := rows_keys (v := p.2) (row.take j) acc nd3
        have lt5' : ∀ k ∈ ((row.take j).foldl (rowStep p.2) acc).map Prod.fst, k < rs.length := fun k hk => by
          rcases lt5 k hk with z | z
          · exact lt3 k z
          · exact M.tgt row hmr k (List.mem_of_mem_take z)
        have aN := accN nd5 lt5'
        generalize (row.take j).foldl (rowStep p.2) acc = ac at *
        refine ⟨_, rfl, _, rfl, ?_⟩
        cases o with
        | none => exact ⟨⟨_, rfl⟩, gd5, kp5, gn5⟩
        | some t =>
          have dgw : DGet H5 dw (.int (p.1 : Int)) (some (.int (p.2 : Int))) := by
            refine .inl ⟨wKv ws, .inl (p.1 : Int), .inr ⟨od, gd5⟩, rfl, ?_⟩
            rw [wKv_val, if_pos (List.mem_map_of_mem pm), vl_at nd pm]
          have dgl : DGet H5 dn (.int (t : Int)) (valV (wKv ac) (.inl (t : Int))) := DGet.k (k := .inl (t : Int)) gn5
          refine ⟨_, rfl, dn, rfl, .inl ⟨_, .inl gn5⟩, _, rfl, _, dgl, _, rfl, _, rfl, dw, _, rfl, dgw, ?_⟩
          rw [wKv_get]
          have nl15 : (wKv ac).length < sizeLine := small9 (by unfold wKv; rw [List.length_map]; omega)
          have dp : DPut H5 dn (.int (t : Int)) (.int ((vl ac t : Int) + (p.2 : Int))) (upd H5 dn (.dK (wKv (addW ac t p.2)))) := by
            have := DPut.k (k := .inl (t : Int)) (v := .int ((vl ac t : Int) + (p.2 : Int))) gn5 nl15
            rw [wKv_put nd5] at this
            exact this
          refine ⟨_, _, rfl, rfl, _, rfl, _, rfl, dn, _, rfl, dp, ?_⟩
          refine ⟨⟨_, rfl⟩, by rw [upd_ne ndw.symm]; exact gd5, fun b o nb e => ?_, upd_same⟩
          rw [upd_ne (ne_of_none e hdn)]
          exact kp5 _ _ nb e
      · rintro σ H5 ⟨⟨y4', rfl⟩, gd5, kp5, gn5⟩
        rw [List.length_map, List.take_length] at gn5
        obtain ⟨nd5, lt5⟩ := rows_keys (v := p.2) row acc nd3
        exact ⟨⟨_, _, rfl⟩, gd5, kp5, gn5, nd5, fun k hk => (lt5 k hk).elim (lt3 k) fun z => M.tgt row hmr k z⟩
    · rintro σ H3 ⟨⟨y3, y4, rfl⟩, gd3, kp3, gn3, nd3, lt3⟩
      rw [lw, List.take_length] at gn3
      refine ⟨gd3, _, rfl, k _ dn (fun b o e => ?_) hdn (by rw [upd_ne ndw]; exact gn3)⟩
      by_cases z : b = dw
      · rw [z, upd_same, ← hdw, ← e, z]
      · rw [upd_ne z]
        exact kp3 _ _ z e
end
theorem fil_sum (es : List Bool) : ∀ ws : List (Nat × Nat), ((ws.filter fun p : Nat × Nat => es.getD p.1 false).map fun p => (p.2 : Int)).sum = (((ws.map fun p => p.2 * b2n (es.getD p.1 false)).sum : Nat) : Int)
  | [] => rfl
  | p :: ws => by
    rw [List.map_cons, List.sum_cons, List.filter_cons]
    cases e : es.getD p.1 false with
    | true =>
      rw [if_pos rfl, List.map_cons, List.sum_cons, fil_sum es ws, Int.natCast_add]
      show (p.2 : Int) + _ = ((p.2 * 1 : Nat) : Int) + _
      rw [Nat.mul_one]
    | false =>
      rw [if_neg Bool.false_ne_true, fil_sum es ws, Int.natCast_add]
      show _ = ((p.2 * 0 : Nat) : Int) + _
      rw [Nat.mul_zero]
      omega
section
variable {P : Program} {w : World} {K : PySem.W.Frag} {mg : Str → Option Value} {base : Heap}
theorem scCounts : FnScope ["machine", "many", "_", "rows", "ends", "ways", "numbers", "state"] ["machine", "many"] (defScope sCounts) := ⟨rfl, rfl, rfl, by decide +kernel, rfl, by decide +kernel, by decide +kernel⟩
def spCounts (K : PySem.W.Frag) : Sp := fun vs H Q _ => ∃ (L n : Nat) (rs : Rows) (es : List Bool) (x : V) (B : Addr → Prop), vs = [x, .int (n : Int)] ∧ Dt B K H x (machDt L rs es) ∧ MOk L rs es ∧ n ≤ 1000 ∧
  ∀ (H' : Hp) (p : Addr), Same H H' → H p = none → p ≠ sysModules → H' p = some (.lst ((List.range n).map fun k => natV (cntP L (fun w => acc rs es w 0) k))) → Q (.ref p) H'
theorem ok_counts {f fON : Addr} {fd fdON : FuncData} (F : Fun K "counts" "counts" sCounts f fd)
    (ON : FnOk P w K mg base CX0 1 fON fdON ["rows", "ways"] spOnward) (FON : Fun K "onward" "onward" sOnward fON fdON) (bON : Binds K fdON ["rows", "ways"] []) (gON : mg "onward" = some (.ref fON)) (T : Mg mg) (mSum : mg "sum" = none) : FnOk P w K mg base CX0 2 f fd ["machine", "many"] (spCounts K) := by
  refine F.ok scCounts (fun vs H Q E h => ?_) (fun cdv A outer s H vs Q E hr h => ?_)
  · obtain ⟨L, n, rs, es, x, B, rfl, _⟩ := h
    rfl
  · obtain ⟨L, n, rs, es, x, B, rfl, hx, M, n9, k⟩ := h
    have hu1 := hu_of hr
    refine ⟨_, (pss_cons (ps_asg (pv 0) (pg_tup rfl (pgs_cons (pg_name (i := 2) scCounts.nd rfl (.inl rfl)) (pgs_cons (pg_name (i := 3) scCounts.nd rfl (.inl rfl)) (pgs_cons (pg_name (i := 4) scCounts.nd rfl (.inr rfl)) pgs_nil)))))
      (pss_cons (ps_set (i := 5) scCounts.nd rfl (.inr rfl) (pe_disp (pps_cons pe_int pe_int pps_nil) (by rfl) (by rfl) (fun z => by cases z) (by decide)))
      (pss_cons (ps_set (i := 6) scCounts.nd rfl (.inl rfl) (pe_lstA pa_nil))
      (pss_cons (ps_for PassesOwn.never rfl (pi_range1 (by rfl) T.range (pa_cons (pv 1) pa_nil)) (pg_name (i := 2) scCounts.nd rfl (.inl rfl)) (pss_cons (ps_expr (pe_bm PySem.F.plainAttrs_list PySem.F.slot_list_append PySem.F.type_list_append mt_append (pv 6) (pa_cons (pe_callB (r := rSum K) (cr_sum rfl) (by rfl) mSum (by decide +kernel) (pa_cons (pe_lock (pe_lc (own := [("state", 7)]) (g := gName 7) rfl scCounts.nd (pi_keys (pv 5)) (blkOk_by (N := ["machine", "many", "_", "rows", "ends", "ways", "numbers", "state"]) (sc := defScope sCounts) (by decide +kernel)) (fun _ _ _ _ _ => pg_name (i := 7) scCounts.nd rfl (Or.inl rfl)) (fun _ _ _ _ _ => pts_one (pt_val (pe_ix (r := rIxT K) ix_tup (pv 4) (pv 7) (fun _ _ => rfl)))) (fun _ _ _ _ _ => pe_dget hu1 (pv 5) (pv 7) (fun _ _ => rfl)))) pa_nil)) pa_nil)))
      (pss_one (ps_set (i := 5) scCounts.nd rfl (.inr rfl) (pe_call ON (hr.mono (by decide)) (by rfl) gON FON.kp bON .nil pass0 (pa_cons (pv 3) (pa_cons (pv 5) pa_nil)))))))
      (pss_one (ps_ret (pv 6))))))), ?_⟩
    obtain ⟨m, pr, pe, rvs, rfl, _, MM⟩ := dt_mach hx
    have el := M.es
    refine ⟨_, rfl, m, _, rfl, .inl MM.hm, rfl, _, _, rfl, _, _, rfl, _, _, rfl, rfl, ?_⟩
    intro d0 hd0
    refine ⟨upd_same, [(.inl 0, .int 1)], rfl, by show 1 ≤ 15; decide, ?_⟩
    rw [upd_upd]
    have s1 := same_new (o := .dK (mergeK [] [(.inl 0, V.int 1)])) hd0
    have hd1 : (upd H d0 (.dK (mergeK [] [(.inl 0, V.int 1)]))) d0 = some (.dK (wKv (wayN rs 0))) := upd_same
    generalize upd H d0 (.dK (mergeK [] [(.inl 0, V.int 1)])) = G1 at *
    refine ⟨by show 0 ≤ sizeLine; decide, fun np H2 s2 np0 nps hnp => ?_⟩
    have npH := sfree s1 np0
    refine ⟨_, rfl, (n : Int), rfl, by omega, by omega, ?_⟩
    refine for_range (lo := 0) (n := (n : Int).toNat) (fun i σ H' => (∃ (dw : Addr) (y2 y7 : Option V), σ = [some (.ref m), some (.int (n : Int)), y2, some (.ref pr), some (.ref pe), some (.ref dw), some (.ref np), y7] ∧ H' dw = some (.dK (wKv (wayN rs i)))) ∧ Same H H' ∧ H' np = some (.lst ((List.range i).map fun k => natV (cntP L (fun w => acc rs es w 0) k))))
      ⟨⟨d0, _, _, rfl, s2 _ _ hd1⟩, s1.trans s2, hnp⟩ ?_ ?_
    · rintro i σ H3 hi ⟨⟨dw, y2, y7, rfl, hdw⟩, sm, hn3⟩
      obtain ⟨nd, klt⟩ := way_keys M.g i
      have nwn : np ≠ dw := fun z => by rw [z, hdw] at hn3; cases hn3
      have lw : (wKv (wayN rs i)).length = (wayN rs i).length := List.length_map _
      have wl : (wayN rs i).length ≤ 200000 := by
        have h1 := nodup_len nd klt
        rw [List.length_map] at h1
        exact Nat.le_trans h1 M.g.lN
      refine ⟨_, rfl, .inl ⟨rfl, _, SqL.of hn3⟩, dw, .dK (wKv (wayN rs i)), hdw, trivial, fun od => ?_⟩
      have gd : (upd H3 dw (.frz od (.dK (wKv (wayN rs i))))) dw = some (.frz od (.dK (wKv (wayN rs i)))) := upd_same
      have kp : ∀ {b : Addr} {o : HO}, b ≠ dw → H3 b = some o → (upd H3 dw (.frz od (.dK (wKv (wayN rs i))))) b = some o := fun nb e => by rw [upd_ne nb]; exact e
      have kpe : Rd (upd H3 dw (.frz od (.dK (wKv (wayN rs i))))) pe (.tup (es.map V.bl)) := by
        have h0 := same_rd sm MM.he
        have ne : pe ≠ dw := fun z => by
          rw [z] at h0
          rcases h0 with h0 | ⟨_, h0⟩ <;> (rw [hdw] at h0; cases h0)
        rcases h0 with h0 | ⟨ob, h0⟩
        · exact .inl (kp ne h0)
        · exact .inr ⟨ob, kp ne h0⟩
      generalize hG4 : upd H3 dw (.frz od (.dK (wKv (wayN rs i)))) = G4 at *
      refine ⟨_, rfl, dw, od, rfl, .inl ⟨wKv (wayN rs i), gd, fun D hD => ?_⟩⟩
      have D3 : H3 D = none := by
        rw [← hG4] at hD
        exact NdefX.upd_none hD
      refine lc_it (walk_keys (d := dw) (o := od) (kvs := wKv (wayN rs i))) (KInv (fun p : Nat × Nat => es.getD p.1 false) (fun p => natV p.2) (wayN rs i) G4 D) (kstart hD) (fun j H' _ p => p.1 _ _ gd) ?_ ?_
      · rintro j z H5 H6 hj p5 ⟨rfl, key, vv, hkv, rfl⟩
        unfold wKv at hkv
        rw [List.getElem?_map] at hkv
        obtain ⟨p, hp, e⟩ := Option.map_eq_some_iff.mp hkv
        cases e
        have pm := List.mem_of_getElem? hp
        have pl := klt p.1 (List.mem_map_of_mem pm)
        have pe5 : p.1 < es.length := by rw [el]; exact pl
        refine ⟨rfl, _, rfl, _, rfl, pe, _, (p.1 : Int), V.bl (es.getD p.1 false), rfl, rfl, .inl (same_rd p5.1 kpe), atI_nat (by rw [List.getElem?_map, getD_at pe5, List.getElem?_eq_getElem pe5]; rfl), _, rfl, ?_⟩
        cases hb : es.getD p.1 false with
        | true =>
          have dgw : DGet H6 dw (.int (p.1 : Int)) (some (.int (p.2 : Int))) := by
            refine .inl ⟨wKv (wayN rs i), .inl (p.1 : Int), .inr ⟨od, p5.1 _ _ gd⟩, rfl, ?_⟩
            rw [wKv_val, if_pos (List.mem_map_of_mem pm), vl_at nd pm]
          exact ⟨_, rfl, _, rfl, dw, _, rfl, dgw, kyes (t := fun p : Nat × Nat => es.getD p.1 false) (f := fun p => natV p.2) (small9 (by omega)) hD hp hb p5 (Same.refl _)⟩
        | false => exact kno (t := fun p : Nat × Nat => es.getD p.1 false) (f := fun p => natV p.2) hp hb p5 (Same.refl _)
      · rintro H5 p5
        obtain ⟨s5, hl5⟩ := kend lw p5
        have nDw : D ≠ dw := fun z => by rw [z, gd] at hD; cases hD
        refine ⟨s5 _ _ gd, ?_⟩
        have back : Same H3 (upd H5 dw (.dK (wKv (wayN rs i)))) := fun b o e => by
          by_cases z : b = dw
          · rw [z, upd_same, ← hdw, ← e, z]
          · rw [upd_ne z]
            exact s5 _ _ (kp z e)
        have hl6 : (upd H5 dw (.dK (wKv (wayN rs i)))) D = some (.lst ((((wayN rs i).filter fun p : Nat × Nat => es.getD p.1 false).map fun p => (p.2 : Int)).map V.int)) := by
          rw [upd_ne nDw, hl5, List.map_map]
          rfl
        generalize upd H5 dw (.dK (wKv (wayN rs i))) = G6 at *
        refine ⟨D, _, rfl, SqL.of hl6, ?_⟩
        have es1 : (((wayN rs i).filter fun p : Nat × Nat => es.getD p.1 false).map fun p => (p.2 : Int)).sum = ((cntP L (fun w => acc rs es w 0) i : Nat) : Int) := by
          rw [← way_cnt M.g i]
          unfold sumW
          exact fil_sum es _
        rw [es1]
        have hn6 := back _ _ hn3
        have hd6 := back _ _ hdw
        refine ⟨np, _, _, rfl, rfl, hn6, small9 (by rw [List.length_map, List.length_range]; omega), ?_⟩
        have sm6 := sm.trans back
        have w7 : ∀ {b : Addr} {o : HO}, b ≠ np → G6 b = some o → (upd G6 np (.lst (((List.range i).map fun k => natV (cntP L (fun w => acc rs es w 0) k)) ++ [V.int ((cntP L (fun w => acc rs es w 0) i : Nat) : Int)]))) b = some o := fun nb e => by rw [upd_ne nb]; exact e
        have sm7 : Same H (upd G6 np (.lst (((List.range i).map fun k => natV (cntP L (fun w => acc rs es w 0) k)) ++ [V.int ((cntP L (fun w => acc rs es w 0) i : Nat) : Int)]))) := fun b o e => w7 (ne_of_none e npH) (sm6 _ _ e)
        have hd7 := w7 nwn.symm hd6
        have hn7 : (upd G6 np (.lst (((List.range i).map fun k => natV (cntP L (fun w => acc rs es w 0) k)) ++ [V.int ((cntP L (fun w => acc rs es w 0) i : Nat) : Int)]))) np = some (.lst ((List.range (i + 1)).map fun k => natV (cntP L (fun w => acc rs es w 0) k))) := by
          rw [upd_same, List.range_succ, List.map_append]
          rfl
        generalize upd G6 np (.lst (((List.range i).map fun k => natV (cntP L (fun w => acc rs es w 0) k)) ++ [V.int ((cntP L (fun w => acc rs es w 0) i : Nat) : Int)])) = G7 at *
        exact ⟨_, rfl, _, rfl, L, rs, true, true, pr, dw, rvs, wayN rs i, rfl, M.g, (MM.same sm7).ga, hd7, nd, klt, fun H8 p s8 p0 hp => ⟨⟨p, _, _, rfl, hp⟩, sm7.trans s8, s8 _ _ hn7⟩⟩
    · rintro σ H3 ⟨⟨dw, y2, y7, rfl, hdw⟩, sm, hn3⟩
      rw [Int.toNat_natCast] at hn3
      exact ⟨_, rfl, k H3 np sm npH nps hn3⟩
end
section
variable {P : Program} {w : World} {K : PySem.W.Frag} {mg : Str → Option Value} {base : Heap}
theorem scCount : FnScope ["machine", "length"] ["machine", "length"] (defScope sCount) := ⟨rfl, rfl, rfl, by decide +kernel, rfl, by decide +kernel, by decide +kernel⟩
def spCount (K : PySem.W.Frag) : Sp := fun vs H Q _ => ∃ (L n : Nat) (rs : Rows) (es : List Bool) (x : V) (B : Addr → Prop), vs = [x, .int (n : Int)] ∧ Dt B K H x (machDt L rs es) ∧ MOk L rs es ∧ n < 1000 ∧
  ∀ (H' : Hp), Same H H' → Q (.int ((cntP L (fun w => acc rs es w 0) n : Nat) : Int)) H'
theorem ok_count {f fCN : Addr} {fd fdCN : FuncData} (F : Fun K "count" "count" sCount f fd)
    (CN : FnOk P w K mg base CX0 2 fCN fdCN ["machine", "many"] (spCounts K)) (FCN : Fun K "counts" "counts" sCounts fCN fdCN) (bCN : Binds K fdCN ["machine", "many"] []) (gCN : mg "counts" = some (.ref fCN)) (T : Mg mg) : FnOk P w K mg base CX0 3 f fd ["machine", "length"] (spCount K) := by
  refine F.ok scCount (fun vs H Q E h => ?_) (fun cdv A outer s H vs Q E hr h => ?_)
  · obtain ⟨L, n, rs, es, x, B, rfl, _⟩ := h
    rfl
  · obtain ⟨L, n, rs, es, x, B, rfl, hx, M, n9, k⟩ := h
    refine ⟨_, (pss_one (ps_ret (pe_ix (r := rIxL K) ix_list (pe_call CN (hr.mono (by decide)) (by rfl) gCN FCN.kp bCN .nil pass0 (pa_cons (pv 0) (pa_cons (pe_op op_add (pv 1) pe_int) pa_nil))) (pv 1) (fun _ _ => rfl)))), ?_⟩
    refine ⟨_, rfl, _, rfl, _, _, rfl, rfl, L, n + 1, rs, es, x, B, congrArg (fun z => [x, V.int z]) (by rw [Int.natCast_add]; rfl), hx, M, by omega, fun H1 p s1 _ _ hp => ?_⟩
    refine ⟨_, rfl, p, _, (n : Int), _, rfl, rfl, SqL.of hp, atI_nat (by rw [List.getElem?_map, List.getElem?_range (Nat.lt_succ_self n)]; rfl), k H1 s1⟩
end
section
variable {P : Program} {w : World} {K : PySem.W.Frag} {mg : Str → Option Value} {base : Heap}
theorem scUseful : FnScope ["rows", "ends", "order", "before", "state"] ["rows", "ends"] (defScope sUseful) := ⟨rfl, rfl, rfl, by decide +kernel, rfl, by decide +kernel, by decide +kernel⟩
def spUseful : Sp := fun vs H Q _ => ∃ (L : Nat) (rs : Rows) (es : List Bool) (t u z : Bool) (pr pe : Addr) (rvs : List V), vs = [.ref pr, .ref pe] ∧ GOk L rs ∧ es.length = rs.length ∧ GA H L rs t u pr rvs ∧ Sq z H pe (es.map V.bl) ∧
  ∀ (H' : Hp) (ld : Addr) (Mk : List Nat), Same H H' → H ld = none → H' ld = some (.lst (knB rs.length Mk)) → (∀ s, Reach rs s → (s ∈ Mk ↔ Live rs es s)) → Q (.ref ld) H'
theorem ok_useful {f fRE fSO fLD : Addr} {fd fdRE fdSO fdLD : FuncData} (F : Fun K "useful" "useful" sUseful f fd)
    (RE : FnOk P w K mg base CX0 1 fRE fdRE ["rows"] spReached) (FRE : Fun K "reached" "reached" sReached fRE fdRE) (bRE : Binds K fdRE ["rows"] []) (gRE : mg "reached" = some (.ref fRE))
    (SO : FnOk P w K mg base CX0 1 fSO fdSO ["letters", "rows", "order"] spSources) (FSO : Fun K "sources" "sources" sSources fSO fdSO) (bSO : Binds K fdSO ["letters", "rows", "order"] []) (gSO : mg "sources" = some (.ref fSO))
    (LD : FnOk P w K mg base CX0 1 fLD fdLD ["before", "goals", "many"] spLeading) (FLD : Fun K "leading" "leading" sLeading fLD fdLD) (bLD : Binds K fdLD ["before", "goals", "many"] []) (gLD : mg "leading" = some (.ref fLD)) (T : Mg mg) : FnOk P w K mg base CX0 2 f fd ["rows", "ends"] spUseful := by
  refine F.ok scUseful (fun vs H Q E h => ?_) (fun cdv A outer s H vs Q E hr h => ?_)
  · obtain ⟨L, rs, es, kt, ku, kz, pr, pe, rvs, rfl, _⟩ := h
    rfl
  · obtain ⟨L, rs, es, kt, ku, kz, pr, pe, rvs, rfl, M, esl, MM, he, k⟩ := h
    have l4 := M.lN
    have l1 := M.l1
    refine ⟨_, (pss_cons (ps_set (i := 2) scUseful.nd rfl (.inl rfl) (pe_call RE (hr.mono (by decide)) (by rfl) gRE FRE.kp bRE .nil pass0 (pa_cons (pv 0) pa_nil)))
      (pss_cons (ps_set (i := 3) scUseful.nd rfl (.inl rfl) (pe_call SO (hr.mono (by decide)) (by rfl) gSO FSO.kp bSO .nil pass0 (pa_cons (pe_callB (r := rLen K) call_len_seq (by rfl) T.len PySem.boot_len (pa_cons (pe_ix (r := rIxQ) ix_any (pv 0) pe_int (fun _ _ => rfl)) pa_nil)) (pa_cons (pv 0) (pa_cons (pv 2) pa_nil)))))
      (pss_one (ps_ret (pe_call LD (hr.mono (by decide)) (by rfl) gLD FLD.kp bLD .nil pass0 (pa_cons (pv 3) (pa_cons (pe_lc (own := [("state", 4)]) (g := gName 4) rfl scUseful.nd (pi_list (pv 2)) (blkOk_by (N := ["rows", "ends", "order", "before", "state"]) (sc := defScope sUseful) (by decide +kernel)) (fun _ _ _ _ _ => pg_name (i := 4) scUseful.nd rfl (Or.inl rfl)) (fun _ _ _ _ _ => pts_one (pt_val (pe_ix (r := rIxQ) ix_any (pv 1) (pv 4) (fun _ _ => rfl)))) (fun _ _ _ _ _ => (pv 4))) (pa_cons (pe_callB (r := rLen K) call_len_seq (by rfl) T.len PySem.boot_len (pa_cons (pv 0) pa_nil)) pa_nil)))))))), ?_⟩
    refine ⟨_, rfl, L, rs, kt, ku, pr, rvs, rfl, M, MM, fun H1 od ord s1 od0 hod O => ?_⟩
    have MM1 := MM.same s1
    obtain ⟨row0, hrow0⟩ : ∃ row0, rs[0]? = some row0 := ⟨_, List.getElem?_eq_getElem (by omega)⟩
    have lrow0 := M.row row0 (List.mem_of_getElem? hrow0)
    obtain ⟨q0, hq1, hq2⟩ := MM1.row 0 row0 hrow0
    refine ⟨_, rfl, kt, pr, rvs, 0, _, rfl, rfl, MM1.hr, atI_nat (j := 0) hq1, q0, _, rfl, hq2.any, _, rfl, _, rfl, L, rs, kt, ku, pr, od, rvs, ord, congrArg (fun q : Nat => [V.int (q : Int), V.ref pr, V.ref od]) (show (row0.map oV).length = L by rw [List.length_map, lrow0]), M, MM1, hod, O.lt, by have := O.len; omega, fun H2 bf ws cs s2 fBA BB => ?_⟩
    have hod2 := s2 _ _ hod
    have MM2 := MM1.same s2
    have ol := O.len
    have onx : ∀ c t s, s ∈ (ord.filter fun s => decide (nx rs s c = some t)) ↔ (s ∈ ord ∧ nx rs s c = some t) := fun c t s => by
      rw [List.mem_filter, decide_eq_true_eq]
    refine ⟨_, rfl, _, rfl, od, rfl, ⟨_, SqL.of hod2⟩, fun D hD => ?_⟩
    refine lc_list (K := K) (a := od) (xs := ord.map natV) (KInv (fun s : Nat => es.getD s false) natV ord H2 D) (kstart hD) (fun i H' _ q => SqL.of (q.1 _ _ hod2)) ?_ ?_
    · rintro i x H3 hx p1
      obtain ⟨u, hu, rfl⟩ := natV_of hx
      have hun := O.lt u (List.mem_of_getElem? hu)
      have hue : u < es.length := by rw [esl]; exact hun
      refine ⟨rfl, _, rfl, _, rfl, kz, pe, _, (u : Int), V.bl (es.getD u false), rfl, rfl, he.same (s1.trans (s2.trans p1.1)), atI_nat (by rw [List.getElem?_map, getD_at hue, List.getElem?_eq_getElem hue]; rfl), _, rfl, ?_⟩
      cases hb : es.getD u false with
      | true => exact ⟨_, rfl, kyes (t := fun s : Nat => es.getD s false) (small9 (by omega)) hD hu hb p1 (Same.refl _)⟩
      | false => exact kno (t := fun s : Nat => es.getD s false) hu hb p1 (Same.refl _)
    · rintro H3 p1
      obtain ⟨s3, hl3⟩ := kend (List.length_map _) p1
      have MM3 := MM2.same s3
      refine ⟨_, rfl, pr, rvs, rfl, MM3.hr.any, ?_⟩
      refine ⟨bf, D, ws, cs, L, rs.length, _, ord.filter (fun s => es.getD s false), Live rs es, congrArg (fun q : Nat => [V.ref bf, V.ref D, V.int (q : Int)]) MM.hl, BB.same s3, hl3, l1, l4, O.nd.filter _, fun s hs => ?_, fun c t s hc ht hs => ?_, fun H4 ld Mk s4 ld0 hld LdM => ?_⟩
      · obtain ⟨h1, h2⟩ := List.mem_filter.mp hs
        exact ⟨O.lt s h1, live_end h2⟩
      · obtain ⟨h1, h2⟩ := (onx c t s).mp hs
        exact ⟨O.lt s h1, fun q => live_on h2 q⟩
      have lvM := ld_live M.row M.tgt O.mem onx LdM fun s q => q
      have s14 := ((s1.trans s2).trans s3).trans s4
      exact k H4 ld Mk s14 (sfree ((s1.trans s2).trans s3) ld0) hld lvM
end
theorem addW_pos {ws : List (Nat × Nat)} {t v : Nat} (hv : 1 ≤ v) (h : ∀ p ∈ ws, 1 ≤ p.2) : ∀ p ∈ addW ws t v, 1 ≤ p.2 := fun p hp => by
  unfold addW at hp
  by_cases z : t ∈ ws.map Prod.fst
  · rw [if_pos z] at hp
    obtain ⟨q, hq, rfl⟩ := List.mem_map.mp hp
    by_cases y : q.1 = t
    · rw [if_pos y]
      show 1 ≤ q.2 + v
      omega
    · rw [if_neg y]
      exact h q hq
  · rw [if_neg z] at hp
    rcases List.mem_append.mp hp with hp | hp
    · exact h p hp
    · rw [List.mem_singleton.mp hp]
      exact hv
theorem fold_pos {α : Type} {P : List (Nat × Nat) → Prop} {f : List (Nat × Nat) → α → List (Nat × Nat)} : ∀ (xs : List α) (ws : List (Nat × Nat)), (∀ ws x, x ∈ xs → P ws → P (f ws x)) → P ws → P (xs.foldl f ws)
  | [], _, _, h => h
  | x :: xs, ws, s, h => fold_pos xs _ (fun ws y hy => s ws y (List.mem_cons_of_mem _ hy)) (s ws x List.mem_cons_self h)
theorem onw_pos {rs : Rws} {ws : List (Nat × Nat)} (h : ∀ p ∈ ws, 1 ≤ p.2) : ∀ p ∈ onw rs ws, 1 ≤ p.2 := by
  unfold onw
  refine fold_pos (P := fun ws => ∀ p ∈ ws, 1 ≤ p.2) ws [] (fun acc p hp ha => ?_) (fun p hp => absurd hp List.not_mem_nil)
  unfold onwStep
  refine fold_pos (P := fun ws => ∀ p ∈ ws, 1 ≤ p.2) _ acc (fun acc o _ ha => ?_) ha
  cases o with
  | none => exact ha
  | some t => exact addW_pos (h p hp) ha
theorem way_pos {rs : Rws} : ∀ n, ∀ p ∈ wayN rs n, 1 ≤ p.2
  | 0 => fun p hp => by rw [List.mem_singleton.mp hp]; exact Nat.le_refl 1
  | n + 1 => onw_pos (way_pos n)
theorem sum_pos_of {α : Type} {f : α → Nat} : ∀ {xs : List α}, 0 < (xs.map f).sum → ∃ x ∈ xs, 0 < f x
  | [], h => absurd h (Nat.lt_irrefl _)
  | x :: xs, h => by
    rw [List.map_cons, List.sum_cons] at h
    rcases Nat.eq_zero_or_pos (f x) with z | z
    · obtain ⟨y, hy, h⟩ := sum_pos_of (f := f) (xs := xs) (by omega)
      exact ⟨y, List.mem_cons_of_mem _ hy, h⟩
    · exact ⟨x, List.mem_cons_self, z⟩
theorem sum_geN {α : Type} {f : α → Nat} : ∀ {xs : List α} {x : α}, x ∈ xs → f x ≤ (xs.map f).sum
  | [], _, h => absurd h List.not_mem_nil
  | y :: ys, x, h => by
    rw [List.map_cons, List.sum_cons]
    rcases List.mem_cons.mp h with z | z
    · rw [z]
      omega
    · have := sum_geN (f := f) z
      omega
theorem way_any {L : Nat} {rs : Rows} (M : GOk L rs) (n : Nat) : wayN rs n ≠ [] ↔ ∃ w t, w ∈ wordsN L n ∧ run rs w 0 = some t := by
  have e := way_sum M n (fun _ => 1)
  constructor
  · intro h
    have : 0 < sumW (wayN rs n) (fun _ => 1) := by
      cases q : wayN rs n with
      | nil => exact absurd q h
      | cons p ws =>
        have p1 := way_pos (rs := rs) n p (by rw [q]; exact List.mem_cons_self)
        have : p.2 * 1 ≤ ((p :: ws).map fun p : Nat × Nat => p.2 * 1).sum := sum_geN (f := fun p : Nat × Nat => p.2 * 1) (xs := p :: ws) List.mem_cons_self
        show 0 < ((p :: ws).map fun p : Nat × Nat => p.2 * 1).sum
        omega
    rw [e] at this
    obtain ⟨w, hw, hp⟩ := sum_pos_of this
    cases hr : run rs w 0 with
    | none =>
      rw [hr] at hp
      exact absurd hp (Nat.lt_irrefl _)
    | some t => exact ⟨w, t, hw, hr⟩
  · rintro ⟨w, t, hw, hr⟩ q
    rw [q] at e
    have : 1 ≤ ((wordsN L n).map fun w => optF (fun _ => 1) (run rs w 0)).sum := by
      have := sum_geN (f := fun w => optF (fun _ => 1) (run rs w 0)) hw
      rw [hr] at this
      exact this
    rw [← e] at this
    exact absurd this (by show ¬ 1 ≤ 0; decide)
/-- the rows without what leads nowhere -/
def cleanR (rs : Rows) (Mk : List Nat) : Rows := rs.map fun row => row.map fun o => match o with
  | none => none
  | some t => if t ∈ Mk then some t else none
section
variable {rs : Rows} {es : List Bool} {L : Nat} {Mk : List Nat}
theorem clean_nx (s c : Nat) : nx (cleanR rs Mk) s c = match nx rs s c with
    | none => none
    | some t => if t ∈ Mk then some t else none := by
  unfold nx cleanR
  rw [List.getD_eq_getElem?_getD (i := s), List.getD_eq_getElem?_getD (i := s), List.getElem?_map]
  cases rs[s]? with
  | none => rfl
  | some row =>
    show (row.map _).getD c none = _
    show _ = match row.getD c none with | none => none | some t => if t ∈ Mk then some t else none
    rw [List.getD_eq_getElem?_getD, List.getD_eq_getElem?_getD, List.getElem?_map]
    cases row[c]? with
    | none => rfl
    | some o => cases o <;> rfl
theorem clean_ok (M : MOk L rs es) : GOk L (cleanR rs Mk) := by
  refine ⟨by unfold cleanR; rw [List.length_map]; exact M.l1, by unfold cleanR; rw [List.length_map]; exact Nat.le_trans M.l400 (by decide), fun row hr => ?_, fun row hr t ht => ?_, M.L1, Nat.le_trans M.L3 (by decide)⟩
  · obtain ⟨r, h1, rfl⟩ := List.mem_map.mp hr
    rw [List.length_map]
    exact M.row r h1
  · obtain ⟨r, h1, rfl⟩ := List.mem_map.mp hr
    obtain ⟨o, h2, h3⟩ := List.mem_map.mp ht
    unfold cleanR
    rw [List.length_map]
    cases o with
    | none => cases h3
    | some u =>
      have h3 : (if u ∈ Mk then some u else none) = some t := h3
      by_cases z : u ∈ Mk
      · rw [if_pos z] at h3
        cases h3
        exact M.tgt r h1 t h2
      · rw [if_neg z] at h3
        cases h3
theorem clean_acc (hm : ∀ s, Reach rs s → (s ∈ Mk ↔ Live rs es s)) : ∀ (w : List Nat) (s : Nat), Reach rs s → acc (cleanR rs Mk) es w s = acc rs es w s
  | [], s, _ => rfl
  | c :: w, s, r => by
    have e := clean_nx (rs := rs) (Mk := Mk) s c
    cases h : nx rs s c with
    | none =>
      rw [h] at e
      rw [acc_none h, acc_none e]
    | some t =>
      rw [h] at e
      have e : nx (cleanR rs Mk) s c = if t ∈ Mk then some t else none := e
      have rt := reach_on r h
      by_cases z : t ∈ Mk
      · rw [if_pos z] at e
        rw [acc_cons h, acc_cons e]
        exact clean_acc hm w t rt
      · rw [if_neg z] at e
        rw [acc_none e, acc_cons h]
        cases q : acc rs es w t with
        | false => rfl
        | true => exact absurd ((hm t rt).mpr ⟨w, q⟩) z
theorem clean_run (hm : ∀ s, Reach rs s → (s ∈ Mk ↔ Live rs es s)) : ∀ (w : List Nat) (s t : Nat), Reach rs s → (w = [] → s ∈ Mk) → run (cleanR rs Mk) w s = some t → ∃ v, acc rs es (w ++ v) s = true
  | [], s, t, r, h0, h => by
    cases h
    obtain ⟨v, hv⟩ := (hm s r).mp (h0 rfl)
    exact ⟨v, hv⟩
  | c :: w, s, t, r, h0, h => by
    rw [run_cons] at h
    have e := clean_nx (rs := rs) (Mk := Mk) s c
    cases q : nx rs s c with
    | none =>
      rw [q] at e
      rw [e] at h
      cases h
    | some u =>
      rw [q] at e
      have e : nx (cleanR rs Mk) s c = if u ∈ Mk then some u else none := e
      by_cases z : u ∈ Mk
      · rw [if_pos z] at e
        rw [e] at h
        obtain ⟨v, hv⟩ := clean_run hm w u t (reach_on r q) (fun _ => z) h
        exact ⟨v, by rw [List.cons_append, acc_cons q]; exact hv⟩
      · rw [if_neg z] at e
        rw [e] at h
        cases h
end
section
open Classical
/-- how many words a language has, None where they go on, told by the words up to some length -/
noncomputable def sizeO (L : Nat) (p : List Nat → Bool) (n : Nat) : V := if ∃ w, n ≤ w.length ∧ p w = true then .non else .int (((List.range n).map fun k => cntP L p k).sum : Nat)
theorem sum_ext {f : Nat → Nat} : ∀ (n m : Nat), n ≤ m → (∀ k, n ≤ k → f k = 0) → ((List.range m).map f).sum = ((List.range n).map f).sum
  | n, 0, h, _ => by rw [Nat.le_zero.mp h]
  | n, m + 1, h, z => by
    rcases Nat.lt_or_ge m n with l | l
    · rw [show n = m + 1 by omega]
    · rw [List.range_succ, List.map_append, List.sum_append, sum_ext n m l z]
      show _ + (f m + 0) = _
      rw [z m l]
      rfl
theorem size_none {L : Nat} {r1 : Rows} {e1 : List Bool} {n : Nat} (h : ∀ w, acc r1 e1 w 0 = false) : sizeO L (fun w => acc r1 e1 w 0) n = .int 0 := by
  unfold sizeO
  rw [if_neg fun ⟨w, _, z⟩ => by have z : acc r1 e1 w 0 = true := z; rw [h] at z; cases z]
  have : ((List.range n).map fun k => cntP L (fun w => acc r1 e1 w 0) k).sum = 0 := by
    rw [sum_ext 0 n (Nat.zero_le _) fun k _ => ?_]
    · rfl
    · rcases Nat.eq_zero_or_pos (cntP L (fun w => acc r1 e1 w 0) k) with y | y
      · exact y
      · obtain ⟨w, _, _, hw⟩ := cnt_pos.mp y
        have hw : acc r1 e1 w 0 = true := hw
        rw [h] at hw
        cases hw
  rw [this]
  rfl
theorem size_some {L : Nat} {r1 : Rows} {e1 : List Bool} (M : MOk L r1 e1) {w : List Nat} (h : acc r1 e1 w 0 = true) : sizeO L (fun w => acc r1 e1 w 0) r1.length ≠ .int 0 := by
  unfold sizeO
  by_cases z : ∃ w, r1.length ≤ w.length ∧ acc r1 e1 w 0 = true
  · rw [if_pos z]
    exact fun e => nomatch e
  · rw [if_neg z]
    intro e
    have e := V.int.inj e
    have : 0 < cntP L (fun w => acc r1 e1 w 0) w.length := cnt_pos.mpr ⟨w, acc_wide M.row h, rfl, h⟩
    have l : w.length < r1.length := by
      rcases Nat.lt_or_ge w.length r1.length with l | l
      · exact l
      · exact absurd ⟨w, l, h⟩ z
    have := sum_geN (f := fun k => cntP L (fun w => acc r1 e1 w 0) k) (List.mem_range.mpr l)
    omega
end
section
variable {P : Program} {w : World} {K : PySem.W.Frag} {mg : Str → Option Value} {base : Heap}
theorem scSizeG : FnScope ["machine", "_", "rows", "ends", "leads", "clean", "item", "row", "ways", "number", "state"] ["machine"] (defScope sSize) := ⟨rfl, rfl, rfl, by decide +kernel, rfl, by decide +kernel, by decide +kernel⟩
def spSize (K : PySem.W.Frag) : Sp := fun vs H Q _ => ∃ (L : Nat) (rs : Rows) (es : List Bool) (x : V) (B : Addr → Prop), vs = [x] ∧ Dt B K H x (machDt L rs es) ∧ MOk L rs es ∧
  ∀ (H' : Hp), Same H H' → Q (sizeO L (fun w => acc rs es w 0) rs.length) H'
theorem ok_sizeG {f fUS fON : Addr} {fd fdUS fdON : FuncData} (F : Fun K "size" "size" sSize f fd)
    (US : FnOk P w K mg base CX0 2 fUS fdUS ["rows", "ends"] spUseful) (FUS : Fun K "useful" "useful" sUseful fUS fdUS) (bUS : Binds K fdUS ["rows", "ends"] []) (gUS : mg "useful" = some (.ref fUS))
    (ON : FnOk P w K mg base CX0 1 fON fdON ["rows", "ways"] spOnward) (FON : Fun K "onward" "onward" sOnward fON fdON) (bON : Binds K fdON ["rows", "ways"] []) (gON : mg "onward" = some (.ref fON)) (T : Mg mg) (mSum : mg "sum" = none) : FnOk P w K mg base CX0 3 f fd ["machine"] (spSize K) := by
  refine F.ok scSizeG (fun vs H Q E h => ?_) (fun cdv A outer s H vs Q E hr h => ?_)
  · obtain ⟨L, rs, es, x, B, rfl, _⟩ := h
    rfl
  · obtain ⟨L, rs, es, x, B, rfl, hx, M, k⟩ := h
    have hu1 := hu_of hr
    refine ⟨_, (pss_cons (ps_asg (pv 0) (pg_tup rfl (pgs_cons (pg_name (i := 1) scSizeG.nd rfl (.inl rfl)) (pgs_cons (pg_name (i := 2) scSizeG.nd rfl (.inl rfl)) (pgs_cons (pg_name (i := 3) scSizeG.nd rfl (.inr rfl)) pgs_nil)))))
      (pss_cons (ps_set (i := 4) scSizeG.nd rfl (.inr rfl) (pe_call US (hr.mono (by decide)) (by rfl) gUS FUS.kp bUS .nil pass0 (pa_cons (pv 2) (pa_cons (pv 3) pa_nil))))
      (pss_cons (ps_setLc (i := 5) (own := [("row", 7)]) (g := gName 7) (tt := tYes) rfl scSizeG.nd rfl rfl (sw_true rfl rfl rfl (by decide +kernel)) (pi_tup (pv 2)) (blkOk_by (N := ["machine", "_", "rows", "ends", "leads", "clean", "item", "row", "ways", "number", "state"]) (sc := defScope sSize) (by decide +kernel)) (fun _ _ _ _ _ => pg_name (i := 7) scSizeG.nd rfl (Or.inl rfl)) (fun _ _ _ _ _ => pts_nil) (fun _ _ _ _ _ => (pe_lc (wi := iTup K _) (own := [("item", 6)]) (g := gName 6) (tt := tYes) rfl scSizeG.nd (pi_tup (pv 7)) (blkOk_by (by kernel_rfl)) (fun _ _ _ _ _ => pg_name (i := 6) scSizeG.nd rfl (Or.inl rfl)) (fun _ _ _ _ _ => pts_nil) (fun _ _ _ _ _ => (pe_ifExp (PW.pt (pw_and (pt_cmp (pc_notN (pv 6))) (pw_and1 (pt_val (pe_ix (r := rIxL K) ix_list (pv 4) (pv 6) (fun _ _ => rfl)))))) (pv 6) pe_non)))))
      (pss_cons (ps_set (i := 8) scSizeG.nd rfl (.inr rfl) (pe_ifExp (pt_val (pe_ix (r := rIxL K) ix_list (pv 4) pe_int (fun _ _ => rfl))) (pe_disp (pps_cons pe_int pe_int pps_nil) (by rfl) (by rfl) (fun z => by cases z) (by decide)) pe_dnewK))
      (pss_cons (ps_set (i := 9) scSizeG.nd rfl (.inl rfl) pe_int)
      (pss_cons (ps_for PassesOwn.never rfl (pi_tup (pv 2)) (pg_name (i := 1) scSizeG.nd rfl (.inl rfl)) (pss_cons (ps_aug (i := 9) scSizeG.nd rfl (.inl rfl) (pe_callB (r := rSum K) (cr_sum rfl) (by rfl) mSum (by decide +kernel) (pa_cons (pe_lock (pe_lc (own := [("state", 10)]) (g := gName 10) rfl scSizeG.nd (pi_keys (pv 8)) (blkOk_by (N := ["machine", "_", "rows", "ends", "leads", "clean", "item", "row", "ways", "number", "state"]) (sc := defScope sSize) (by decide +kernel)) (fun _ _ _ _ _ => pg_name (i := 10) scSizeG.nd rfl (Or.inl rfl)) (fun _ _ _ _ _ => pts_one (pt_val (pe_ix (r := rIxT K) ix_tup (pv 3) (pv 10) (fun _ _ => rfl)))) (fun _ _ _ _ _ => pe_dget hu1 (pv 8) (pv 10) (fun _ _ => rfl)))) pa_nil)) ip_add)
      (pss_one (ps_set (i := 8) scSizeG.nd rfl (.inr rfl) (pe_call ON (hr.mono (by decide)) (by rfl) gON FON.kp bON .nil pass0 (pa_cons (pv 5) (pa_cons (pv 8) pa_nil)))))))
      (pss_one (ps_ret (pe_ifExp (pt_truth (pv 8) (fun _ => rfl)) pe_non (pv 9)))))))))), ?_⟩
    obtain ⟨m, pr, pe, rvs, rfl, _, MM⟩ := dt_mach hx
    have el := M.es
    have l4 := M.l400
    have L3 := M.L3
    refine ⟨_, rfl, m, _, rfl, .inl MM.hm, rfl, _, _, rfl, _, _, rfl, _, _, rfl, rfl, ?_⟩
    refine ⟨_, rfl, _, rfl, L, rs, es, true, true, true, pr, pe, rvs, rfl, M.g, M.es, MM.ga, MM.he, fun H1 ld Mk s1 ld0 hld lv => ?_⟩
    have CO : GOk L (cleanR rs Mk) := clean_ok M
    have cll : (cleanR rs Mk).length = rs.length := List.length_map _
    have MM1 := MM.same s1
    refine ⟨_, rfl, pr, rfl, ⟨_, .inl MM1.hr⟩, fun D hD => ?_⟩
    refine lc_tup (K := K) (a := pr) (xs := rvs) (fun i H' => Same H1 H' ∧ ∃ as : List Addr, H' D = some (.lst (as.map V.ref)) ∧ as.length = i ∧ (∀ a ∈ as, a ≠ D) ∧ ∀ (j : Nat) (a : Addr), as[j]? = some a → ∃ row, (cleanR rs Mk)[j]? = some row ∧ H' a = some (.lst (row.map oV)))
      ⟨same_new hD, [], upd_same, rfl, fun a h => absurd h List.not_mem_nil, fun j a e => by cases e⟩ (fun i H' _ p => .inl (same_rd p.1 MM1.hr)) ?_ ?_
    · rintro i x H2 hxi ⟨sm2, as, hD2, al, an, ar⟩
      have il : i < rs.length := by
        have := (List.getElem?_eq_some_iff.mp hxi).1
        rw [MM.hl] at this
        exact this
      have hrow : rs[i]? = some rs[i] := List.getElem?_eq_getElem il
      have hmr := List.getElem_mem il
      obtain ⟨q, hq1, hq2⟩ := MM1.row i _ hrow
      rw [hxi] at hq1
      cases hq1
      have hq3 := same_rd sm2 hq2
      have hrl := M.row _ hmr
      have crow : (cleanR rs Mk)[i]? = some (rs[i].map fun o => match o with | none => none | some t => if t ∈ Mk then some t else none) := by
        unfold cleanR
        rw [List.getElem?_map, hrow]
        rfl
      generalize rs[i] = row at *
      refine ⟨rfl, _, rfl, q, rfl, ⟨_, .inl hq3⟩, fun D2 nD2 => ?_⟩
      refine lc_tup (K := K) (a := q) (xs := row.map oV) (NInv (fun o : Option Nat => oV (match o with | none => none | some t => if t ∈ Mk then some t else none)) row H2 D2) (nstart nD2) (fun i H' _ p => .inl (same_rd p.1 hq3)) ?_ ?_
      · rintro j z H3 hz p3
        rw [List.getElem?_map] at hz
        obtain ⟨o, ho, rfl⟩ := Option.map_eq_some_iff.mp hz
        refine ⟨rfl, _, rfl, _, rfl, ?_⟩
        cases o with
        | none => exact nturn (f := fun o : Option Nat => oV (match o with | none => none | some t => if t ∈ Mk then some t else none)) (small9 (by omega)) nD2 ho p3 (Same.refl _)
        | some t =>
          have tt := M.tgt row hmr t (List.mem_of_getElem? ho)
          refine ⟨_, rfl, _, rfl, ld, _, (t : Int), V.bl (decide (t ∈ Mk)), rfl, rfl, SqL.of (p3.1 _ _ (sm2 _ _ hld)), atI_nat (knB_get tt), _, rfl, ?_⟩
          have nt := nturn (f := fun o : Option Nat => oV (match o with | none => none | some t => if t ∈ Mk then some t else none)) (small9 (by omega)) nD2 ho p3 (Same.refl _)
          have nt : ∃ acc, H3 D2 = some (.lst acc) ∧ acc.length < sizeLine ∧ NInv (fun o : Option Nat => oV (match o with | none => none | some t => if t ∈ Mk then some t else none)) row H2 D2 (j + 1) (upd H3 D2 (.lst (acc ++ [oV (if t ∈ Mk then some t else none)]))) := nt
          by_cases z : t ∈ Mk
          · rw [if_pos z] at nt
            rw [decide_eq_true z]
            exact ⟨_, rfl, nt⟩
          · rw [if_neg z] at nt
            rw [decide_eq_false z]
            exact nt
      · rintro H3 p3
        obtain ⟨s3, hl3⟩ := nend (List.length_map _) p3
        have hD3 := s3 _ _ hD2
        have nDD : D2 ≠ D := fun z => by rw [z, hD2] at nD2; cases nD2
        refine ⟨_, hD3, small9 (by rw [List.length_map]; omega), fun b o e => ?_, as ++ [D2], by rw [upd_same, List.map_append]; rfl, by rw [List.length_append, al]; rfl, fun a ha => ?_, fun j a e => ?_⟩
        · rw [upd_ne (ne_of_none e hD)]
          exact s3 _ _ (sm2 _ _ e)
        · rcases List.mem_append.mp ha with ha | ha
          · exact an a ha
          · rw [List.mem_singleton.mp ha]
            exact nDD
        · rcases Nat.lt_or_ge j as.length with l | l
          · rw [List.getElem?_append_left l] at e
            obtain ⟨row', h1, h2⟩ := ar j a e
            exact ⟨row', h1, by rw [upd_ne (an a (List.mem_of_getElem? e))]; exact s3 _ _ h2⟩
          · have l2 := (List.getElem?_eq_some_iff.mp e).1
            rw [List.length_append, List.length_singleton] at l2
            have ej : j = as.length := by omega
            subst ej
            rw [List.getElem?_append_right (Nat.le_refl _), Nat.sub_self] at e
            cases e
            refine ⟨_, by rw [al]; exact crow, ?_⟩
            rw [upd_ne nDD, hl3, List.map_map]
            rfl
    · rintro H2 ⟨sm2, as, hcl, al, an, ar⟩
      rw [MM.hl] at al
      refine ⟨_, rfl, ld, _, 0, _, rfl, rfl, SqL.of (sm2 _ _ hld), atI_nat (j := 0) (knB_get M.l1), _, rfl, ?_⟩
      have gaC : ∀ {H' : Hp}, Same H2 H' → GA H' L (cleanR rs Mk) false false D (as.map V.ref) := fun {H'} sm => by
        refine ⟨.inl (sm _ _ hcl), by rw [List.length_map, cll, al], fun j row hrow => ?_⟩
        have jl := (List.getElem?_eq_some_iff.mp hrow).1
        rw [cll] at jl
        obtain ⟨a, ha⟩ : ∃ a, as[j]? = some a := ⟨_, List.getElem?_eq_getElem (by omega)⟩
        obtain ⟨row', h1, h2⟩ := ar j a ha
        rw [hrow] at h1
        cases h1
        exact ⟨a, by rw [List.getElem?_map, ha]; rfl, .inl (sm _ _ h2)⟩
      cases hb : decide (0 ∈ Mk) with
      | false =>
        have z0 := of_decide_eq_false hb
        have dead : ∀ w, acc rs es w 0 = false := fun w => by
          cases q : acc rs es w 0 with
          | false => rfl
          | true => exact absurd ((lv 0 .z).mpr ⟨w, q⟩) z0
        intro dw hdw
        have t1 := same_new (o := .dK ([] : List (Key × V))) hdw
        have hd1 : (upd H2 dw (.dK [])) dw = some (.dK (wKv [])) := upd_same
        generalize upd H2 dw (.dK []) = H3 at *
        obtain ⟨W, hW0⟩ : ∃ W : Nat → List (Nat × Nat), W = fun _ => [] := ⟨_, rfl⟩
        have sm3 := sm2.trans t1
        have gaC := fun {H' : Hp} (sm : Same H1 H') (s2 : Same H2 H') => gaC s2
        have hd1 : H3 dw = some (.dK (wKv (W 0))) := by rw [hW0]; exact hd1
        have hN : ∀ k, onw (cleanR rs Mk) (W k) = W (k + 1) := fun k => by rw [hW0]; rfl
        have hK : ∀ k, ((W k).map Prod.fst).Nodup ∧ ∀ t ∈ (W k).map Prod.fst, t < (cleanR rs Mk).length := fun k => by rw [hW0]; exact ⟨List.nodup_nil, fun t h => absurd h List.not_mem_nil⟩
        have hS : ∀ k, sumW (W k) (fun s => b2n (es.getD s false)) = cntP L (fun w => acc rs es w 0) k := fun k => by
          rw [hW0]
          rcases Nat.eq_zero_or_pos (cntP L (fun w => acc rs es w 0) k) with y | y
          · rw [y]; rfl
          · obtain ⟨w, _, _, hw⟩ := cnt_pos.mp y
            have hw : acc rs es w 0 = true := hw
            rw [dead] at hw
            cases hw
        have hE : W rs.length ≠ [] ↔ ∃ w, rs.length ≤ w.length ∧ acc rs es w 0 = true := by
          rw [hW0]
          exact ⟨fun z => absurd rfl z, fun ⟨w, _, hw⟩ => by rw [dead] at hw; cases hw⟩
        have wlen : rvs.length = rs.length := MM.hl
        refine ⟨_, rfl, pr, rfl, ⟨_, .inl (same_rd sm3 MM1.hr)⟩, ?_⟩
        refine for_tup (K := K) (a := pr) (xs := rvs) (fun i σ H' => (∃ (dw : Addr) (y1 y6 y7 y10 : Option V), σ = [some (.ref m), y1, some (.ref pr), some (.ref pe), some (.ref ld), some (.ref D), y6, y7, some (.ref dw), some (.int ((((List.range i).map fun k => sumW (W k) fun s => b2n (es.getD s false)).sum : Nat) : Int)), y10] ∧ H' dw = some (.dK (wKv (W i)))) ∧ Same H3 H')
          ⟨⟨dw, _, _, _, _, rfl, hd1⟩, Same.refl _⟩ (fun i σ H' _ p => .inl (same_rd (sm3.trans p.2) MM1.hr)) ?_ ?_
        · rintro i x σ H4 hxi ⟨⟨dw, y1, y6, y7, y10, rfl, hdw⟩, sm4⟩
          obtain ⟨nd, klt⟩ := hK i
          have lw : (wKv (W i)).length = (W i).length := List.length_map _
          have wl : (W i).length ≤ 200000 := by
            have h1 := nodup_len nd klt
            rw [List.length_map] at h1
            exact Nat.le_trans h1 CO.lN
          refine ⟨_, rfl, dw, .dK (wKv (W i)), hdw, trivial, fun od => ?_⟩
          have gd : (upd H4 dw (.frz od (.dK (wKv (W i))))) dw = some (.frz od (.dK (wKv (W i)))) := upd_same
          have kp : ∀ {b : Addr} {o : HO}, b ≠ dw → H4 b = some o → (upd H4 dw (.frz od (.dK (wKv (W i))))) b = some o := fun nb e => by rw [upd_ne nb]; exact e
          have kpe : Rd (upd H4 dw (.frz od (.dK (wKv (W i))))) pe (.tup (es.map V.bl)) := by
            have h0 := same_rd (sm3.trans sm4) MM1.he
            have ne : pe ≠ dw := fun z => by
              rw [z] at h0
              rcases h0 with h0 | ⟨_, h0⟩ <;> (rw [hdw] at h0; cases h0)
            rcases h0 with h0 | ⟨ob, h0⟩
            · exact .inl (kp ne h0)
            · exact .inr ⟨ob, kp ne h0⟩
          generalize hG4 : upd H4 dw (.frz od (.dK (wKv (W i)))) = G4 at *
          refine ⟨_, rfl, dw, od, rfl, .inl ⟨wKv (W i), gd, fun D3 hD3 => ?_⟩⟩
          refine lc_it (walk_keys (d := dw) (o := od) (kvs := wKv (W i))) (KInv (fun p : Nat × Nat => es.getD p.1 false) (fun p => natV p.2) (W i) G4 D3) (kstart hD3) (fun j H' _ p => p.1 _ _ gd) ?_ ?_
          · rintro j z H5 H6 hj p5 ⟨rfl, key, vv, hkv, rfl⟩
            unfold wKv at hkv
            rw [List.getElem?_map] at hkv
            obtain ⟨p, hp, e⟩ := Option.map_eq_some_iff.mp hkv
            cases e
            have pm := List.mem_of_getElem? hp
            have pl := klt p.1 (List.mem_map_of_mem pm)
            have pe5 : p.1 < es.length := by rw [el]; rw [cll] at pl; exact pl
            refine ⟨rfl, _, rfl, _, rfl, pe, _, (p.1 : Int), V.bl (es.getD p.1 false), rfl, rfl, .inl (same_rd p5.1 kpe), atI_nat (by rw [List.getElem?_map, getD_at pe5, List.getElem?_eq_getElem pe5]; rfl), _, rfl, ?_⟩
            cases hb : es.getD p.1 false with
            | true =>
              have dgw : DGet H6 dw (.int (p.1 : Int)) (some (.int (p.2 : Int))) := by
                refine .inl ⟨wKv (W i), .inl (p.1 : Int), .inr ⟨od, p5.1 _ _ gd⟩, rfl, ?_⟩
                rw [wKv_val, if_pos (List.mem_map_of_mem pm), vl_at nd pm]
              exact ⟨_, rfl, _, rfl, dw, _, rfl, dgw, kyes (t := fun p : Nat × Nat => es.getD p.1 false) (f := fun p => natV p.2) (small9 (by omega)) hD3 hp hb p5 (Same.refl _)⟩
            | false => exact kno (t := fun p : Nat × Nat => es.getD p.1 false) (f := fun p => natV p.2) hp hb p5 (Same.refl _)
          · rintro H5 p5
            obtain ⟨s5, hl5⟩ := kend lw p5
            have nDw : D3 ≠ dw := fun z => by rw [z, gd] at hD3; cases hD3
            refine ⟨s5 _ _ gd, ?_⟩
            have back : Same H4 (upd H5 dw (.dK (wKv (W i)))) := fun b o e => by
              by_cases z : b = dw
              · rw [z, upd_same, ← hdw, ← e, z]
              · rw [upd_ne z]
                exact s5 _ _ (kp z e)
            have hl6 : (upd H5 dw (.dK (wKv (W i)))) D3 = some (.lst ((((W i).filter fun p : Nat × Nat => es.getD p.1 false).map fun p => (p.2 : Int)).map V.int)) := by
              rw [upd_ne nDw, hl5, List.map_map]
              rfl
            generalize upd H5 dw (.dK (wKv (W i))) = G6 at *
            refine ⟨D3, _, rfl, SqL.of hl6, ?_⟩
            have es1 : (((W i).filter fun p : Nat × Nat => es.getD p.1 false).map fun p => (p.2 : Int)).sum = ((sumW (W i) (fun s => b2n (es.getD s false)) : Nat) : Int) := by
              unfold sumW
              exact fil_sum es _
            rw [es1]
            have sm6 := sm4.trans back
            have ga := gaC (sm3.trans sm6) (t1.trans sm6)
            refine ⟨_, _, rfl, rfl, ?_⟩
            refine ⟨_, rfl, _, rfl, L, cleanR rs Mk, false, false, D, dw, as.map V.ref, W i, rfl, CO, ga, back _ _ hdw, nd, klt, fun H8 p s8 p0 hp => ⟨⟨p, some x, y6, y7, y10, congrArg (fun z : Int => [some (V.ref m), some x, some (V.ref pr), some (V.ref pe), some (V.ref ld), some (V.ref D), y6, y7, some (V.ref p), some (V.int z), y10]) (?_ : ((((List.range i).map fun k => sumW (W k) fun s => b2n (es.getD s false)).sum : Nat) : Int) + ((sumW (W i) (fun s => b2n (es.getD s false)) : Nat) : Int) = ((((List.range (i + 1)).map fun k => sumW (W k) fun s => b2n (es.getD s false)).sum : Nat) : Int)), by rw [hN] at hp; exact hp⟩, sm6.trans s8⟩⟩
            rw [List.range_succ, List.map_append, List.sum_append, Int.natCast_add]
            rfl
        · rintro σ H4 ⟨⟨dw, y1, y6, y7, y10, rfl, hdw⟩, sm4⟩
          rw [wlen] at hdw ⊢
          refine ⟨_, rfl, !(wKv (W rs.length)).isEmpty, .inr (.inr ⟨_, hdw, rfl⟩), ?_⟩
          have kk := k H4 (s1.trans (sm2.trans (t1.trans sm4)))
          have fin : sizeO L (fun w => acc rs es w 0) rs.length = if W rs.length ≠ [] then V.non else V.int ((((List.range rs.length).map fun k => sumW (W k) fun s => b2n (es.getD s false)).sum : Nat) : Int) := by
            have e2 : (fun k => cntP L (fun w => acc rs es w 0) k) = fun k => sumW (W k) fun s => b2n (es.getD s false) := funext fun k => (hS k).symm
            unfold sizeO
            rw [e2]
            by_cases z : W rs.length ≠ []
            · rw [if_pos z, if_pos (hE.mp z)]
            · rw [if_neg z, if_neg (fun y => z (hE.mpr y))]
          rw [fin] at kk
          by_cases z : W rs.length = []
          · rw [z]
            rw [if_neg (fun y => y z)] at kk
            exact ⟨_, rfl, kk⟩
          · rw [if_pos z] at kk
            have ne : (!(wKv (W rs.length)).isEmpty) = true := by
              cases q : W rs.length with
              | nil => exact absurd q z
              | cons p ws => rfl
            rw [ne]
            exact kk
      | true =>
        have z0 := of_decide_eq_true hb
        intro dw hdw
        refine ⟨upd_same, [(.inl 0, .int 1)], rfl, by show 1 ≤ 15; decide, ?_⟩
        rw [upd_upd]
        have t1 := same_new (o := .dK (mergeK [] [(.inl 0, V.int 1)])) hdw
        have hd1 : (upd H2 dw (.dK (mergeK [] [(.inl 0, V.int 1)]))) dw = some (.dK (wKv (wayN (cleanR rs Mk) 0))) := upd_same
        generalize upd H2 dw (.dK (mergeK [] [(.inl 0, V.int 1)])) = H3 at *
        obtain ⟨W, hW0⟩ : ∃ W : Nat → List (Nat × Nat), W = wayN (cleanR rs Mk) := ⟨_, rfl⟩
        have sm3 := sm2.trans t1
        have gaC := fun {H' : Hp} (sm : Same H1 H') (s2 : Same H2 H') => gaC s2
        have hd1 : H3 dw = some (.dK (wKv (W 0))) := by rw [hW0]; exact hd1
        have hN : ∀ k, onw (cleanR rs Mk) (W k) = W (k + 1) := fun k => by rw [hW0]; rfl
        have hK : ∀ k, ((W k).map Prod.fst).Nodup ∧ ∀ t ∈ (W k).map Prod.fst, t < (cleanR rs Mk).length := fun k => by rw [hW0]; exact way_keys CO k
        have hS : ∀ k, sumW (W k) (fun s => b2n (es.getD s false)) = cntP L (fun w => acc rs es w 0) k := fun k => by
          rw [hW0, way_cnt CO k]
          congr 1
          exact funext fun w => clean_acc lv w 0 .z
        have hE : W rs.length ≠ [] ↔ ∃ w, rs.length ≤ w.length ∧ acc rs es w 0 = true := by
          rw [hW0, way_any CO]
          constructor
          · rintro ⟨w, t, hw, hr⟩
            obtain ⟨v, hv⟩ := clean_run lv w 0 t .z (fun _ => z0) hr
            refine ⟨w ++ v, ?_, hv⟩
            rw [List.length_append, ((words_mem _ _).mp hw).2]
            omega
          · rintro ⟨w, hl, hw⟩
            rw [← clean_acc lv w 0 .z] at hw
            obtain ⟨q, hq, _⟩ := (acc_run w 0).mp hw
            rw [← List.take_append_drop rs.length w, run_append] at hq
            cases hr : run (cleanR rs Mk) (w.take rs.length) 0 with
            | none =>
              rw [hr] at hq
              cases hq
            | some t =>
              refine ⟨w.take rs.length, t, (words_mem _ _).mpr ⟨fun c hc => ?_, by rw [List.length_take]; omega⟩, hr⟩
              exact acc_wide CO.row hw c (List.mem_of_mem_take hc)
        have wlen : rvs.length = rs.length := MM.hl
        refine ⟨_, rfl, pr, rfl, ⟨_, .inl (same_rd sm3 MM1.hr)⟩, ?_⟩
        refine for_tup (K := K) (a := pr) (xs := rvs) (fun i σ H' => (∃ (dw : Addr) (y1 y6 y7 y10 : Option V), σ = [some (.ref m), y1, some (.ref pr), some (.ref pe), some (.ref ld), some (.ref D), y6, y7, some (.ref dw), some (.int ((((List.range i).map fun k => sumW (W k) fun s => b2n (es.getD s false)).sum : Nat) : Int)), y10] ∧ H' dw = some (.dK (wKv (W i)))) ∧ Same H3 H')
          ⟨⟨dw, _, _, _, _, rfl, hd1⟩, Same.refl _⟩ (fun i σ H' _ p => .inl (same_rd (sm3.trans p.2) MM1.hr)) ?_ ?_
        · rintro i x σ H4 hxi ⟨⟨dw, y1, y6, y7, y10, rfl, hdw⟩, sm4⟩
          obtain ⟨nd, klt⟩ := hK i
          have lw : (wKv (W i)).length = (W i).length := List.length_map _
          have wl : (W i).length ≤ 200000 := by
            have h1 := nodup_len nd klt
            rw [List.length_map] at h1
            exact Nat.le_trans h1 CO.lN
          refine ⟨_, rfl, dw, .dK (wKv (W i)), hdw, trivial, fun od => ?_⟩
          have gd : (upd H4 dw (.frz od (.dK (wKv (W i))))) dw = some (.frz od (.dK (wKv (W i)))) := upd_same
          have kp : ∀ {b : Addr} {o : HO}, b ≠ dw → H4 b = some o → (upd H4 dw (.frz od (.dK (wKv (W i))))) b = some o := fun nb e => by rw [upd_ne nb]; exact e
          have kpe : Rd (upd H4 dw (.frz od (.dK (wKv (W i))))) pe (.tup (es.map V.bl)) := by
            have h0 := same_rd (sm3.trans sm4) MM1.he
            have ne : pe ≠ dw := fun z => by
              rw [z] at h0
              rcases h0 with h0 | ⟨_, h0⟩ <;> (rw [hdw] at h0; cases h0)
            rcases h0 with h0 | ⟨ob, h0⟩
            · exact .inl (kp ne h0)
            · exact .inr ⟨ob, kp ne h0⟩
          generalize hG4 : upd H4 dw (.frz od (.dK (wKv (W i)))) = G4 at *
          refine ⟨_, rfl, dw, od, rfl, .inl ⟨wKv (W i), gd, fun D3 hD3 => ?_⟩⟩
          refine lc_it (walk_keys (d := dw) (o := od) (kvs := wKv (W i))) (KInv (fun p : Nat × Nat => es.getD p.1 false) (fun p => natV p.2) (W i) G4 D3) (kstart hD3) (fun j H' _ p => p.1 _ _ gd) ?_ ?_
          · rintro j z H5 H6 hj p5 ⟨rfl, key, vv, hkv, rfl⟩
            unfold wKv at hkv
            rw [List.getElem?_map] at hkv
            obtain ⟨p, hp, e⟩ := Option.map_eq_some_iff.mp hkv
            cases e
            have pm := List.mem_of_getElem? hp
            have pl := klt p.1 (List.mem_map_of_mem pm)
            have pe5 : p.1 < es.length := by rw [el]; rw [cll] at pl; exact pl
            refine ⟨rfl, _, rfl, _, rfl, pe, _, (p.1 : Int), V.bl (es.getD p.1 false), rfl, rfl, .inl (same_rd p5.1 kpe), atI_nat (by rw [List.getElem?_map, getD_at pe5, List.getElem?_eq_getElem pe5]; rfl), _, rfl, ?_⟩
            cases hb : es.getD p.1 false with
            | true =>
              have dgw : DGet H6 dw (.int (p.1 : Int)) (some (.int (p.2 : Int))) := by
                refine .inl ⟨wKv (W i), .inl (p.1 : Int), .inr ⟨od, p5.1 _ _ gd⟩, rfl, ?_⟩
                rw [wKv_val, if_pos (List.mem_map_of_mem pm), vl_at nd pm]
              exact ⟨_, rfl, _, rfl, dw, _, rfl, dgw, kyes (t := fun p : Nat × Nat => es.getD p.1 false) (f := fun p => natV p.2) (small9 (by omega)) hD3 hp hb p5 (Same.refl _)⟩
            | false => exact kno (t := fun p : Nat × Nat => es.getD p.1 false) (f := fun p => natV p.2) hp hb p5 (Same.refl _)
          · rintro H5 p5
            obtain ⟨s5, hl5⟩ := kend lw p5
            have nDw : D3 ≠ dw := fun z => by rw [z, gd] at hD3; cases hD3
            refine ⟨s5 _ _ gd, ?_⟩
            have back : Same H4 (upd H5 dw (.dK (wKv (W i)))) := fun b o e => by
              by_cases z : b = dw
              · rw [z, upd_same, ← hdw, ← e, z]
              · rw [upd_ne z]
                exact s5 _ _ (kp z e)
            have hl6 : (upd H5 dw (.dK (wKv (W i)))) D3 = some (.lst ((((W i).filter fun p : Nat × Nat => es.getD p.1 false).map fun p => (p.2 : Int)).map V.int)) := by
              rw [upd_ne nDw, hl5, List.map_map]
              rfl
            generalize upd H5 dw (.dK (wKv (W i))) = G6 at *
            refine ⟨D3, _, rfl, SqL.of hl6, ?_⟩
            have es1 : (((W i).filter fun p : Nat × Nat => es.getD p.1 false).map fun p => (p.2 : Int)).sum = ((sumW (W i) (fun s => b2n (es.getD s false)) : Nat) : Int) := by
              unfold sumW
              exact fil_sum es _
            rw [es1]
            have sm6 := sm4.trans back
            have ga := gaC (sm3.trans sm6) (t1.trans sm6)
            refine ⟨_, _, rfl, rfl, ?_⟩
            refine ⟨_, rfl, _, rfl, L, cleanR rs Mk, false, false, D, dw, as.map V.ref, W i, rfl, CO, ga, back _ _ hdw, nd, klt, fun H8 p s8 p0 hp => ⟨⟨p, some x, y6, y7, y10, congrArg (fun z : Int => [some (V.ref m), some x, some (V.ref pr), some (V.ref pe), some (V.ref ld), some (V.ref D), y6, y7, some (V.ref p), some (V.int z), y10]) (?_ : ((((List.range i).map fun k => sumW (W k) fun s => b2n (es.getD s false)).sum : Nat) : Int) + ((sumW (W i) (fun s => b2n (es.getD s false)) : Nat) : Int) = ((((List.range (i + 1)).map fun k => sumW (W k) fun s => b2n (es.getD s false)).sum : Nat) : Int)), by rw [hN] at hp; exact hp⟩, sm6.trans s8⟩⟩
            rw [List.range_succ, List.map_append, List.sum_append, Int.natCast_add]
            rfl
        · rintro σ H4 ⟨⟨dw, y1, y6, y7, y10, rfl, hdw⟩, sm4⟩
          rw [wlen] at hdw ⊢
          refine ⟨_, rfl, !(wKv (W rs.length)).isEmpty, .inr (.inr ⟨_, hdw, rfl⟩), ?_⟩
          have kk := k H4 (s1.trans (sm2.trans (t1.trans sm4)))
          have fin : sizeO L (fun w => acc rs es w 0) rs.length = if W rs.length ≠ [] then V.non else V.int ((((List.range rs.length).map fun k => sumW (W k) fun s => b2n (es.getD s false)).sum : Nat) : Int) := by
            have e2 : (fun k => cntP L (fun w => acc rs es w 0) k) = fun k => sumW (W k) fun s => b2n (es.getD s false) := funext fun k => (hS k).symm
            unfold sizeO
            rw [e2]
            by_cases z : W rs.length ≠ []
            · rw [if_pos z, if_pos (hE.mp z)]
            · rw [if_neg z, if_neg (fun y => z (hE.mpr y))]
          rw [fin] at kk
          by_cases z : W rs.length = []
          · rw [z]
            rw [if_neg (fun y => y z)] at kk
            exact ⟨_, rfl, kk⟩
          · rw [if_pos z] at kk
            have ne : (!(wKv (W rs.length)).isEmpty) = true := by
              cases q : W rs.length with
              | nil => exact absurd q z
              | cons p ws => rfl
            rw [ne]
            exact kk
end
def sumR (f : Nat → Int) : Nat → Int
  | 0 => 0
  | n + 1 => sumR f n + f n
theorem sumR_congr {f g : Nat → Int} : ∀ (n : Nat), (∀ k, k < n → f k = g k) → sumR f n = sumR g n
  | 0, _ => rfl
  | n + 1, h => by
    unfold sumR
    rw [sumR_congr n fun k hk => h k (Nat.lt_succ_of_lt hk), h n (Nat.lt_succ_self n)]
theorem sumR_zero {f : Nat → Int} : ∀ (n : Nat), (∀ k, k < n → f k = 0) → sumR f n = 0
  | 0, _ => rfl
  | n + 1, h => by
    unfold sumR
    rw [sumR_zero n fun k hk => h k (Nat.lt_succ_of_lt hk), h n (Nat.lt_succ_self n)]
    rfl
theorem sumR_add (f g : Nat → Int) : ∀ (n : Nat), sumR (fun k => f k + g k) n = sumR f n + sumR g n
  | 0 => rfl
  | n + 1 => by
    unfold sumR
    rw [sumR_add f g n]
    omega
theorem sumR_mul (c : Int) (f : Nat → Int) : ∀ (n : Nat), sumR (fun k => c * f k) n = c * sumR f n
  | 0 => (Int.mul_zero c).symm
  | n + 1 => by
    unfold sumR
    rw [sumR_mul c f n, Int.mul_add]
theorem sumR_sub (f g : Nat → Int) : ∀ (n : Nat), sumR (fun k => f k - g k) n = sumR f n - sumR g n
  | 0 => rfl
  | n + 1 => by
    unfold sumR
    rw [sumR_sub f g n]
    omega
theorem sumR_comm (f : Nat → Nat → Int) (m : Nat) : ∀ (n : Nat), sumR (fun i => sumR (fun k => f i k) m) n = sumR (fun k => sumR (fun i => f i k) n) m
  | 0 => (sumR_zero m fun _ _ => rfl).symm
  | n + 1 => by
    show sumR (fun i => sumR (fun k => f i k) m) n + sumR (fun k => f n k) m = sumR (fun k => sumR (fun i => f i k) n + f n k) m
    rw [sumR_comm f m n, sumR_add]
theorem sumR_shift (f : Nat → Int) (j : Nat) : ∀ (n : Nat), sumR f (j + n) = sumR f j + sumR (fun k => f (j + k)) n
  | 0 => (Int.add_zero _).symm
  | n + 1 => by
    show sumR f (j + n) + f (j + n) = _
    rw [sumR_shift f j n]
    show _ = sumR f j + (sumR (fun k => f (j + k)) n + f (j + n))
    omega
theorem sumR_more {f : Nat → Int} {m : Nat} (n : Nat) (h : ∀ k, m ≤ k → f k = 0) (l : m ≤ n) : sumR f n = sumR f m := by
  obtain ⟨d, rfl⟩ : ∃ d, n = m + d := ⟨n - m, by omega⟩
  rw [sumR_shift, sumR_zero d fun k _ => h _ (Nat.le_add_right _ _), Int.add_zero]
/-- what a rule of order L tells at n -/
def dt (r : Nat → Int) (L : Nat) (s : Nat → Int) (n : Nat) : Int := sumR (fun k => r k * s (n - k)) (L + 1)
/-- a rule by which all numbers follow -/
def Rule (s : Nat → Int) (r : Nat → Int) (L : Nat) : Prop := r 0 ≠ 0 ∧ ∀ n, L ≤ n → dt r L s n = 0
section
variable {s r c : Nat → Int} {L M : Nat}
theorem dt_swap (n : Nat) : sumR (fun i => r i * dt c M s (n - i)) (L + 1) = sumR (fun k => c k * dt r L s (n - k)) (M + 1) := by
  have e1 : ∀ i, i < L + 1 → r i * dt c M s (n - i) = sumR (fun k => r i * (c k * s (n - i - k))) (M + 1) := fun i _ => (sumR_mul _ _ _).symm
  have e2 : ∀ k, k < M + 1 → c k * dt r L s (n - k) = sumR (fun i => r i * (c k * s (n - i - k))) (L + 1) := fun k _ => by
    unfold dt
    rw [← sumR_mul]
    refine sumR_congr _ fun i _ => ?_
    rw [Nat.sub_right_comm, ← Int.mul_assoc, ← Int.mul_assoc, Int.mul_comm (c k)]
  rw [sumR_congr _ e1, sumR_congr _ e2]
  exact sumR_comm _ _ _
theorem sumR_first {f : Nat → Int} {n : Nat} (h : ∀ k, 1 ≤ k → k < n + 1 → f k = 0) : sumR f (n + 1) = f 0 := by
  rw [Nat.add_comm n 1, sumR_shift]
  rw [sumR_zero n fun k hk => h (1 + k) (by omega) (by omega)]
  show 0 + f 0 + 0 = f 0
  omega
/-- a rule that holds so far, and fails now, tells that all rules are long -/
theorem massey {a : Nat} (v : ∀ n, L ≤ n → n < a → dt r L s n = 0) (m : dt r L s a ≠ 0) (R : Rule s c M) : a + 1 ≤ L + M := by
  rcases Nat.lt_or_ge a (L + M) with l | l
  · exact l
  · exfalso
    have h := dt_swap (s := s) (r := r) (c := c) (L := L) (M := M) a
    rw [sumR_zero (L + 1) fun i hi => by rw [R.2 _ (by omega), Int.mul_zero]] at h
    rw [sumR_first fun k k1 k2 => by rw [v _ (by omega) (by omega), Int.mul_zero]] at h
    rcases Int.mul_eq_zero.mp h.symm with z | z
    · exact R.1 z
    · exact m z
/-- where there is a rule, one that holds long enough holds for good -/
theorem holds_on {N : Nat} (v : ∀ n, L ≤ n → n < N → dt r L s n = 0) (R : Rule s c M) (hN : L + M ≤ N) : ∀ n, L ≤ n → dt r L s n = 0 := by
  have key : ∀ b n, n < b → L ≤ n → dt r L s n = 0 := fun b => by
    induction b with
    | zero => exact fun n h => absurd h (Nat.not_lt_zero _)
    | succ b ih =>
      intro n hn ln
      rcases Nat.lt_or_ge n N with q | q
      · exact v n ln q
      · have h := dt_swap (s := s) (r := r) (c := c) (L := L) (M := M) n
        rw [sumR_zero (L + 1) fun i hi => by rw [R.2 _ (by omega), Int.mul_zero]] at h
        rw [sumR_first fun k k1 k2 => by rw [ih _ (by omega) (by omega), Int.mul_zero]] at h
        rcases Int.mul_eq_zero.mp h.symm with z | z
        · exact absurd z R.1
        · exact z
  exact fun n => key (n + 1) n (Nat.lt_succ_self n)
/-- two shortest rules are the same but for a factor -/
theorem rule_one {r' : Nat → Int} (R : Rule s r L) (R' : Rule s r' L) (mn : ∀ q M, Rule s q M → L ≤ M) : ∀ k, k ≤ L → r 0 * r' k = r' 0 * r k := by
  let q : Nat → Int := fun k => r' 0 * r k - r 0 * r' k
  have q0 : q 0 = 0 := by
    show r' 0 * r 0 - r 0 * r' 0 = 0
    rw [Int.mul_comm (r' 0)]
    omega
  have qd : ∀ n, L ≤ n → sumR (fun k => q k * s (n - k)) (L + 1) = 0 := fun n hn => by
    have e : ∀ k, k < L + 1 → q k * s (n - k) = r' 0 * (r k * s (n - k)) - r 0 * (r' k * s (n - k)) := fun k _ => by
      show (r' 0 * r k - r 0 * r' k) * s (n - k) = _
      rw [Int.sub_mul, Int.mul_assoc, Int.mul_assoc]
    rw [sumR_congr _ e, sumR_sub, sumR_mul, sumR_mul]
    have h1 := R.2 n hn
    have h2 := R'.2 n hn
    unfold dt at h1 h2
    rw [h1, h2, Int.mul_zero, Int.mul_zero]
    rfl
  have all : ∀ j, j ≤ L + 1 → ∀ k, k < j → q k = 0 := fun j => by
    induction j with
    | zero => exact fun _ k h => absurd h (Nat.not_lt_zero _)
    | succ j ih =>
      intro hj k hk
      rcases Nat.lt_or_ge k j with l | l
      · exact ih (by omega) k l
      · have e : k = j := by omega
        subst e
        by_cases z : q k = 0
        · exact z
        · exfalso
          have k1 : 1 ≤ k := by
            rcases Nat.eq_zero_or_pos k with y | y
            · rw [y] at z
              exact absurd q0 z
            · exact y
          have := mn (fun i => q (k + i)) (L - k) ⟨z, fun n hn => by
            have := qd (n + k) (by omega)
            rw [show L + 1 = k + (L - k + 1) by omega, sumR_shift, sumR_zero k fun i hi => by rw [ih (by omega) i hi, Int.zero_mul], Int.zero_add] at this
            unfold dt
            rw [← this]
            refine sumR_congr _ fun i _ => ?_
            show q (k + i) * s (n - i) = q (k + i) * s (n + k - (k + i))
            rw [show n + k - (k + i) = n - i by omega]⟩
          omega
  intro k hk
  have := all (L + 1) (Nat.le_refl _) k (by omega)
  have this : r' 0 * r k - r 0 * r' k = 0 := this
  omega
end
def fnL (r : List Int) (k : Nat) : Int := r.getD k 0
theorem fnL_out {r : List Int} {k : Nat} (h : r.length ≤ k) : fnL r k = 0 := by
  unfold fnL
  rw [List.getD_eq_getElem?_getD, List.getElem?_eq_none h]
  rfl
def mendL (r : List Int) (md : Int) (o : List Int) (ms : Int) (gap : Nat) : List Int := (List.range (max r.length (o.length + gap))).map fun k => md * fnL r k - (if gap ≤ k then ms * fnL o (k - gap) else 0)
def gcdF (xs : List Int) (d : Nat) : Nat := xs.foldl (fun d x => Nat.gcd d x.natAbs) d
def gcdL (xs : List Int) : Nat := gcdF xs 0
def withL (xs : List Int) : List Int := xs.map fun x => x / (gcdL xs : Int)
def padL (xs : List Int) (n : Nat) : List Int := xs ++ List.replicate (n - xs.length) 0
structure BS where
  r : List Int
  o : List Int
  L : Nat
  md : Int
  gap : Nat
def bmMiss (s : Nat → Int) (a : Nat) (b : BS) : Int := dt (fnL b.r) b.L s a
def bmMend (b : BS) (ms : Int) : List Int := withL (mendL b.r b.md b.o ms b.gap)
def bmStep (s : Nat → Int) (a : Nat) (b : BS) : BS :=
  if bmMiss s a b = 0 then ⟨b.r, b.o, b.L, b.md, b.gap + 1⟩
  else if 2 * b.L ≤ a then ⟨padL (bmMend b (bmMiss s a b)) (a + 1 - b.L + 1), b.r, a + 1 - b.L, bmMiss s a b, 1⟩
  else ⟨padL (bmMend b (bmMiss s a b)) (b.L + 1), b.o, b.L, b.md, b.gap + 1⟩
def bmRun (s : Nat → Int) : Nat → BS
  | 0 => ⟨[1], [1], 0, 1, 1⟩
  | a + 1 => bmStep s a (bmRun s a)
def bmOut (b : BS) : List Int := (List.range b.L).map fun k => Int.fdiv (-(fnL b.r (k + 1))) (fnL b.r 0)
theorem gcdF_dvd : ∀ (xs : List Int) (d : Nat), gcdF xs d ∣ d ∧ ∀ x ∈ xs, gcdF xs d ∣ x.natAbs
  | [], d => ⟨Nat.dvd_refl d, fun x h => absurd h List.not_mem_nil⟩
  | x :: xs, d => by
    obtain ⟨h1, h2⟩ := gcdF_dvd xs (Nat.gcd d x.natAbs)
    refine ⟨Nat.dvd_trans h1 (Nat.gcd_dvd_left _ _), fun y hy => ?_⟩
    rcases List.mem_cons.mp hy with z | z
    · rw [z]
      exact Nat.dvd_trans h1 (Nat.gcd_dvd_right _ _)
    · exact h2 y z
theorem mend_at (r : List Int) (md : Int) (o : List Int) (ms : Int) (gap k : Nat) : fnL (mendL r md o ms gap) k = md * fnL r k - (if gap ≤ k then ms * fnL o (k - gap) else 0) := by
  rcases Nat.lt_or_ge k (max r.length (o.length + gap)) with l | l
  · show (mendL r md o ms gap).getD k 0 = _
    unfold mendL
    rw [List.getD_eq_getElem?_getD, List.getElem?_map, List.getElem?_range l]
    rfl
  · rw [fnL_out (by unfold mendL; rw [List.length_map, List.length_range]; exact l), fnL_out (r := r) (by omega)]
    by_cases z : gap ≤ k
    · rw [if_pos z, fnL_out (r := o) (by omega), Int.mul_zero, Int.mul_zero]
      rfl
    · rw [if_neg z, Int.mul_zero]
      rfl
theorem with_at (xs : List Int) (k : Nat) : (gcdL xs : Int) * fnL (withL xs) k = fnL xs k := by
  show (gcdL xs : Int) * (withL xs).getD k 0 = xs.getD k 0
  unfold withL
  rw [List.getD_eq_getElem?_getD, List.getD_eq_getElem?_getD, List.getElem?_map]
  cases h : xs[k]? with
  | none => exact Int.mul_zero _
  | some x =>
    show (gcdL xs : Int) * (x / (gcdL xs : Int)) = x
    have d := (gcdF_dvd xs 0).2 x (List.mem_of_getElem? h)
    exact Int.mul_ediv_cancel' (Int.ofNat_dvd_left.mpr d)
theorem gcd_ne {xs : List Int} {k : Nat} (h : fnL xs k ≠ 0) : (gcdL xs : Int) ≠ 0 := fun z => h (by rw [← with_at, z, Int.zero_mul])
theorem pad_at (xs : List Int) (n k : Nat) : fnL (padL xs n) k = fnL xs k := by
  show (padL xs n).getD k 0 = xs.getD k 0
  unfold padL
  rw [List.getD_eq_getElem?_getD, List.getD_eq_getElem?_getD]
  rcases Nat.lt_or_ge k xs.length with l | l
  · rw [List.getElem?_append_left l]
  · rw [List.getElem?_append_right l, List.getElem?_eq_none l, List.getElem?_replicate]
    split <;> rfl
theorem pad_len {xs : List Int} {n : Nat} (h : xs.length ≤ n) : (padL xs n).length = n := by
  unfold padL
  rw [List.length_append, List.length_replicate]
  omega
theorem mend_len (b : BS) (ms : Int) : (bmMend b ms).length = max b.r.length (b.o.length + b.gap) := by
  unfold bmMend withL mendL
  rw [List.length_map, List.length_map, List.length_range]
structure BMI (s : Nat → Int) (a : Nat) (b : BS) : Prop where
  rl : b.r.length = b.L + 1
  La : b.L ≤ a
  r0 : fnL b.r 0 ≠ 0
  val : ∀ n, b.L ≤ n → n < a → dt (fnL b.r) b.L s n = 0
  mn : ∀ c M, Rule s c M → b.L ≤ M
  old : (b.L = 0 ∧ b.o = [1] ∧ b.md = 1 ∧ b.gap = a + 1) ∨ ∃ m Lo, m < a ∧ b.gap = a - m ∧ b.L + Lo = m + 1 ∧ Lo ≤ m ∧ b.o.length = Lo + 1 ∧ b.md ≠ 0 ∧ (∀ n, Lo ≤ n → n < m → dt (fnL b.o) Lo s n = 0) ∧ dt (fnL b.o) Lo s m = b.md
theorem bm_start (s : Nat → Int) : BMI s 0 (bmRun s 0) where
  rl := rfl
  La := Nat.le_refl _
  r0 := by show (1 : Int) ≠ 0; decide
  val := fun n _ h => absurd h (Nat.not_lt_zero _)
  mn := fun _ _ _ => Nat.zero_le _
  old := .inl ⟨rfl, rfl, rfl, rfl⟩
/-- what the mended rule tells -/
theorem mended_dt {s : Nat → Int} {r o : List Int} {md ms : Int} {gap L Lo L' N n : Nat} (rl : r.length = L + 1) (ol : o.length = Lo + 1) (h1 : L ≤ L') (h2 : gap + Lo ≤ L') (hn : L' ≤ n) :
    (gcdL (mendL r md o ms gap) : Int) * dt (fnL (padL (withL (mendL r md o ms gap)) N)) L' s n = md * dt (fnL r) L s n - ms * dt (fnL o) Lo s (n - gap) := by
  unfold dt
  rw [← sumR_mul]
  have e : ∀ k, k < L' + 1 → (gcdL (mendL r md o ms gap) : Int) * (fnL (padL (withL (mendL r md o ms gap)) N) k * s (n - k)) = md * (fnL r k * s (n - k)) - (if gap ≤ k then ms * fnL o (k - gap) else 0) * s (n - k) := fun k _ => by
    rw [pad_at, ← Int.mul_assoc, with_at, mend_at, Int.sub_mul, Int.mul_assoc]
  rw [sumR_congr _ e, sumR_sub, sumR_mul]
  rw [sumR_more (f := fun k => fnL r k * s (n - k)) (m := L + 1) (L' + 1) (fun k hk => by rw [fnL_out (by omega), Int.zero_mul]) (by omega)]
  congr 1
  rw [show L' + 1 = gap + (L' + 1 - gap) by omega, sumR_shift, sumR_zero gap fun k hk => by rw [if_neg (by omega), Int.zero_mul], Int.zero_add]
  rw [sumR_more (m := Lo + 1) (L' + 1 - gap) (fun k hk => by rw [if_pos (by omega), fnL_out (r := o) (by omega), Int.mul_zero, Int.zero_mul]) (by omega), ← sumR_mul]
  refine sumR_congr _ fun k hk => ?_
  rw [if_pos (by omega), show gap + k - gap = k by omega, show n - (gap + k) = n - gap - k by omega, Int.mul_assoc]
theorem bm_step {s : Nat → Int} {a : Nat} {b : BS} (h : BMI s a b) : BMI s (a + 1) (bmStep s a b) := by
  obtain ⟨rl, La, r0, val, mn, old⟩ := h
  unfold bmStep
  by_cases z : bmMiss s a b = 0
  · rw [if_pos z]
    refine ⟨rl, by show b.L ≤ a + 1; omega, r0, fun n h1 h2 => ?_, mn, ?_⟩
    · rcases Nat.lt_or_ge n a with l | l
      · exact val n h1 l
      · rw [show n = a by omega]
        exact z
    · rcases old with ⟨o1, o2, o3, o4⟩ | ⟨m, Lo, m1, m2, m3, m4, m5, m6, m7, m8⟩
      · exact .inl ⟨o1, o2, o3, by show b.gap + 1 = _; rw [o4]⟩
      · exact .inr ⟨m, Lo, by omega, by show b.gap + 1 = _; omega, m3, m4, m5, m6, m7, m8⟩
  · rw [if_neg z]
    have lng : ∀ c M, Rule s c M → a + 1 ≤ b.L + M := fun c M R => massey val z R
    have md0 : b.md ≠ 0 := by
      rcases old with ⟨_, _, o3, _⟩ | ⟨_, _, _, _, _, _, _, m6, _⟩
      · rw [o3]; decide
      · exact m6
    have gap1 : 1 ≤ b.gap := by
      rcases old with ⟨_, _, _, o4⟩ | ⟨_, _, _, _, _, _, _, _, _, _⟩ <;> omega
    generalize hms : bmMiss s a b = ms at *
    have hmsd : dt (fnL b.r) b.L s a = ms := hms
    have n0 : ∀ N, fnL (padL (bmMend b ms) N) 0 ≠ 0 := fun N e => by
      rw [pad_at] at e
      have h1 := with_at (mendL b.r b.md b.o ms b.gap) 0
      have e : fnL (withL (mendL b.r b.md b.o ms b.gap)) 0 = 0 := e
      rw [e, Int.mul_zero, mend_at, if_neg (by omega), Int.sub_zero] at h1
      rcases Int.mul_eq_zero.mp h1.symm with y | y
      · exact md0 y
      · exact r0 y
    have g0 : (gcdL (mendL b.r b.md b.o ms b.gap) : Int) ≠ 0 := gcd_ne (k := 0) (by
      rw [mend_at, if_neg (by omega), Int.sub_zero]
      intro y
      rcases Int.mul_eq_zero.mp y with y | y
      · exact md0 y
      · exact r0 y)
    have newval : ∀ L' N, b.L ≤ L' → a + 1 - b.L ≤ L' → ∀ n, L' ≤ n → n < a + 1 → dt (fnL (padL (bmMend b ms) N)) L' s n = 0 := fun L' N h1 h2 n h3 h4 => by
      rcases old with ⟨o1, o2, o3, o4⟩ | ⟨m, Lo, m1, m2, m3, m4, m5, m6, m7, m8⟩
      · omega
      · have key := mended_dt (s := s) (md := b.md) (ms := ms) (N := N) rl m5 h1 (show b.gap + Lo ≤ L' by omega) h3
        have zero : (gcdL (mendL b.r b.md b.o ms b.gap) : Int) * dt (fnL (padL (withL (mendL b.r b.md b.o ms b.gap)) N)) L' s n = 0 := by
          rw [key]
          rcases Nat.lt_or_ge n a with l | l
          · rw [val n (by omega) l, m7 (n - b.gap) (by omega) (by omega), Int.mul_zero, Int.mul_zero]
            rfl
          · have ea : n = a := by omega
            rw [ea, hmsd, show a - b.gap = m by omega, m8, Int.mul_comm]
            omega
        rcases Int.mul_eq_zero.mp zero with y | y
        · exact absurd y g0
        · exact y
    have ml := mend_len b ms
    by_cases q : 2 * b.L ≤ a
    · rw [if_pos q]
      refine ⟨?_, by show a + 1 - b.L ≤ a + 1; omega, n0 _, newval (a + 1 - b.L) _ (by omega) (Nat.le_refl _), fun c M R => ?_, .inr ⟨a, b.L, Nat.lt_succ_self a, by show 1 = _; omega, by show a + 1 - b.L + b.L = _; omega, La, rl, z, fun n h1 h2 => val n h1 h2, hmsd⟩⟩
      · refine pad_len ?_
        rw [ml, rl]
        rcases old with ⟨o1, o2, o3, o4⟩ | ⟨m, Lo, m1, m2, m3, m4, m5, m6, m7, m8⟩
        · rw [o2, o4]
          show max (b.L + 1) (1 + (a + 1)) ≤ _
          omega
        · omega
      · have := lng c M R
        show a + 1 - b.L ≤ M
        omega
    · rw [if_neg q]
      refine ⟨?_, by show b.L ≤ a + 1; omega, n0 _, newval b.L _ (Nat.le_refl _) (by omega), mn, ?_⟩
      · refine pad_len ?_
        rw [ml, rl]
        rcases old with ⟨o1, o2, o3, o4⟩ | ⟨m, Lo, m1, m2, m3, m4, m5, m6, m7, m8⟩
        · omega
        · omega
      · rcases old with ⟨o1, o2, o3, o4⟩ | ⟨m, Lo, m1, m2, m3, m4, m5, m6, m7, m8⟩
        · omega
        · exact .inr ⟨m, Lo, by omega, by show b.gap + 1 = _; omega, m3, m4, m5, m6, m7, m8⟩
theorem bm_inv (s : Nat → Int) : ∀ a, BMI s a (bmRun s a)
  | 0 => bm_start s
  | a + 1 => bm_step (bm_inv s a)
/-- behind twice the order of a rule nothing is missed any more -/
theorem bm_still {s c : Nat → Int} {a M : Nat} (R : Rule s c M) (h : 2 * M ≤ a) : bmMiss s a (bmRun s a) = 0 := by
  have I := bm_inv s a
  have := I.mn c M R
  exact holds_on I.val R (by omega) a I.La
theorem bm_rule {s c : Nat → Int} {a M : Nat} (R : Rule s c M) (h : 2 * M ≤ a) : Rule s (fnL (bmRun s a).r) (bmRun s a).L := by
  have I := bm_inv s a
  have := I.mn c M R
  exact ⟨I.r0, holds_on I.val R (by omega)⟩
theorem fdiv_prop {x y x' y' : Int} (h : y * x' = y' * x) (hy : y ≠ 0) (hy' : y' ≠ 0) : Int.fdiv x y = Int.fdiv x' y' := by
  have e1 : Int.fdiv (y' * x) (y' * y) = Int.fdiv x y := by
    rcases Int.lt_or_gt_of_ne hy' with n | p
    · have := Int.mul_fdiv_mul_of_pos (a := -y') x y (by omega)
      rw [Int.neg_mul, Int.neg_mul, Int.neg_fdiv_neg] at this
      exact this
    · exact Int.mul_fdiv_mul_of_pos x y p
  have e2 : Int.fdiv (y * x') (y * y') = Int.fdiv x' y' := by
    rcases Int.lt_or_gt_of_ne hy with n | p
    · have := Int.mul_fdiv_mul_of_pos (a := -y) x' y' (by omega)
      rw [Int.neg_mul, Int.neg_mul, Int.neg_fdiv_neg] at this
      exact this
    · exact Int.mul_fdiv_mul_of_pos x' y' p
  rw [← e1, ← e2, h, Int.mul_comm y' y]
theorem bm_same {s c c' : Nat → Int} {a a' M M' : Nat} (R : Rule s c M) (h : 2 * M ≤ a) (R' : Rule s c' M') (h' : 2 * M' ≤ a') : bmOut (bmRun s a) = bmOut (bmRun s a') := by
  have I := bm_inv s a
  have I' := bm_inv s a'
  have q := bm_rule R h
  have q' := bm_rule R' h'
  have e : (bmRun s a').L = (bmRun s a).L := Nat.le_antisymm (I'.mn _ _ q) (I.mn _ _ q')
  rw [e] at q'
  unfold bmOut
  rw [e]
  refine List.map_congr_left fun k hk => ?_
  have hk := List.mem_range.mp hk
  have p := rule_one q q' I.mn (k + 1) (by omega)
  refine fdiv_prop ?_ I.r0 I'.r0
  rw [Int.mul_neg, Int.mul_neg, p]
theorem sumR_skip (f : Nat → Int) (j : Nat) : ∀ (d : Nat), sumR f (j + d + 1) = sumR (fun i => f (if i < j then i else i + 1)) (j + d) + f j
  | 0 => by
    show sumR f j + f j = _
    congr 1
    exact sumR_congr _ fun k hk => by rw [if_pos (by omega)]
  | d + 1 => by
    show sumR f (j + d + 1) + f (j + d + 1) = (sumR (fun i => f (if i < j then i else i + 1)) (j + d) + f (if j + d < j then j + d else j + d + 1)) + f j
    rw [sumR_skip f j d, if_neg (show ¬ j + d < j by omega)]
    omega
theorem sumR_rev (f : Nat → Int) : ∀ (n : Nat), sumR (fun k => f (n - k)) (n + 1) = sumR f (n + 1)
  | 0 => rfl
  | n + 1 => by
    rw [show n + 1 + 1 = 1 + (n + 1) by omega, sumR_shift]
    show (0 + f (n + 1)) + sumR (fun k => f (n + 1 - (1 + k))) (n + 1) = _
    rw [sumR_congr (n + 1) (g := fun k => f (n - k)) fun k _ => by rw [show n + 1 - (1 + k) = n - k by omega], sumR_rev f n, show 1 + (n + 1) = (n + 1) + 1 by omega]
    show _ = sumR f (n + 1) + f (n + 1)
    omega
/-- more vectors than there are places depend on one another -/
theorem dep : ∀ (n : Nat) (v : Nat → Nat → Int), ∃ a : Nat → Int, (∃ i, i ≤ n ∧ a i ≠ 0) ∧ ∀ s, s < n → sumR (fun i => a i * v i s) (n + 1) = 0
  | 0, v => ⟨fun _ => 1, ⟨0, Nat.le_refl 0, by decide⟩, fun s h => absurd h (Nat.not_lt_zero _)⟩
  | n + 1, v => by
    by_cases z : ∀ i, i ≤ n + 1 → v i n = 0
    · obtain ⟨a, ⟨i, hi, ai⟩, h⟩ := dep n v
      refine ⟨fun i => if i ≤ n then a i else 0, ⟨i, by omega, by show (if i ≤ n then a i else 0) ≠ 0; rw [if_pos hi]; exact ai⟩, fun s hs => ?_⟩
      show sumR (fun i => (if i ≤ n then a i else 0) * v i s) (n + 1) + (if n + 1 ≤ n then a (n + 1) else 0) * v (n + 1) s = 0
      rw [if_neg (by omega), Int.zero_mul, Int.add_zero]
      rcases Nat.lt_or_ge s n with l | l
      · rw [sumR_congr _ (g := fun i => a i * v i s) fun k hk => by rw [if_pos (by omega)]]
        exact h s l
      · rw [show s = n by omega]
        exact sumR_zero _ fun k hk => by rw [z k (by omega), Int.mul_zero]
    · obtain ⟨j, hj, vj⟩ : ∃ j, j ≤ n + 1 ∧ v j n ≠ 0 := by
        refine Classical.byContradiction fun no => z fun i hi => ?_
        exact Classical.byContradiction fun y => no ⟨i, hi, y⟩
      let e : Nat → Nat := fun i => if i < j then i else i + 1
      obtain ⟨a, ⟨i, hi, ai⟩, h⟩ := dep n fun i s => v j n * v (e i) s - v (e i) n * v j s
      let S : Int := sumR (fun i => a i * v (e i) n) (n + 1)
      let b : Nat → Int := fun k => if k < j then a k * v j n else if k = j then -S else a (k - 1) * v j n
      have be : ∀ i, b (e i) = a i * v j n := fun i => by
        by_cases q : i < j
        · have ei : e i = i := if_pos q
          rw [ei]
          show (if i < j then a i * v j n else if i = j then -S else a (i - 1) * v j n) = _
          rw [if_pos q]
        · have ei : e i = i + 1 := if_neg q
          rw [ei]
          show (if i + 1 < j then a (i + 1) * v j n else if i + 1 = j then -S else a (i + 1 - 1) * v j n) = _
          rw [if_neg (by omega), if_neg (by omega), Nat.add_sub_cancel]
      have bj : b j = -S := by
        show (if j < j then _ else if j = j then -S else _) = _
        rw [if_neg (Nat.lt_irrefl _), if_pos rfl]
      refine ⟨b, ⟨e i, ?_, by rw [be]; exact fun y => by rcases Int.mul_eq_zero.mp y with y | y; exact ai y; exact vj y⟩, fun s hs => ?_⟩
      · show (if i < j then i else i + 1) ≤ n + 1
        split <;> omega
      · have sk := sumR_skip (fun k => b k * v k s) j (n + 1 - j)
        rw [show j + (n + 1 - j) = n + 1 by omega] at sk
        rw [sk, bj]
        have e1 : ∀ k, k < n + 1 → b (if k < j then k else k + 1) * v (if k < j then k else k + 1) s = a k * (v j n * v (e k) s - v (e k) n * v j s) + a k * v (e k) n * v j s := fun k _ => by
          have := be k
          have this : b (if k < j then k else k + 1) = a k * v j n := this
          rw [this]
          show a k * v j n * v (e k) s = _
          rw [Int.mul_sub, ← Int.mul_assoc, ← Int.mul_assoc]
          omega
        rw [sumR_congr _ e1, sumR_add]
        have e2 : sumR (fun k => a k * v (e k) n * v j s) (n + 1) = S * v j s := by
          rw [sumR_congr (n + 1) (g := fun k => v j s * (a k * v (e k) n)) fun k _ => Int.mul_comm _ _, sumR_mul, Int.mul_comm]
        have e3 : sumR (fun k => a k * (v j n * v (e k) s - v (e k) n * v j s)) (n + 1) = 0 := by
          rcases Nat.lt_or_ge s n with l | l
          · exact h s l
          · rw [show s = n by omega]
            exact sumR_zero _ fun k _ => by rw [Int.mul_comm (v j n), Int.sub_self, Int.mul_zero]
        rw [e2, e3, Int.neg_mul]
        omega
theorem cnt_snoc {L : Nat} {p : List Nat → Bool} (n : Nat) : cntP L p (n + 1) = ((List.range L).map fun c => cntP L (fun w => p (w ++ [c])) n).sum := by
  unfold cntP
  show (((wordsN L n).flatMap fun w => (List.range L).map fun c => w ++ [c]).map fun w => b2n (p w)).sum = _
  rw [sum_flat]
  have : ∀ (ws : List (List Nat)) (cs : List Nat), (ws.map fun w => (((cs.map fun c => w ++ [c])).map fun w => b2n (p w)).sum).sum = (cs.map fun c => (ws.map fun w => b2n (p (w ++ [c]))).sum).sum := fun ws cs => by
    induction ws with
    | nil =>
      induction cs with
      | nil => rfl
      | cons c cs ih => rw [List.map_cons, List.sum_cons, ← ih]; rfl
    | cons w ws ih =>
      rw [List.map_cons, List.sum_cons, ih]
      clear ih
      induction cs with
      | nil => rfl
      | cons c cs ih =>
        rw [List.map_cons, List.map_cons, List.sum_cons, List.map_cons, List.sum_cons, List.map_cons, List.sum_cons, List.map_cons, List.sum_cons]
        omega
  exact this _ _
theorem sum_map_congr {f g : Nat → Nat} {cs : List Nat} (h : ∀ c ∈ cs, f c = g c) : (cs.map f).sum = (cs.map g).sum := by rw [List.map_congr_left h]
theorem sum_comm (f : Nat → Nat → Nat) : ∀ (cs ds : List Nat), (cs.map fun c => (ds.map fun d => f c d).sum).sum = (ds.map fun d => (cs.map fun c => f c d).sum).sum
  | [], ds => by
    induction ds with
    | nil => rfl
    | cons d ds ih => rw [List.map_cons, List.sum_cons, ← ih]; rfl
  | c :: cs, ds => by
    rw [List.map_cons, List.sum_cons, sum_comm f cs ds]
    induction ds with
    | nil => rfl
    | cons d ds ih =>
      rw [List.map_cons, List.sum_cons, List.map_cons, List.sum_cons, List.map_cons, List.sum_cons, List.map_cons, List.sum_cons]
      omega
theorem cnt_cons {L : Nat} : ∀ (n : Nat) (p : List Nat → Bool), cntP L p (n + 1) = ((List.range L).map fun c => cntP L (fun w => p (c :: w)) n).sum
  | 0, p => by rw [cnt_snoc]; rfl
  | n + 1, p => by
    rw [cnt_snoc, sum_map_congr (g := fun c => ((List.range L).map fun d => cntP L (fun w => p ((d :: w) ++ [c])) n).sum) fun c _ => cnt_cons n _, sum_comm]
    refine sum_map_congr fun d _ => ?_
    rw [cnt_snoc]
    rfl
theorem cnt_le {L : Nat} (p : List Nat → Bool) : ∀ (n : Nat), cntP L p n ≤ L ^ n := by
  intro n
  induction n generalizing p with
  | zero =>
    show b2n (p []) + 0 ≤ 1
    cases p [] <;> decide
  | succ n ih =>
    rw [cnt_snoc, Nat.pow_succ, Nat.mul_comm]
    have : ∀ cs : List Nat, (cs.map fun c => cntP L (fun w => p (w ++ [c])) n).sum ≤ cs.length * L ^ n := fun cs => by
      induction cs with
      | nil => exact Nat.zero_le _
      | cons c cs ih2 =>
        rw [List.map_cons, List.sum_cons, List.length_cons, Nat.add_mul, Nat.one_mul]
        have := ih fun w => p (w ++ [c])
        omega
    have := this (List.range L)
    rw [List.length_range] at this
    exact this
def optZ (f : Nat → Int) : Option Nat → Int
  | none => 0
  | some t => f t
theorem cnt_from {rs : Rows} {es : List Bool} {L : Nat} (s k : Nat) : ((cntP L (fun w => acc rs es w s) (k + 1) : Nat) : Int) = ((List.range L).map fun c => optZ (fun t => ((cntP L (fun w => acc rs es w t) k : Nat) : Int)) (nx rs s c)).sum := by
  rw [cnt_cons]
  have : ∀ cs : List Nat, (((cs.map fun c => cntP L (fun w => acc rs es (c :: w) s) k).sum : Nat) : Int) = (cs.map fun c => optZ (fun t => ((cntP L (fun w => acc rs es w t) k : Nat) : Int)) (nx rs s c)).sum := fun cs => by
    induction cs with
    | nil => rfl
    | cons c cs ih =>
      rw [List.map_cons, List.sum_cons, List.map_cons, List.sum_cons, Int.natCast_add, ih]
      congr 1
      cases h : nx rs s c with
      | none =>
        show _ = (0 : Int)
        have z : cntP L (fun w => acc rs es (c :: w) s) k = 0 := by
          rcases Nat.eq_zero_or_pos (cntP L (fun w => acc rs es (c :: w) s) k) with y | y
          · exact y
          · obtain ⟨w, _, _, hw⟩ := cnt_pos.mp y
            have hw : acc rs es (c :: w) s = true := hw
            rw [acc_none h] at hw
            cases hw
        rw [z]
        rfl
      | some t =>
        show _ = ((cntP L (fun w => acc rs es w t) k : Nat) : Int)
        congr 2
        funext w
        exact acc_cons h
  exact this _
theorem sum_lin {f : Nat → Nat → Int} {a : Nat → Int} (n : Nat) : ∀ cs : List Nat, sumR (fun i => a i * (cs.map fun c => f i c).sum) n = (cs.map fun c => sumR (fun i => a i * f i c) n).sum
  | [] => sumR_zero n fun k _ => Int.mul_zero _
  | c :: cs => by
    rw [List.map_cons, List.sum_cons, ← sum_lin n cs, ← sumR_add]
    refine sumR_congr n fun i _ => ?_
    rw [List.map_cons, List.sum_cons, Int.mul_add]
theorem counts_rule {rs : Rows} {es : List Bool} {L : Nat} (M : MOk L rs es) : ∃ c r, r ≤ rs.length ∧ Rule (fun k => ((cntP L (fun w => acc rs es w 0) k : Nat) : Int)) c r := by
  obtain ⟨a, ⟨i0, hi0, ai0⟩, h⟩ := dep rs.length fun i s => ((cntP L (fun w => acc rs es w s) i : Nat) : Int)
  have top : ∀ m, m ≤ rs.length → (∃ i, i ≤ m ∧ a i ≠ 0) → ∃ r, r ≤ m ∧ a r ≠ 0 ∧ ∀ i, r < i → i ≤ m → a i = 0 := fun m => by
    induction m with
    | zero =>
      rintro _ ⟨i, hi, ai⟩
      exact ⟨0, Nat.le_refl 0, by rw [show i = 0 by omega] at ai; exact ai, fun j h1 h2 => absurd h1 (by omega)⟩
    | succ m ih =>
      rintro hm ⟨i, hi, ai⟩
      by_cases z : a (m + 1) = 0
      · obtain ⟨r, h1, h2, h3⟩ := ih (by omega) ⟨i, by
          rcases Nat.lt_or_ge m i with l | l
          · rw [show i = m + 1 by omega] at ai
            exact absurd z ai
          · exact l, ai⟩
        exact ⟨r, by omega, h2, fun j j1 j2 => by
          rcases Nat.lt_or_ge m j with l | l
          · rw [show j = m + 1 by omega]
            exact z
          · exact h3 j j1 l⟩
      · exact ⟨m + 1, Nat.le_refl _, z, fun j j1 j2 => by omega⟩
  obtain ⟨r, hr, ar, a0⟩ := top _ (Nat.le_refl _) ⟨i0, hi0, ai0⟩
  have base : ∀ s, s < rs.length → sumR (fun i => a i * ((cntP L (fun w => acc rs es w s) i : Nat) : Int)) (r + 1) = 0 := fun s hs => by
    have := h s hs
    rw [show rs.length + 1 = (r + 1) + (rs.length - r) by omega, sumR_shift, sumR_zero (rs.length - r) fun k hk => by rw [a0 (r + 1 + k) (by omega) (by omega), Int.zero_mul], Int.add_zero] at this
    exact this
  have all : ∀ k s, s < rs.length → sumR (fun i => a i * ((cntP L (fun w => acc rs es w s) (i + k) : Nat) : Int)) (r + 1) = 0 := fun k => by
    induction k with
    | zero => exact base
    | succ k ih =>
      intro s hs
      have e : ∀ i, i < r + 1 → a i * ((cntP L (fun w => acc rs es w s) (i + (k + 1)) : Nat) : Int) = a i * ((List.range L).map fun c => optZ (fun t => ((cntP L (fun w => acc rs es w t) (i + k) : Nat) : Int)) (nx rs s c)).sum := fun i _ => by
        rw [← Nat.add_assoc, cnt_from]
      rw [sumR_congr _ e, sum_lin (f := fun i c => optZ (fun t => ((cntP L (fun w => acc rs es w t) (i + k) : Nat) : Int)) (nx rs s c))]
      have z : ∀ c ∈ List.range L, sumR (fun i => a i * optZ (fun t => ((cntP L (fun w => acc rs es w t) (i + k) : Nat) : Int)) (nx rs s c)) (r + 1) = 0 := fun c _ => by
        cases hn : nx rs s c with
        | none => exact sumR_zero _ fun i _ => Int.mul_zero _
        | some t =>
          have tl : t < rs.length := M.tgt _ (List.getElem_mem hs) t (by
            unfold nx at hn
            rw [getD_at hs, List.getD_eq_getElem?_getD] at hn
            cases q : rs[s][c]? with
            | none => rw [q] at hn; cases hn
            | some o =>
              rw [q] at hn
              have hn : o = some t := hn
              rw [← hn]
              exact List.mem_of_getElem? q)
          exact ih t tl
      rw [List.map_congr_left z]
      have : ∀ cs : List Nat, (cs.map fun _ => (0 : Int)).sum = 0 := fun cs => by
        induction cs with
        | nil => rfl
        | cons c cs ih => rw [List.map_cons, List.sum_cons, ih]; rfl
      exact this _
  refine ⟨fun k => a (r - k), r, hr, ar, fun n hn => ?_⟩
  have := all (n - r) 0 M.l1
  unfold dt
  rw [← this, ← sumR_rev (fun i => a i * ((cntP L (fun w => acc rs es w 0) (i + (n - r)) : Nat) : Int)) r]
  refine sumR_congr _ fun k hk => ?_
  show a (r - k) * _ = a (r - k) * _
  rw [show r - k + (n - r) = n - k by omega]
theorem int_at2 {xs : List Int} {i : Nat} {x : V} (h : (xs.map V.int)[i]? = some x) : ∃ u, xs[i]? = some u ∧ x = .int u := by
  rw [List.getElem?_map] at h
  obtain ⟨u, hu, rfl⟩ := Option.map_eq_some_iff.mp h
  exact ⟨u, hu, rfl⟩
theorem fnL_at {xs : List Int} {i : Nat} {u : Int} (h : xs[i]? = some u) : fnL xs i = u := by
  unfold fnL
  rw [List.getD_eq_getElem?_getD, h]
  rfl
/-- the mended list behind so many parts of the older rule -/
def mendK (r : List Int) (md : Int) (o : List Int) (ms : Int) (gap k : Nat) : List Int := (List.range (max r.length (o.length + gap))).map fun i => md * fnL r i - (if gap ≤ i ∧ i < gap + k then ms * fnL o (i - gap) else 0)
theorem mendK_zero (r : List Int) (md : Int) (o : List Int) (ms : Int) (gap : Nat) : mendK r md o ms gap 0 = (r.map fun x => md * x) ++ List.replicate (o.length + gap - r.length) 0 := by
  refine List.ext_getElem? fun i => ?_
  unfold mendK
  rw [List.getElem?_map]
  rcases Nat.lt_or_ge i (max r.length (o.length + gap)) with l | l
  · rw [List.getElem?_range l]
    show some (md * fnL r i - (if gap ≤ i ∧ i < gap + 0 then ms * fnL o (i - gap) else 0)) = _
    rw [if_neg (by omega), Int.sub_zero]
    rcases Nat.lt_or_ge i r.length with q | q
    · rw [List.getElem?_append_left (by rw [List.length_map]; exact q), List.getElem?_map, List.getElem?_eq_getElem q, fnL_at (List.getElem?_eq_getElem q)]
      rfl
    · rw [List.getElem?_append_right (by rw [List.length_map]; exact q), List.length_map, List.getElem?_replicate, if_pos (by omega), fnL_out q, Int.mul_zero]
  · rw [List.getElem?_eq_none (by rw [List.length_range]; exact l), List.getElem?_eq_none (by rw [List.length_append, List.length_map, List.length_replicate]; omega)]
    rfl
theorem mendK_all (r : List Int) (md : Int) (o : List Int) (ms : Int) (gap : Nat) : mendK r md o ms gap o.length = mendL r md o ms gap := by
  unfold mendK mendL
  refine List.map_congr_left fun i hi => ?_
  have hi := List.mem_range.mp hi
  congr 1
  by_cases z : gap ≤ i
  · rw [if_pos z]
    by_cases y : i < gap + o.length
    · rw [if_pos ⟨z, y⟩]
    · rw [if_neg (fun q => y q.2), fnL_out (by omega), Int.mul_zero]
  · rw [if_neg z, if_neg (fun q => z q.1)]
theorem mendK_at {r : List Int} {md : Int} {o : List Int} {ms : Int} {gap k : Nat} (hk : k < o.length) : (mendK r md o ms gap k)[k + gap]? = some (md * fnL r (k + gap)) := by
  unfold mendK
  rw [List.getElem?_map, List.getElem?_range (by omega)]
  show some (md * fnL r (k + gap) - (if gap ≤ k + gap ∧ k + gap < gap + k then ms * fnL o (k + gap - gap) else 0)) = _
  rw [if_neg (by omega), Int.sub_zero]
theorem mendK_set {r : List Int} {md : Int} {o : List Int} {ms : Int} {gap k : Nat} (hk : k < o.length) : (mendK r md o ms gap k).set (k + gap) (md * fnL r (k + gap) - ms * fnL o k) = mendK r md o ms gap (k + 1) := by
  refine List.ext_getElem? fun i => ?_
  rw [List.getElem?_set]
  unfold mendK
  rw [List.length_map, List.length_range]
  by_cases z : k + gap = i
  · subst z
    rw [if_pos rfl, if_pos (by omega), List.getElem?_map, List.getElem?_range (by omega)]
    show _ = some (md * fnL r (k + gap) - (if gap ≤ k + gap ∧ k + gap < gap + (k + 1) then ms * fnL o (k + gap - gap) else 0))
    rw [if_pos ⟨by omega, by omega⟩, Nat.add_sub_cancel]
  · rw [if_neg z, List.getElem?_map, List.getElem?_map]
    rcases Nat.lt_or_ge i (max r.length (o.length + gap)) with l | l
    · rw [List.getElem?_range l]
      show some (md * fnL r i - (if gap ≤ i ∧ i < gap + k then ms * fnL o (i - gap) else 0)) = some (md * fnL r i - (if gap ≤ i ∧ i < gap + (k + 1) then ms * fnL o (i - gap) else 0))
      by_cases y : gap ≤ i ∧ i < gap + k
      · rw [if_pos y, if_pos ⟨y.1, by omega⟩]
      · rw [if_neg y, if_neg fun q => y ⟨q.1, by omega⟩]
    · rw [List.getElem?_eq_none (by rw [List.length_range]; exact l)]
      rfl
section
variable {P : Program} {w : World} {K : PySem.W.Frag} {mg : Str → Option Value} {base : Heap}
theorem scMend : FnScope ["rule", "missed", "older", "miss", "gap", "mended", "part", "k"] ["rule", "missed", "older", "miss", "gap"] (defScope sMend) := ⟨rfl, rfl, rfl, by decide +kernel, rfl, by decide +kernel, by decide +kernel⟩
def spMend (K : PySem.W.Frag) : Sp := fun vs H Q _ => ∃ (rp op : Addr) (r o : List Int) (md ms : Int) (gap : Nat), vs = [.ref rp, .int md, .ref op, .int ms, .int (gap : Int)] ∧ H rp = some (.lst (r.map V.int)) ∧ H op = some (.lst (o.map V.int)) ∧ r.length ≤ 1000 ∧ o.length ≤ 1000 ∧ gap ≤ 1000 ∧ (∀ x ∈ r, CMulW md x) ∧ (∀ x ∈ o, CMulW ms x) ∧
  ∀ (H' : Hp) (p : Addr), Same H H' → H p = none → H' p = some (.lst ((mendL r md o ms gap).map V.int)) → Q (.ref p) H'
theorem ok_mend {f : Addr} {fd : FuncData} (F : Fun K "mend" "mend" sMend f fd) (T : Mg mg) : FnOk P w K mg base CX0 1 f fd ["rule", "missed", "older", "miss", "gap"] (spMend K) := by
  refine F.ok scMend (fun vs H Q E h => ?_) (fun cdv A outer s H vs Q E hr h => ?_)
  · obtain ⟨rp, op, r, o, md, ms, gap, rfl, _⟩ := h
    rfl
  · obtain ⟨rp, op, r, o, md, ms, gap, rfl, hR, hO, rl, ol, gl, c1, c2, k⟩ := h
    refine ⟨_, (pss_cons (ps_setLc (i := 5) (own := [("part", 6)]) (g := gName 6) (tt := tYes) rfl scMend.nd rfl rfl (sw_true rfl rfl rfl (by decide +kernel)) (pi_list (pv 0)) (blkOk_by (N := ["rule", "missed", "older", "miss", "gap", "mended", "part", "k"]) (sc := defScope sMend) (by decide +kernel)) (fun _ _ _ _ _ => pg_name (i := 6) scMend.nd rfl (Or.inl rfl)) (fun _ _ _ _ _ => pts_nil) (fun _ _ _ _ _ => (pe_op op_mulW (pv 1) (pv 6))))
      (pss_cons (ps_aug (i := 5) scMend.nd rfl (.inl rfl) (pe_op op_rep (pe_lstA (pa_cons pe_int pa_nil)) (pe_op op_sub (pe_op op_add (pe_callB (r := rLen K) call_len_seq (by rfl) T.len PySem.boot_len (pa_cons (pv 2) pa_nil)) (pv 4)) (pe_callB (r := rLen K) call_len_seq (by rfl) T.len PySem.boot_len (pa_cons (pv 0) pa_nil)))) iop_ext)
      (pss_cons (ps_for PassesOwn.never rfl (pi_enum (by rfl) T.enum (pa_cons (pv 2) pa_nil)) (pg_tup rfl (pgs_cons (pg_name (i := 7) scMend.nd rfl (.inl rfl)) (pgs_cons (pg_name (i := 6) scMend.nd rfl (.inl rfl)) pgs_nil))) (pss_one (ps_augS (pv 5) (pe_op op_add (pv 7) (pv 4)) pget_list (pe_op op_mulW (pv 3) (pv 6)) ip_sub set_list)))
      (pss_one (ps_ret (pv 5)))))), ?_⟩
    refine ⟨_, rfl, rp, rfl, ⟨_, SqL.of hR⟩, fun D hD => ?_⟩
    refine lc_list (K := K) (a := rp) (xs := r.map V.int) (NInv (fun x : Int => V.int (md * x)) r H D) (nstart hD) (fun i H' _ p => SqL.of (p.1 _ _ hR)) ?_ ?_
    · rintro i x H1 hx p1
      obtain ⟨u, hu, rfl⟩ := int_at2 hx
      refine ⟨rfl, _, rfl, _, rfl, md, u, rfl, rfl, c1 u (List.mem_of_getElem? hu), ?_⟩
      exact nturn (f := fun x : Int => V.int (md * x)) (small9 (by omega)) hD hu p1 (Same.refl _)
    · rintro H1 p1
      obtain ⟨s1, hl1⟩ := nend (List.length_map _) p1
      have e0 : r.map (fun x : Int => V.int (md * x)) = (r.map fun x => md * x).map V.int := by rw [List.map_map]; rfl
      rw [e0] at hl1
      refine ⟨_, rfl, by show 1 ≤ sizeLine; decide, fun zp H2 s2 z0 nz hz => ?_⟩
      have s12 := s1.trans s2
      have hlD := s2 _ _ hl1
      have hR2 := s12 _ _ hR
      have hO2 := s12 _ _ hO
      have zk : ((o.length : Int) + (gap : Int) - (r.length : Int)).toNat = o.length + gap - r.length := by omega
      refine ⟨_, rfl, op, _, rfl, .inl (SqL.of hO2), _, rfl, _, _, rfl, rfl, _, rfl, rp, _, rfl, .inl (SqL.of hR2), _, _, rfl, rfl, ?_⟩
      rw [List.length_map, List.length_map]
      refine ⟨zp, _, _, rfl, rfl, hz, by omega, by omega, ?_, fun p np => ?_⟩
      · rw [zk]
        show 1 * _ ≤ sizeLine
        rw [Nat.one_mul]
        exact Nat.le_trans (show _ ≤ 1000000 by omega) (by decide)
      rw [zk]
      have s3 := same_new (o := .lst (List.replicate (o.length + gap - r.length) [V.int 0]).flatten) np
      have hp : (upd H2 p (.lst (List.replicate (o.length + gap - r.length) [V.int 0]).flatten)) p = some (.lst ((List.replicate (o.length + gap - r.length) (0 : Int)).map V.int)) := by
        rw [upd_same, List.flatten_replicate_singleton, List.map_replicate]
      have hlD3 := s3 _ _ hlD
      generalize upd H2 p (.lst (List.replicate (o.length + gap - r.length) [V.int 0]).flatten) = G3 at *
      refine ⟨D, p, _, _, rfl, rfl, hlD3, hp, ?_, ?_⟩
      · rw [List.length_map, List.length_map, List.length_map, List.length_replicate]
        exact Nat.le_trans (show _ ≤ 1000000 by omega) (by decide)
      rw [← List.map_append, ← mendK_zero r md o ms gap]
      have sH : Same H (upd G3 D (.lst ((mendK r md o ms gap 0).map V.int))) := fun b u e => by
        rw [upd_ne (ne_of_none e hD)]
        exact s3 _ _ (s12 _ _ e)
      have hD0 : (upd G3 D (.lst ((mendK r md o ms gap 0).map V.int))) D = some (.lst ((mendK r md o ms gap 0).map V.int)) := upd_same
      generalize upd G3 D (.lst ((mendK r md o ms gap 0).map V.int)) = G4 at *
      refine ⟨_, rfl, op, _, rfl, SqL.of (sH _ _ hO), ?_⟩
      refine for_it (walk_enum (K := K) (a := op) (xs := o.map V.int)) (fun j σ H' => (∃ y6 y7 : Option V, σ = [some (.ref rp), some (.int md), some (.ref op), some (.int ms), some (.int (gap : Int)), some (.ref D), y6, y7]) ∧ Same H H' ∧ H' D = some (.lst ((mendK r md o ms gap j).map V.int)))
        ⟨⟨_, _, rfl⟩, sH, hD0⟩ (fun j σ H' _ p => SqL.of (p.2.1 _ _ hO)) ?_ ?_
      · rintro j z σ H5 H6 hj ⟨⟨y6, y7, rfl⟩, sm, hl⟩ ⟨T1, va, vb, rfl, nT, rfl, ea, eb⟩
        cases ea
        obtain ⟨u, hu, rfl⟩ := int_at2 eb
        have jl := (List.getElem?_eq_some_iff.mp hu).1
        have sT := same_new (o := .tup [V.int (j : Nat), V.int u]) nT
        have hl6 := sT _ _ hl
        refine ⟨T1, _, rfl, SqT.of upd_same, rfl, _, _, rfl, _, _, rfl, rfl, ?_⟩
        have sm6 := sm.trans sT
        generalize upd H5 T1 (.tup [V.int (j : Nat), V.int u]) = G6 at *
        have ej : V.int ((j : Int) + (gap : Int)) = V.int ((j + gap : Nat) : Int) := rfl
        have hat := mendK_at (r := r) (md := md) (ms := ms) (gap := gap) jl
        refine ⟨_, rfl, _, rfl, _, rfl, _, _, rfl, rfl, D, _, j + gap, V.int (md * fnL r (j + gap)), rfl, rfl, SqL.of hl6, by rw [List.getElem?_map, hat]; rfl, ?_⟩
        refine ⟨_, rfl, _, rfl, ms, u, rfl, rfl, c2 u (List.mem_of_getElem? hu), _, _, rfl, rfl, ?_⟩
        refine ⟨D, _, ((j + gap : Nat) : Int), j + gap, rfl, rfl, hl6, ?_, ?_⟩
        · have := (List.getElem?_eq_some_iff.mp hat).1
          unfold ixN
          rw [List.length_map, if_pos (by omega), if_pos (by omega), Int.toNat_natCast]
        · have es : ((mendK r md o ms gap j).map V.int).set (j + gap) (V.int (md * fnL r (j + gap) - ms * u)) = (mendK r md o ms gap (j + 1)).map V.int := by
            rw [← List.map_set, ← fnL_at hu, mendK_set jl]
          rw [es]
          refine ⟨⟨_, _, rfl⟩, fun b v e => ?_, upd_same⟩
          rw [upd_ne (ne_of_none e hD)]
          exact sm6 _ _ e
      · rintro σ H5 ⟨⟨y6, y7, rfl⟩, sm, hl⟩
        rw [List.length_map, mendK_all] at hl
        exact ⟨_, rfl, k H5 D sm hD hl⟩
end
section
variable {P : Program} {w : World} {K : PySem.W.Frag} {mg : Str → Option Value} {base : Heap}
theorem scWithout : FnScope ["parts", "divisor", "part"] ["parts"] (defScope sWithout) := ⟨rfl, rfl, rfl, by decide +kernel, rfl, by decide +kernel, by decide +kernel⟩
def spWithout (K : PySem.W.Frag) : Sp := fun vs H Q _ => ∃ (pp : Addr) (xs : List Int), vs = [.ref pp] ∧ H pp = some (.lst (xs.map V.int)) ∧ xs.length ≤ 3000 ∧ gcdL xs ≠ 0 ∧ (gcdL xs).log2 < 9000 ∧
  ∀ (H' : Hp) (p : Addr), Same H H' → H p = none → H' p = some (.lst ((withL xs).map V.int)) → Q (.ref p) H'
theorem ok_without {f : Addr} {fd : FuncData} (F : Fun K "without_factor" "without_factor" sWithout f fd) (T : Mg mg) (mGcd : mg "gcd" = some (.builtin "math.gcd")) : FnOk P w K mg base CX0 1 f fd ["parts"] (spWithout K) := by
  refine F.ok scWithout (fun vs H Q E h => ?_) (fun cdv A outer s H vs Q E hr h => ?_)
  · obtain ⟨pp, xs, rfl, _⟩ := h
    rfl
  · obtain ⟨pp, xs, rfl, hP, xl, g0, g9, k⟩ := h
    refine ⟨_, (pss_cons (ps_set (i := 1) scWithout.nd rfl (.inr rfl) pe_int)
      (pss_cons (ps_for PassesOwn.never rfl (pi_list (pv 0)) (pg_name (i := 2) scWithout.nd rfl (.inl rfl)) (pss_one (ps_set (i := 1) scWithout.nd rfl (.inr rfl) (pe_callBfun (r := rGcd) cr_gcd (by rfl) mGcd (pa_cons (pv 1) (pa_cons (pv 2) pa_nil))))))
      (pss_one (ps_ret (pe_lc (own := [("part", 2)]) (g := gName 2) (tt := tYes) rfl scWithout.nd (pi_list (pv 0)) (blkOk_by (N := ["parts", "divisor", "part"]) (sc := defScope sWithout) (by decide +kernel)) (fun _ _ _ _ _ => pg_name (i := 2) scWithout.nd rfl (Or.inl rfl)) (fun _ _ _ _ _ => pts_nil) (fun _ _ _ _ _ => (pe_op op_fdivW (pv 2) (pv 1)))))))), ?_⟩
    refine ⟨_, rfl, pp, rfl, ⟨_, SqL.of hP⟩, ?_⟩
    refine for_list (K := K) (a := pp) (xs := xs.map V.int) (fun i σ H' => (∃ y2 : Option V, σ = [some (.ref pp), some (.int ((gcdF (xs.take i) 0 : Nat) : Int)), y2]) ∧ H' = H) ⟨⟨_, rfl⟩, rfl⟩ (fun i σ H' _ p => by rw [p.2]; exact SqL.of hP) ?_ ?_
    · rintro i x σ H1 hx ⟨⟨y2, rfl⟩, rfl⟩
      obtain ⟨u, hu, rfl⟩ := int_at2 hx
      have e : gcdF (xs.take (i + 1)) 0 = Nat.gcd (gcdF (xs.take i) 0) u.natAbs := by
        rw [List.take_add_one, hu]
        show gcdF (xs.take i ++ [u]) 0 = _
        unfold gcdF
        rw [List.foldl_append]
        rfl
      have e2 : Nat.gcd ((gcdF (xs.take i) 0 : Nat) : Int).natAbs u.natAbs = gcdF (xs.take (i + 1)) 0 := by rw [e, Int.natAbs_natCast]
      exact ⟨_, rfl, _, rfl, _, _, rfl, ⟨some (V.int u), congrArg (fun z : Nat => [some (V.ref pp), some (V.int (z : Int)), some (V.int u)]) e2⟩, rfl⟩
    · rintro σ H1 ⟨⟨y2, rfl⟩, rfl⟩
      rw [List.length_map, List.take_length]
      refine ⟨_, rfl, pp, rfl, ⟨_, SqL.of hP⟩, fun D hD => ?_⟩
      refine lc_list (K := K) (a := pp) (xs := xs.map V.int) (NInv (fun x : Int => V.int (x / (gcdL xs : Int))) xs H1 D) (nstart hD) (fun i H' _ p => SqL.of (p.1 _ _ hP)) ?_ ?_
      · rintro i x H2 hx p1
        obtain ⟨u, hu, rfl⟩ := int_at2 hx
        have hl := (List.getElem?_eq_some_iff.mp hu).1
        refine ⟨rfl, _, rfl, _, rfl, u, _, rfl, rfl, ⟨?_, ?_⟩, ?_⟩
        · have := Nat.pos_of_ne_zero g0
          show (0 : Int) < ((gcdL xs : Nat) : Int)
          omega
        · show ((gcdL xs : Nat) : Int).natAbs.log2 < 9000
          rw [Int.natAbs_natCast]
          exact g9
        · exact nturn (f := fun x : Int => V.int (x / (gcdL xs : Int))) (small9 (by omega)) hD hu p1 (Same.refl _)
      · rintro H2 p1
        obtain ⟨s1, hl1⟩ := nend (List.length_map _) p1
        have e0 : xs.map (fun x : Int => V.int (x / (gcdL xs : Int))) = (withL xs).map V.int := by
          unfold withL
          rw [List.map_map]
          rfl
        rw [e0] at hl1
        exact k H2 D s1 hD hl1
end
def bP : Nat → Nat × Nat
  | 0 => (1, 1)
  | a + 1 => if a < 10 then ((bP a).1 + (bP a).2 + 20, (bP a).1) else bP a
theorem bP_late : ∀ d, bP (10 + d) = bP 10
  | 0 => rfl
  | d + 1 => by
    show (if 10 + d < 10 then _ else bP (10 + d)) = _
    rw [if_neg (by omega), bP_late d]
theorem bP_small : ∀ a, a ≤ 10 → (bP a).1 ≤ 4000 ∧ (bP a).2 ≤ (bP a).1 := by decide +kernel
theorem bP_le (a : Nat) : (bP a).1 ≤ 4000 ∧ (bP a).2 ≤ (bP a).1 := by
  rcases Nat.le_total a 10 with l | l
  · exact bP_small a l
  · rw [show a = 10 + (a - 10) by omega, bP_late]
    exact bP_small 10 (Nat.le_refl _)
theorem pow_lt_of {x a b : Nat} (h : x < 2 ^ a) (l : a ≤ b) : x < 2 ^ b := Nat.lt_of_lt_of_le h (Nat.pow_le_pow_right (by decide) l)
theorem sumR_bound {f : Nat → Int} {B : Nat} : ∀ (n : Nat), (∀ k, k < n → (f k).natAbs ≤ B) → (sumR f n).natAbs ≤ n * B
  | 0, _ => Nat.zero_le _
  | n + 1, h => by
    show (sumR f n + f n).natAbs ≤ _
    have h1 := sumR_bound n fun k hk => h k (Nat.lt_succ_of_lt hk)
    have h2 := h n (Nat.lt_succ_self n)
    have h3 := Int.natAbs_add_le (sumR f n) (f n)
    rw [Nat.add_mul, Nat.one_mul]
    omega
theorem fnL_bound {r : List Int} {B : Nat} (h : ∀ x ∈ r, x.natAbs < 2 ^ B) (k : Nat) : (fnL r k).natAbs < 2 ^ B := by
  unfold fnL
  rw [List.getD_eq_getElem?_getD]
  cases q : r[k]? with
  | none => exact Nat.two_pow_pos B
  | some x => exact h x (List.mem_of_getElem? q)
structure Bnd (a : Nat) (b : BS) : Prop where
  r : ∀ x ∈ b.r, x.natAbs < 2 ^ (bP a).1
  o : ∀ x ∈ b.o, x.natAbs < 2 ^ (bP a).2
  md : b.md.natAbs < 2 ^ ((bP a).2 + 19)
theorem miss_bound {s : Nat → Int} {a : Nat} {b : BS} (I : BMI s a b) (h : Bnd a b) (sb : ∀ i, i ≤ 9 → (s i).natAbs < 2 ^ 15) (a9 : a < 10) : (bmMiss s a b).natAbs < 2 ^ ((bP a).1 + 19) := by
  have La := I.La
  have : (bmMiss s a b).natAbs ≤ (b.L + 1) * 2 ^ ((bP a).1 + 15) := by
    refine sumR_bound _ fun k hk => Nat.le_of_lt ?_
    rw [Int.natAbs_mul, Nat.pow_add]
    exact Nat.mul_lt_mul'' (fnL_bound h.r k) (sb _ (by omega))
  have e : 2 ^ ((bP a).1 + 19) = 16 * 2 ^ ((bP a).1 + 15) := by
    rw [show (bP a).1 + 19 = 4 + ((bP a).1 + 15) by omega, Nat.pow_add]
  rw [e]
  have p := Nat.two_pow_pos ((bP a).1 + 15)
  have := Nat.mul_le_mul_right (2 ^ ((bP a).1 + 15)) (show b.L + 1 ≤ 15 by omega)
  omega
theorem mend_bound {b : BS} {ms : Int} {p q : Nat} (hr : ∀ x ∈ b.r, x.natAbs < 2 ^ p) (ho : ∀ x ∈ b.o, x.natAbs < 2 ^ q) (hm : b.md.natAbs < 2 ^ (q + 19)) (hs : ms.natAbs < 2 ^ (p + 19)) (k : Nat) : (fnL (mendL b.r b.md b.o ms b.gap) k).natAbs < 2 ^ (p + q + 20) := by
  rw [mend_at]
  have h1 : (b.md * fnL b.r k).natAbs < 2 ^ (p + q + 19) := by
    rw [Int.natAbs_mul, show p + q + 19 = (q + 19) + p by omega, Nat.pow_add]
    exact Nat.mul_lt_mul'' hm (fnL_bound hr k)
  have h2 : (if b.gap ≤ k then ms * fnL b.o (k - b.gap) else 0).natAbs < 2 ^ (p + q + 19) := by
    by_cases z : b.gap ≤ k
    · rw [if_pos z, Int.natAbs_mul, show p + q + 19 = (p + 19) + q by omega, Nat.pow_add]
      exact Nat.mul_lt_mul'' hs (fnL_bound ho _)
    · rw [if_neg z]
      exact Nat.two_pow_pos _
  have h3 := Int.natAbs_sub_le (b.md * fnL b.r k) (if b.gap ≤ k then ms * fnL b.o (k - b.gap) else 0)
  rw [show p + q + 20 = (p + q + 19) + 1 by omega, Nat.pow_succ]
  omega
theorem div_bound (x : Int) (g : Nat) : (x / (g : Int)).natAbs ≤ x.natAbs := by
  have := Int.natAbs_ediv_le_natAbs x (g : Int)
  exact this
theorem with_bound {xs : List Int} {B : Nat} (h : ∀ k, (fnL xs k).natAbs < 2 ^ B) : ∀ x ∈ withL xs, x.natAbs < 2 ^ B := fun x hx => by
  obtain ⟨y, hy, rfl⟩ := List.mem_map.mp hx
  obtain ⟨k, hk⟩ := List.mem_iff_getElem?.mp hy
  have := h k
  rw [show fnL xs k = y by unfold fnL; rw [List.getD_eq_getElem?_getD, hk]; rfl] at this
  exact Nat.lt_of_le_of_lt (div_bound y _) this
theorem pad_bound {xs : List Int} {B n : Nat} (h : ∀ x ∈ xs, x.natAbs < 2 ^ B) : ∀ x ∈ padL xs n, x.natAbs < 2 ^ B := fun x hx => by
  rcases List.mem_append.mp hx with hx | hx
  · exact h x hx
  · rw [(List.mem_replicate.mp hx).2]
    exact Nat.two_pow_pos B
theorem bnd_step {s c : Nat → Int} {a M : Nat} (I : BMI s a (bmRun s a)) (h : Bnd a (bmRun s a)) (sb : ∀ i, i ≤ 9 → (s i).natAbs < 2 ^ 15) (R : Rule s c M) (M5 : M ≤ 5) : Bnd (a + 1) (bmRun s (a + 1)) := by
  show Bnd (a + 1) (bmStep s a (bmRun s a))
  have qp := (bP_le a).2
  rcases Nat.lt_or_ge a 10 with l | l
  · have e1 : (bP (a + 1)).1 = (bP a).1 + (bP a).2 + 20 := by show (if a < 10 then _ else _ : Nat × Nat).1 = _; rw [if_pos l]
    have e2 : (bP (a + 1)).2 = (bP a).1 := by show (if a < 10 then _ else _ : Nat × Nat).2 = _; rw [if_pos l]
    have mb := miss_bound I h sb l
    have rb := pad_bound (n := (bmRun s a).L + 1) (with_bound (mend_bound h.r h.o h.md mb))
    have rb2 := pad_bound (n := a + 1 - (bmRun s a).L + 1) (with_bound (mend_bound h.r h.o h.md mb))
    have w1 : ∀ x ∈ (bmRun s a).r, x.natAbs < 2 ^ (bP (a + 1)).1 := fun x hx => pow_lt_of (h.r x hx) (by rw [e1]; omega)
    have w2 : ∀ x ∈ (bmRun s a).o, x.natAbs < 2 ^ (bP (a + 1)).2 := fun x hx => pow_lt_of (h.o x hx) (by rw [e2]; exact qp)
    have w3 : (bmRun s a).md.natAbs < 2 ^ ((bP (a + 1)).2 + 19) := pow_lt_of h.md (by rw [e2]; omega)
    have w4 : ∀ x ∈ (bmRun s a).r, x.natAbs < 2 ^ (bP (a + 1)).2 := fun x hx => by rw [e2]; exact h.r x hx
    have w5 : (bmMiss s a (bmRun s a)).natAbs < 2 ^ ((bP (a + 1)).2 + 19) := by rw [e2]; exact mb
    unfold bmStep
    by_cases z : bmMiss s a (bmRun s a) = 0
    · rw [if_pos z]
      exact ⟨w1, w2, w3⟩
    · rw [if_neg z]
      by_cases y : 2 * (bmRun s a).L ≤ a
      · rw [if_pos y]
        exact ⟨by rw [e1]; exact rb2, w4, w5⟩
      · rw [if_neg y]
        exact ⟨by rw [e1]; exact rb, w2, w3⟩
  · have e : bP (a + 1) = bP a := by show (if a < 10 then _ else bP a) = _; rw [if_neg (by omega)]
    unfold bmStep
    rw [if_pos (bm_still R (by omega))]
    refine ⟨?_, ?_, ?_⟩
    · rw [e]; exact h.r
    · rw [e]; exact h.o
    · rw [e]; exact h.md
theorem bnd_run {s c : Nat → Int} {M : Nat} (sb : ∀ i, i ≤ 9 → (s i).natAbs < 2 ^ 15) (R : Rule s c M) (M5 : M ≤ 5) : ∀ a, Bnd a (bmRun s a)
  | 0 => ⟨fun x hx => by rw [List.mem_singleton.mp hx]; decide, fun x hx => by rw [List.mem_singleton.mp hx]; decide, by show (1 : Int).natAbs < 2 ^ (1 + 19); decide⟩
  | a + 1 => bnd_step (bm_inv s a) (bnd_run sb R M5 a) sb R M5
/-- what the division by the greatest common factor wants -/
theorem gcd_fine {s : Nat → Int} {a : Nat} {b : BS} (I : BMI s a b) (h : Bnd a b) (sb : ∀ i, i ≤ 9 → (s i).natAbs < 2 ^ 15) (a9 : a < 10) (z : bmMiss s a b ≠ 0) : gcdL (mendL b.r b.md b.o (bmMiss s a b) b.gap) ≠ 0 ∧ (gcdL (mendL b.r b.md b.o (bmMiss s a b) b.gap)).log2 < 9000 := by
  have md0 : b.md ≠ 0 := by
    rcases I.old with ⟨_, _, o3, _⟩ | ⟨_, _, _, _, _, _, _, m6, _⟩
    · rw [o3]; decide
    · exact m6
  have gap1 : 1 ≤ b.gap := by
    rcases I.old with ⟨_, _, _, o4⟩ | ⟨m, Lo, m1, m2, _⟩
    · omega
    · omega
  have n0 : fnL (mendL b.r b.md b.o (bmMiss s a b) b.gap) 0 ≠ 0 := by
    rw [mend_at, if_neg (by omega), Int.sub_zero]
    intro y
    rcases Int.mul_eq_zero.mp y with y | y
    · exact md0 y
    · exact I.r0 y
  have g0 := gcd_ne n0
  have g0 : gcdL (mendL b.r b.md b.o (bmMiss s a b) b.gap) ≠ 0 := fun y => g0 (by rw [y]; rfl)
  refine ⟨g0, ?_⟩
  have mb := mend_bound h.r h.o h.md (miss_bound I h sb a9) 0
  have w := with_at (mendL b.r b.md b.o (bmMiss s a b) b.gap) 0
  have d : gcdL (mendL b.r b.md b.o (bmMiss s a b) b.gap) ∣ (fnL (mendL b.r b.md b.o (bmMiss s a b) b.gap) 0).natAbs := by
    rw [← w, Int.natAbs_mul, Int.natAbs_natCast]
    exact Nat.dvd_mul_right _ _
  have le := Nat.le_of_dvd (Int.natAbs_pos.mpr n0) d
  have p := bP_le a
  have : gcdL (mendL b.r b.md b.o (bmMiss s a b) b.gap) < 2 ^ 9000 := pow_lt_of (Nat.lt_of_le_of_lt le mb) (by omega)
  exact (Nat.log2_lt g0).mpr this
theorem bP_pos : ∀ a, 1 ≤ (bP a).1
  | 0 => Nat.le_refl 1
  | a + 1 => by
    show 1 ≤ (if a < 10 then _ else bP a : Nat × Nat).1
    by_cases h : a < 10
    · rw [if_pos h]
      show 1 ≤ (bP a).1 + (bP a).2 + 20
      omega
    · rw [if_neg h]
      exact bP_pos a
theorem bP_pos2 : ∀ a, 1 ≤ (bP a).2
  | 0 => Nat.le_refl 1
  | a + 1 => by
    show 1 ≤ (if a < 10 then _ else bP a : Nat × Nat).2
    by_cases h : a < 10
    · rw [if_pos h]
      exact bP_pos a
    · rw [if_neg h]
      exact bP_pos2 a
theorem sum_range (f : Nat → Int) : ∀ n, ((List.range n).map f).sum = sumR f n
  | 0 => rfl
  | n + 1 => by
    rw [List.range_succ, List.map_append, List.sum_append, sum_range f n]
    show sumR f n + (f n + 0) = sumR f n + f n
    omega
theorem op_fdivX {X : Cx} : OpR X (binaryOp .FloorDiv) (rI (fun _ j => j ≠ 0 ∧ j.natAbs.log2 < 9000) fun i j => .int (i.fdiv j)) := L2.opI fun _ _ _ _ _ _ _ hc q => floordiv_int hc.1 q (.inl (PyProof.noPylong_of_log2 hc.2))
section
variable {P : Program} {w : World} {K : PySem.W.Frag} {mg : Str → Option Value} {base : Heap}
theorem scShort : FnScope ["numbers", "rule", "length", "older", "missed", "gap", "at", "miss", "k", "mended"] ["numbers"] (defScope sShort) := ⟨rfl, rfl, rfl, by decide +kernel, rfl, by decide +kernel, by decide +kernel⟩
def spShort (K : PySem.W.Frag) : Sp := fun vs H Q _ => ∃ (np : Addr) (N M : Nat) (s c : Nat → Int), vs = [.ref np] ∧ H np = some (.lst ((List.range N).map fun k => V.int (s k))) ∧ N ≤ 800 ∧ (∀ i, i ≤ 9 → (s i).natAbs < 2 ^ 15) ∧ (∀ i, i < N → (s i).natAbs < 2 ^ 10000) ∧ Rule s c M ∧ M ≤ 5 ∧
  ∀ (H' : Hp) (p : Addr), Same H H' → H p = none → H' p = some (.tup ((bmOut (bmRun s N)).map V.int)) → Q (.ref p) H'
theorem ok_short {f fMD fWF : Addr} {fd fdMD fdWF : FuncData} (F : Fun K "shortest_rule" "shortest_rule" sShort f fd)
    (MD : FnOk P w K mg base CX0 1 fMD fdMD ["rule", "missed", "older", "miss", "gap"] (spMend K)) (FMD : Fun K "mend" "mend" sMend fMD fdMD) (bMD : Binds K fdMD ["rule", "missed", "older", "miss", "gap"] []) (gMD : mg "mend" = some (.ref fMD))
    (WF : FnOk P w K mg base CX0 1 fWF fdWF ["parts"] (spWithout K)) (FWF : Fun K "without_factor" "without_factor" sWithout fWF fdWF) (bWF : Binds K fdWF ["parts"] []) (gWF : mg "without_factor" = some (.ref fWF)) (T : Mg mg) (mSum : mg "sum" = none) : FnOk P w K mg base CX0 2 f fd ["numbers"] (spShort K) := by
  refine F.ok scShort (fun vs H Q E h => ?_) (fun cdv A outer s H vs Q E hr h => ?_)
  · obtain ⟨np, N, M, s, c, rfl, _⟩ := h
    rfl
  · obtain ⟨np, N, M, sq, c, rfl, hN, n8, sb, sB, R, M5, k⟩ := h
    refine ⟨_, (pss_cons (ps_asg (pe_tup (pa_cons (pe_lstA (pa_cons pe_int pa_nil)) (pa_cons pe_int pa_nil))) (pg_tup rfl (pgs_cons (pg_name (i := 1) scShort.nd rfl (.inr rfl)) (pgs_cons (pg_name (i := 2) scShort.nd rfl (.inl rfl)) pgs_nil))))
      (pss_cons (ps_par3 (i := 3) (j := 4) (l := 5) rfl scShort.nd rfl rfl rfl (by decide) (by decide) (by decide) rfl rfl rfl (pa_cons (pe_lstA (pa_cons pe_int pa_nil)) (pa_cons pe_int (pa_cons pe_int pa_nil))) (by rfl))
      (pss_cons (ps_for PassesOwn.never rfl (pi_range1 (by rfl) T.range (pa_cons (pe_callB (r := rLen K) call_len_seq (by rfl) T.len PySem.boot_len (pa_cons (pv 0) pa_nil)) pa_nil)) (pg_name (i := 6) scShort.nd rfl (.inr rfl)) (pss_cons (ps_set (i := 7) scShort.nd rfl (.inl rfl) (pe_callB (r := rSum K) (cr_sum rfl) (by rfl) mSum (by decide +kernel) (pa_cons (pe_lc (own := [("k", 8)]) (g := gName 8) (tt := tYes) rfl scShort.nd (pi_range1 (by rfl) T.range (pa_cons (pe_op op_add (pv 2) pe_int) pa_nil)) (blkOk_by (N := ["numbers", "rule", "length", "older", "missed", "gap", "at", "miss", "k", "mended"]) (sc := defScope sShort) (by decide +kernel)) (fun _ _ _ _ _ => pg_name (i := 8) scShort.nd rfl (Or.inl rfl)) (fun _ _ _ _ _ => pts_nil) (fun _ _ _ _ _ => (pe_op op_mulW (pe_ix (r := rIxL K) ix_list (pv 1) (pv 8) (fun _ _ => rfl)) (pe_ix (r := rIxL K) ix_list (pv 0) (pe_op op_sub (pv 6) (pv 8)) (fun _ _ => rfl))))) pa_nil)))
      (pss_cons (ps_if (pt_cmpR op_eq (pv 7) pe_int (nomark _)) (pss_cons (ps_aug (i := 5) scShort.nd rfl (.inl rfl) pe_int ip_add)
      (pss_one ps_continue)) pss_nil)
      (pss_cons (ps_set (i := 9) scShort.nd rfl (.inl rfl) (pe_call WF (hr.mono (by decide)) (by rfl) gWF FWF.kp bWF .nil pass0 (pa_cons (pe_call MD (hr.mono (by decide)) (by rfl) gMD FMD.kp bMD .nil pass0 (pa_cons (pv 1) (pa_cons (pv 4) (pa_cons (pv 3) (pa_cons (pv 7) (pa_cons (pv 5) pa_nil)))))) pa_nil)))
      (pss_cons (ps_if (pt_cmpR op_le (pe_op op_mul pe_int (pv 2)) (pv 6) (nomark _)) (pss_cons (ps_par3 (i := 3) (j := 4) (l := 5) rfl scShort.nd rfl rfl rfl (by decide) (by decide) (by decide) rfl rfl rfl (pa_cons (pv 1) (pa_cons (pv 7) (pa_cons pe_int pa_nil))) (by rfl))
      (pss_one (ps_set (i := 2) scShort.nd rfl (.inl rfl) (pe_op op_sub (pe_op op_add (pv 6) pe_int) (pv 2))))) (pss_one (ps_aug (i := 5) scShort.nd rfl (.inl rfl) pe_int ip_add)))
      (pss_one (ps_set (i := 1) scShort.nd rfl (.inr rfl) (pe_op op_catA (pv 9) (pe_op op_rep (pe_lstA (pa_cons pe_int pa_nil)) (pe_op op_sub (pe_op op_add (pv 2) pe_int) (pe_callB (r := rLen K) call_len_seq (by rfl) T.len PySem.boot_len (pa_cons (pv 9) pa_nil))))))))))))
      (pss_one (ps_ret (pe_callTy (r := rTup K) call_tuple_of (by rfl) T.tuple PyProof.Rows.boot_tuple (pa_cons (pe_lc (own := [("k", 8)]) (g := gName 8) (tt := tYes) rfl scShort.nd (pi_range2 (by rfl) T.range (pa_cons pe_int (pa_cons (pe_op op_add (pv 2) pe_int) pa_nil))) (blkOk_by (N := ["numbers", "rule", "length", "older", "missed", "gap", "at", "miss", "k", "mended"]) (sc := defScope sShort) (by decide +kernel)) (fun _ _ _ _ _ => pg_name (i := 8) scShort.nd rfl (Or.inl rfl)) (fun _ _ _ _ _ => pts_nil) (fun _ _ _ _ _ => (pe_op op_fdivX (pe_un un_neg (pe_ix (r := rIxL K) ix_list (pv 1) (pv 8) (fun _ _ => rfl))) (pe_ix (r := rIxL K) ix_list (pv 1) pe_int (fun _ _ => rfl))))) pa_nil))))))), ?_⟩
    refine ⟨by show 1 ≤ sizeLine; decide, fun rp H1 s1 rp0 nrp hrp => ?_⟩
    refine ⟨by show 2 ≤ sizeLine; decide, fun t0 nt0 => ?_⟩
    have st := same_new (o := .tup [.ref rp, .int 0]) nt0
    have hrp := st _ _ hrp
    refine ⟨t0, _, rfl, SqT.of upd_same, rfl, _, _, rfl, _, _, rfl, rfl, ?_⟩
    have s1 := s1.trans st
    generalize upd H1 t0 (.tup [.ref rp, .int 0]) = G1 at *
    refine ⟨by show 1 ≤ sizeLine; decide, fun op H2 s2 op0 nop hop => ?_⟩
    have hrp := s2 _ _ hrp
    have s12 := s1.trans s2
    refine ⟨_, _, _, rfl, ?_⟩
    refine ⟨_, rfl, np, _, rfl, .inl (SqL.of (s12 _ _ hN)), ?_⟩
    rw [List.length_map, List.length_range]
    refine ⟨(N : Int), rfl, by omega, by omega, ?_⟩
    refine for_range (lo := 0) (n := (N : Int).toNat) (fun a σ H' => (∃ (rp op : Addr) (y6 y7 y8 y9 : Option V), σ = [some (.ref np), some (.ref rp), some (.int ((bmRun sq a).L : Int)), some (.ref op), some (.int (bmRun sq a).md), some (.int ((bmRun sq a).gap : Int)), y6, y7, y8, y9] ∧ H' rp = some (.lst ((bmRun sq a).r.map V.int)) ∧ H' op = some (.lst ((bmRun sq a).o.map V.int))) ∧ Same H H')
      ⟨⟨rp, op, _, _, _, _, rfl, hrp, hop⟩, s12⟩ ?_ ?_
    · rintro a σ H3 ha ⟨⟨rp, op, y6, y7, y8, y9, rfl, hrp, hop⟩, sm⟩
      have aN : a < N := by omega
      have I := bm_inv sq a
      have B := bnd_run sb R M5 a
      have still := bm_still (a := a) R
      have en : bmRun sq (a + 1) = bmStep sq a (bmRun sq a) := rfl
      generalize hb : bmRun sq a = b at *
      have rl := I.rl
      have La := I.La
      have pl := bP_le a
      rw [Int.zero_add]
      refine ⟨_, rfl, _, _, rfl, rfl, _, rfl, by omega, by omega, fun D hD => ?_⟩
      refine lc_range (lo := 0) (n := ((b.L : Int) + 1).toNat) (NInv (fun k : Nat => V.int (fnL b.r k * sq (a - k))) (List.range (b.L + 1)) H3 D) (nstart hD) ?_ ?_
      · rintro j H4 hj p4
        have hj : j < b.L + 1 := by omega
        rw [Int.zero_add]
        have hr4 := p4.1 _ _ hrp
        have hn4 := p4.1 _ _ (sm _ _ hN)
        have rj : b.r[j]? = some (fnL b.r j) := by
          rw [List.getElem?_eq_getElem (by omega), fnL_at (List.getElem?_eq_getElem (by omega))]
        refine ⟨rfl, _, rfl, _, rfl, rp, _, (j : Int), V.int (fnL b.r j), rfl, rfl, SqL.of hr4, atI_nat (by rw [List.getElem?_map, rj]; rfl), ?_⟩
        refine ⟨_, rfl, _, rfl, _, rfl, _, _, rfl, rfl, np, _, ((a - j : Nat) : Int), V.int (sq (a - j)), rfl, congrArg V.int (by omega), SqL.of hn4, atI_nat (by rw [List.getElem?_map, List.getElem?_range (by omega)]; rfl), ?_⟩
        refine ⟨_, _, rfl, rfl, wide_mul (fnL_bound B.r j) (pow_lt_of (sB (a - j) (by omega)) (Nat.le_refl _)) (Nat.lt_of_lt_of_le Nat.zero_lt_one (bP_pos a)) (by decide) (by omega), ?_⟩
        exact nturn (f := fun k : Nat => V.int (fnL b.r k * sq (a - k))) (small9 (by rw [List.length_range]; omega)) hD (List.getElem?_range hj) p4 (Same.refl _)
      · rintro H4 p4
        obtain ⟨s4, hl4⟩ := nend (by rw [List.length_range]; omega) p4
        have e0 : (List.range (b.L + 1)).map (fun k : Nat => V.int (fnL b.r k * sq (a - k))) = ((List.range (b.L + 1)).map fun k => fnL b.r k * sq (a - k)).map V.int := by rw [List.map_map]; rfl
        rw [e0] at hl4
        refine ⟨D, _, rfl, SqL.of hl4, ?_⟩
        have em : ((List.range (b.L + 1)).map fun k => fnL b.r k * sq (a - k)).sum = bmMiss sq a b := sum_range _ _
        rw [em]
        have hrp4 := s4 _ _ hrp
        have hop4 := s4 _ _ hop
        have sm4 := sm.trans s4
        generalize hms : bmMiss sq a b = ms at *
        refine ⟨_, rfl, rfl, _, rfl, ite2 (fun z => ?_) (fun z => ?_)⟩
        · have z : ms = 0 := V.int.inj (of_decide_eq_true z)
          have e2 : bmRun sq (a + 1) = ⟨b.r, b.o, b.L, b.md, b.gap + 1⟩ := by
            rw [en]
            unfold bmStep
            rw [hms, if_pos z]
          rw [e2]
          refine ⟨_, rfl, _, _, rfl, rfl, ?_⟩
          exact ⟨⟨rp, op, _, _, _, _, rfl, hrp4, hop4⟩, sm4⟩
        · have z : ms ≠ 0 := fun y => z (decide_eq_true (by rw [y]))
          have a10 : a < 10 := by
            rcases Nat.lt_or_ge a 10 with l | l
            · exact l
            · exact absurd (still (by omega)) z
          have mb := miss_bound I B sb a10
          rw [hms] at mb
          obtain ⟨g0, g9⟩ := gcd_fine I B sb a10 (by rw [hms]; exact z)
          rw [hms] at g0 g9
          have olen : b.o.length + b.gap ≤ 100 := by
            rcases I.old with ⟨o1, o2, o3, o4⟩ | ⟨m, Lo, m1, m2, m3, m4, m5, _⟩
            · rw [o2, o4]
              show 1 + (a + 1) ≤ 100
              omega
            · omega
          have ml := mend_len b ms
          refine ⟨_, rfl, _, rfl, _, rfl, _, rfl, _, rfl, rp, op, b.r, b.o, b.md, ms, b.gap, rfl, hrp4, hop4, by omega, by omega, by omega, fun x hx => ?_, fun x hx => ?_, fun H5 p5 s5 p50 hp5 => ?_⟩
          · exact wide_mul B.md (B.r x hx) (by omega) (Nat.lt_of_lt_of_le Nat.zero_lt_one (bP_pos a)) (by omega)
          · exact wide_mul mb (B.o x hx) (by omega) (Nat.lt_of_lt_of_le Nat.zero_lt_one (bP_pos2 a)) (by omega)
          refine ⟨p5, _, rfl, hp5, ?_, g0, g9, fun H6 p6 s6 p60 hp6 => ?_⟩
          · unfold mendL
            rw [List.length_map, List.length_range]
            omega
          have hp6 : H6 p6 = some (.lst ((bmMend b ms).map V.int)) := hp6
          have s46 := s5.trans s6
          have hrp6 := s46 _ _ hrp4
          have hop6 := s46 _ _ hop4
          have sm6 := sm4.trans s46
          refine ⟨_, rfl, _, _, rfl, rfl, .inl ⟨by decide, by decide⟩, _, rfl, _, _, rfl, rfl, _, rfl, ite2 (fun y => ?_) (fun y => ?_)⟩
          · have y : 2 * b.L ≤ a := by
              have := of_decide_eq_true y
              omega
            have e2 : bmRun sq (a + 1) = ⟨padL (bmMend b ms) (a + 1 - b.L + 1), b.r, a + 1 - b.L, ms, 1⟩ := by
              rw [en]
              unfold bmStep
              rw [hms, if_neg z, if_pos y]
            rw [e2]
            refine ⟨_, rfl, _, rfl, _, _, _, rfl, ?_⟩
            refine ⟨_, rfl, _, _, rfl, rfl, _, rfl, _, _, rfl, rfl, ?_⟩
            dsimp only
            rw [show (a : Int) + 1 - (b.L : Int) = ((a + 1 - b.L : Nat) : Int) by omega]
            refine ⟨_, rfl, by show 1 ≤ sizeLine; decide, fun zp H7 s7 z0 nz hz => ?_⟩
            have hp7 := s7 _ _ hp6
            refine ⟨_, rfl, _, _, rfl, rfl, _, rfl, p6, _, rfl, .inl (SqL.of hp7), _, _, rfl, rfl, ?_⟩
            rw [List.length_map]
            have zk : ((((a + 1 - b.L) : Nat) : Int) + 1 - ((bmMend b ms).length : Int)).toNat = (a + 1 - b.L) + 1 - (bmMend b ms).length := by omega
            refine ⟨zp, _, _, rfl, rfl, hz, by omega, by omega, ?_, fun q nq => ?_⟩
            · rw [zk]
              show 1 * _ ≤ sizeLine
              rw [Nat.one_mul]
              exact Nat.le_trans (show _ ≤ 1000000 by omega) (by decide)
            rw [zk]
            have s8 := same_new (o := .lst (List.replicate ((a + 1 - b.L) + 1 - (bmMend b ms).length) [V.int 0]).flatten) nq
            have hq : (upd H7 q (.lst (List.replicate ((a + 1 - b.L) + 1 - (bmMend b ms).length) [V.int 0]).flatten)) q = some (.lst ((List.replicate ((a + 1 - b.L) + 1 - (bmMend b ms).length) (0 : Int)).map V.int)) := by
              rw [upd_same, List.flatten_replicate_singleton, List.map_replicate]
            have hp8 := s8 _ _ hp7
            generalize upd H7 q (.lst (List.replicate ((a + 1 - b.L) + 1 - (bmMend b ms).length) [V.int 0]).flatten) = G8 at *
            refine ⟨p6, q, _, _, rfl, rfl, hp8, hq, ?_, fun r9 H9 s9 r90 hr9 => ?_⟩
            · rw [List.length_map, List.length_map, List.length_replicate]
              exact Nat.le_trans (show _ ≤ 1000000 by omega) (by decide)
            have s69 := s7.trans (s8.trans s9)
            rw [← List.map_append] at hr9
            exact ⟨⟨r9, rp, _, _, _, _, rfl, hr9, s69 _ _ hrp6⟩, sm6.trans s69⟩
          · have y : ¬ 2 * b.L ≤ a := fun q => y (decide_eq_true (by omega))
            have e2 : bmRun sq (a + 1) = ⟨padL (bmMend b ms) (b.L + 1), b.o, b.L, b.md, b.gap + 1⟩ := by
              rw [en]
              unfold bmStep
              rw [hms, if_neg z, if_neg y]
            rw [e2]
            refine ⟨_, rfl, _, _, rfl, rfl, ?_⟩
            refine ⟨_, rfl, by show 1 ≤ sizeLine; decide, fun zp H7 s7 z0 nz hz => ?_⟩
            have hp7 := s7 _ _ hp6
            refine ⟨_, rfl, _, _, rfl, rfl, _, rfl, p6, _, rfl, .inl (SqL.of hp7), _, _, rfl, rfl, ?_⟩
            rw [List.length_map]
            have zk : (((b.L : Nat) : Int) + 1 - ((bmMend b ms).length : Int)).toNat = b.L + 1 - (bmMend b ms).length := by omega
            refine ⟨zp, _, _, rfl, rfl, hz, by omega, by omega, ?_, fun q nq => ?_⟩
            · rw [zk]
              show 1 * _ ≤ sizeLine
              rw [Nat.one_mul]
              exact Nat.le_trans (show _ ≤ 1000000 by omega) (by decide)
            rw [zk]
            have s8 := same_new (o := .lst (List.replicate (b.L + 1 - (bmMend b ms).length) [V.int 0]).flatten) nq
            have hq : (upd H7 q (.lst (List.replicate (b.L + 1 - (bmMend b ms).length) [V.int 0]).flatten)) q = some (.lst ((List.replicate (b.L + 1 - (bmMend b ms).length) (0 : Int)).map V.int)) := by
              rw [upd_same, List.flatten_replicate_singleton, List.map_replicate]
            have hp8 := s8 _ _ hp7
            generalize upd H7 q (.lst (List.replicate (b.L + 1 - (bmMend b ms).length) [V.int 0]).flatten) = G8 at *
            refine ⟨p6, q, _, _, rfl, rfl, hp8, hq, ?_, fun r9 H9 s9 r90 hr9 => ?_⟩
            · rw [List.length_map, List.length_map, List.length_replicate]
              exact Nat.le_trans (show _ ≤ 1000000 by omega) (by decide)
            have s69 := s7.trans (s8.trans s9)
            rw [← List.map_append] at hr9
            exact ⟨⟨r9, op, _, _, _, _, rfl, hr9, s69 _ _ hop6⟩, sm6.trans s69⟩
    · rintro σ H3 ⟨⟨rp, op, y6, y7, y8, y9, rfl, hrp, hop⟩, sm⟩
      rw [Int.toNat_natCast] at hrp hop ⊢
      have I := bm_inv sq N
      have B := bnd_run sb R M5 N
      generalize hb : bmRun sq N = b at *
      have rl := I.rl
      have La := I.La
      have pl := bP_le N
      refine ⟨_, rfl, _, _, rfl, rfl, 1, _, rfl, by omega, fun D hD => ?_⟩
      rw [show ((b.L : Int) + 1 - 1).toNat = b.L by omega]
      refine lc_range (lo := 1) (n := b.L) (NInv (fun k : Nat => V.int (Int.fdiv (-(fnL b.r (k + 1))) (fnL b.r 0))) (List.range b.L) H3 D) (nstart hD) ?_ ?_
      · rintro j H4 hj p4
        have hr4 := p4.1 _ _ hrp
        have rj : ∀ i, i < b.L + 1 → b.r[i]? = some (fnL b.r i) := fun i hi => by
          rw [List.getElem?_eq_getElem (by omega), fnL_at (List.getElem?_eq_getElem (by omega))]
        have l0 : (fnL b.r 0).natAbs.log2 < 9000 := by
          have h1 := fnL_bound B.r 0
          have h2 := Int.natAbs_pos.mpr I.r0
          exact (Nat.log2_lt (by omega)).mpr (pow_lt_of h1 (by omega))
        refine ⟨rfl, _, rfl, _, rfl, rp, _, ((j + 1 : Nat) : Int), V.int (fnL b.r (j + 1)), rfl, congrArg V.int (by omega), SqL.of hr4, atI_nat (by rw [List.getElem?_map, rj (j + 1) (by omega)]; rfl), _, rfl, _, rfl, rp, _, 0, V.int (fnL b.r 0), rfl, rfl, SqL.of hr4, atI_nat (j := 0) (by rw [List.getElem?_map, rj 0 (by omega)]; rfl), _, _, rfl, rfl, ⟨I.r0, l0⟩, ?_⟩
        exact nturn (f := fun k : Nat => V.int (Int.fdiv (-(fnL b.r (k + 1))) (fnL b.r 0))) (small9 (by rw [List.length_range]; omega)) hD (List.getElem?_range hj) p4 (Same.refl _)
      · rintro H4 p4
        obtain ⟨s4, hl4⟩ := nend (by rw [List.length_range]) p4
        have e0 : (List.range b.L).map (fun k : Nat => V.int (Int.fdiv (-(fnL b.r (k + 1))) (fnL b.r 0))) = (bmOut b).map V.int := by
          unfold bmOut
          rw [List.map_map]
          rfl
        rw [e0] at hl4
        have sm4 := sm.trans s4
        exact ⟨D, _, rfl, .inl ⟨SqL.of hl4, fun l nl => k _ l (sm4.trans (same_new nl)) (sfree sm4 nl) upd_same⟩⟩
end
section
variable {P : Program} {w : World} {K : PySem.W.Frag} {mg : Str → Option Value} {base : Heap}
theorem scGoesOn : FnScope ["machine"] ["machine"] (defScope sGoesOn) := ⟨rfl, rfl, rfl, by decide +kernel, rfl, by decide +kernel, by decide +kernel⟩
def spGoesOn (K : PySem.W.Frag) : Sp := fun vs H Q _ => ∃ (L M : Nat) (rs : Rows) (es : List Bool) (x : V) (B : Addr → Prop) (c : Nat → Int), vs = [x] ∧ Dt B K H x (machDt L rs es) ∧ MOk L rs es ∧ Rule (fun k => ((cntP L (fun w => acc rs es w 0) k : Nat) : Int)) c M ∧ M ≤ 5 ∧
  ∀ (H' : Hp) (p : Addr), Same H H' → H p = none → H' p = some (.tup ((bmOut (bmRun (fun k => ((cntP L (fun w => acc rs es w 0) k : Nat) : Int)) (2 * rs.length))).map V.int)) → Q (.ref p) H'
theorem ok_goesOn {f fCN fSR : Addr} {fd fdCN fdSR : FuncData} (F : Fun K "goes_on" "goes_on" sGoesOn f fd)
    (CN : FnOk P w K mg base CX0 2 fCN fdCN ["machine", "many"] (spCounts K)) (FCN : Fun K "counts" "counts" sCounts fCN fdCN) (bCN : Binds K fdCN ["machine", "many"] []) (gCN : mg "counts" = some (.ref fCN))
    (SR : FnOk P w K mg base CX0 2 fSR fdSR ["numbers"] (spShort K)) (FSR : Fun K "shortest_rule" "shortest_rule" sShort fSR fdSR) (bSR : Binds K fdSR ["numbers"] []) (gSR : mg "shortest_rule" = some (.ref fSR)) (T : Mg mg) : FnOk P w K mg base CX0 3 f fd ["machine"] (spGoesOn K) := by
  refine F.ok scGoesOn (fun vs H Q E h => ?_) (fun cdv A outer s H vs Q E hr h => ?_)
  · obtain ⟨L, M, rs, es, x, B, c, rfl, _⟩ := h
    rfl
  · obtain ⟨L, M, rs, es, x, B, c, rfl, hx, Mk, R, M5, k⟩ := h
    refine ⟨_, (pss_one (ps_ret (pe_call SR (hr.mono (by decide)) (by rfl) gSR FSR.kp bSR .nil pass0 (pa_cons (pe_call CN (hr.mono (by decide)) (by rfl) gCN FCN.kp bCN .nil pass0 (pa_cons (pv 0) (pa_cons (pe_op op_mul pe_int (pe_callB (r := rLen K) call_len_seq (by rfl) T.len PySem.boot_len (pa_cons (pe_ix (r := rIxT K) ix_tup (pv 0) pe_int (fun _ _ => rfl)) pa_nil))) pa_nil))) pa_nil)))), ?_⟩
    obtain ⟨m, pr, pe, rvs, rfl, _, MM⟩ := dt_mach hx
    have l4 := Mk.l400
    have L3 := Mk.L3
    have bd : ∀ i, cntP L (fun w => acc rs es w 0) i < 2 ^ (2 * i + 1) := fun i => by
      have h1 := cnt_le (L := L) (fun w => acc rs es w 0) i
      have h2 : L ^ i ≤ 4 ^ i := Nat.pow_le_pow_left (by omega) i
      have h3 : 4 ^ i = 2 ^ (2 * i) := by rw [show (4 : Nat) = 2 ^ 2 from rfl, ← Nat.pow_mul]
      have h4 := Nat.two_pow_pos (2 * i)
      rw [Nat.pow_succ]
      omega
    have b9 : ∀ i, i ≤ 9 → cntP L (fun w => acc rs es w 0) i < 2 ^ 15 := fun i hi => by
      have h1 := cnt_le (L := L) (fun w => acc rs es w 0) i
      have h2 : L ^ i ≤ 3 ^ i := Nat.pow_le_pow_left L3 i
      have h3 : 3 ^ i ≤ 3 ^ 9 := Nat.pow_le_pow_right (by decide) hi
      exact Nat.lt_of_le_of_lt (Nat.le_trans h1 (Nat.le_trans h2 h3)) (by decide)
    refine ⟨_, rfl, _, rfl, m, _, 1, .ref pr, rfl, rfl, .inl MM.hm, atI_nat (j := 1) rfl, pr, rvs, rfl, .inr (.inl MM.hr), _, _, rfl, rfl, .inl ⟨by decide, by decide⟩, ?_⟩
    rw [MM.hl]
    refine ⟨L, 2 * rs.length, rs, es, .ref m, B, rfl, hx, Mk, by omega, fun H1 p s1 p0 pN hp => ?_⟩
    refine ⟨p, 2 * rs.length, M, _, c, rfl, hp, by omega, fun i hi => ?_, fun i hi => ?_, R, M5, fun H2 q s2 q0 hq => k H2 q (s1.trans s2) (sfree s1 q0) hq⟩
    · rw [Int.natAbs_natCast]
      exact b9 i hi
    · rw [Int.natAbs_natCast]
      exact pow_lt_of (bd i) (by omega)
end
def tCallG (sp : Sp) (n : Nat) (t : TA) : TE := fun σ H Q => t σ H fun vs H1 => vs.length = n ∧ sp vs H1 Q E0
section
variable {X : Cx} {k : Nat} {f : Addr} {fd : FuncData} {sp : Sp} {x : Str} {p pos : Pos} {e : Expr} {es : List Expr} {t : TA} {ps : List Str}
/-- f(e, ..), where nothing is being shown -/
theorem pe_callG (F : GRun X.prog X.w X.K X.mg X.base k f fd ps sp) (hG : X.A.guards = some []) (hr : Room k X.A) (hg : Gl X x) (hm : X.mg x = some (.ref f)) (hk : PySem.W.keepIn X.K (.ref f) = true) (hb : Binds X.K fd ps [])
    (ha : PA X (e :: es) t) (hdb : (x == ("__debug__" : Str)) = false := by decide) (he : starEach (e :: es) X.env = (false, eval e X.env) :: starEach es X.env := by rfl) (hpl : (backTo pos (starEach es X.env)).any (·.1) = false := by rfl) :
    PE X (.Call (.Name x p) (e :: es) [] pos) (tCallG sp ps.length t) := by
  refine ⟨fun pins s σ H Q I h => ?_⟩
  refine wpAny_Call_Name_kw (ld_glob I hg hm ?_ hdb)
  refine PySem.W.callWith_K (h₀ := X.base) I.ok.mod.kin hk (thn (ha.run pos pins s σ H _ I h) fun us s1 ⟨vs, H1, I1, r, hl, q⟩ => ⟨I1.kIn, ?_⟩) he hpl
  have bd := hb s1 us I1.kIn (by rw [List.append_nil, ← r.length]; exact hl)
  rw [List.append_nil] at bd
  refine wpAny_call (codeAny_mono (F X.A X.stack s1 H1 us vs Q hG hr I1.env0 bd r hl q) fun r s' hq => ?_)
  cases r with
  | error e => exact hq.elim
  | ok fl =>
    cases fl with
    | ret u => exact I1.after hq
    | next => exact False.elim hq
    | brk => exact False.elim hq
    | cont => exact False.elim hq
end
theorem rows_of {L : Nat} {m : Int} : ∀ {rs : List PyData}, (∀ r ∈ rs, RowD (L : Int) m r) → ∃ rows : Rows, rs = rows.map rowDt ∧ ∀ row ∈ rows, row.length = L ∧ ∀ v, some v ∈ row → (v : Int) < m
  | [], _ => ⟨[], rfl, fun _ h => absurd h List.not_mem_nil⟩
  | r :: rs, h => by
    obtain ⟨rows, e, h1⟩ := rows_of (rs := rs) fun r' hr => h r' (List.mem_cons_of_mem _ hr)
    obtain ⟨is, e2, h2, h3⟩ := h r List.mem_cons_self
    have : ∀ {is : List PyData}, (∀ i ∈ is, Ri m i) → ∃ row : List (Option Nat), is = row.map oD ∧ ∀ v, some v ∈ row → (v : Int) < m := by
      intro is
      induction is with
      | nil => intro _; exact ⟨[], rfl, fun _ h => absurd h List.not_mem_nil⟩
      | cons i is ih =>
        intro hi
        obtain ⟨row, e, hv⟩ := ih fun j hj => hi j (List.mem_cons_of_mem _ hj)
        rcases hi i List.mem_cons_self with rfl | ⟨k, rfl, k0, k1⟩
        · exact ⟨none :: row, by rw [e]; rfl, fun v hm => by
            rcases List.mem_cons.mp hm with hm | hm
            · cases hm
            · exact hv v hm⟩
        · refine ⟨some k.toNat :: row, by rw [e, List.map_cons]; show _ = PyData.int (k.toNat : Int) :: _; rw [Int.toNat_of_nonneg k0], fun v hm => ?_⟩
          rcases List.mem_cons.mp hm with hm | hm
          · cases hm
            omega
          · exact hv v hm
    obtain ⟨row, e3, hv⟩ := this h3
    refine ⟨row :: rows, by rw [e, e2, e3]; rfl, fun row' hr => ?_⟩
    rcases List.mem_cons.mp hr with hr | hr
    · rw [hr]
      refine ⟨?_, hv⟩
      rw [e3, List.length_map] at h2
      omega
    · exact h1 row' hr
theorem ends_of : ∀ {es : List PyData}, (∀ e ∈ es, isBool e = true) → ∃ bs : List Bool, es = bs.map .bool
  | [], _ => ⟨[], rfl⟩
  | e :: es, h => by
    obtain ⟨bs, e1⟩ := ends_of fun e' he => h e' (List.mem_cons_of_mem _ he)
    have := h e List.mem_cons_self
    cases e with
    | bool b => exact ⟨b :: bs, by rw [e1]; rfl⟩
    | _ => cases this
theorem mach_of {K : PySem.W.Frag} {a c : Addr} {H : Hp} {v : V} {L : Nat} {M : Int} {rs es : List PyData} (h : MachD K a c H v (L : Int) M rs es) (L1 : 1 ≤ L) (L3 : L ≤ 3) (hM : M ≤ 400) :
    ∃ (rows : Rows) (bs : List Bool), Dt (Bd a c) K H v (machDt L rows bs) ∧ MOk L rows bs ∧ (rows.length : Int) ≤ M := by
  obtain ⟨h1, h2, h3, h4, h5, h6⟩ := h
  obtain ⟨rows, rfl, h7⟩ := rows_of h5
  obtain ⟨bs, rfl⟩ := ends_of h6
  rw [List.length_map] at h2 h3 h4
  rw [List.length_map] at h4
  refine ⟨rows, bs, h1, ⟨h2, by omega, fun row hr => (h7 row hr).1, fun row hr v hv => ?_, h4, L1, L3⟩, h3⟩
  have := (h7 row hr).2 v hv
  rw [List.length_map] at this
  omega
theorem layAll {α : Type} {f : α → PyData} (h : ∀ x, PyData.canLay0 (f x) = true) : ∀ xs : List α, PyData.canLayAll0 (xs.map f) = true
  | [] => by rw [List.map_nil, PyData.canLayAll0]
  | x :: xs => by rw [List.map_cons, PyData.canLayAll0, h, layAll h xs]; rfl
def spMetO : Sp := fun vs H Q _ => ∃ (L : Nat) (rs : Rows) (es : List Bool) (m pr pe : Addr) (rvs : List V), vs = [.ref pr] ∧ MOk L rs es ∧ MA H L rs es m pr pe rvs ∧
  ∀ (H' : Hp) (p : Addr) (ord : List Nat), Same H H' → H p = none → H' p = some (.lst (ord.map natV)) → IsOrd rs ord → Q (.ref p) H'
theorem notIn_nat {ord : List Nat} {v : Nat} : inV (.int (v : Int)) (ord.map natV) = decide (v ∈ ord) := by
  unfold inV
  rw [Bool.eq_iff_iff, List.any_eq_true, decide_eq_true_iff]
  constructor
  · rintro ⟨y, hy, e⟩
    obtain ⟨u, hu, rfl⟩ := List.mem_map.mp hy
    have e : ((u : Int) == (v : Int)) = true := e
    have := eq_of_beq e
    rw [show v = u by omega]
    exact hu
  · intro h
    exact ⟨natV v, List.mem_map_of_mem h, by show ((v : Int) == (v : Int)) = true; exact beq_self_eq_true _⟩
theorem flat_nat {ord : List Nat} : (ord.map natV).all flatV = true := by
  rw [List.all_map, List.all_eq_true]
  exact fun _ _ => rfl
section
variable {P : Program} {w : World} {K : PySem.W.Frag} {mg : Str → Option Value} {base : Heap}
theorem scMet : FnScope ["_law_rows", "_law_found", "_law_at", "_law_item"] ["_law_rows"] (defScope sMet) := ⟨rfl, rfl, rfl, by decide +kernel, rfl, by decide +kernel, by decide +kernel⟩
theorem ok_met {f : Addr} {fd : FuncData} (F : Fun K "_law_met" "_law_met" sMet f fd) (T : Mg mg) : FnOk P w K mg base CX0 1 f fd ["_law_rows"] spMetO := by
  refine F.ok scMet (fun vs H Q E h => ?_) (fun cdv A outer s H vs Q E hr h => ?_)
  · obtain ⟨L, rs, es, m, pr, pe, rvs, rfl, _⟩ := h
    rfl
  · obtain ⟨L, rs, es, m, pr, pe, rvs, rfl, M, MM, k⟩ := h
    refine ⟨_, pss_cons (ps_par (i := 1) (j := 2) rfl scMet.nd rfl rfl (by decide) rfl rfl (pa_cons (pe_lst (pa_cons pe_int pa_nil)) (pa_cons pe_int pa_nil)) (by rfl))
      (pss_cons (ps_while PassesOwn.never (pt_cmpR op_lt (pv 2) (pe_callB (r := rLen K) call_len_seq (by rfl) T.len PySem.boot_len (pa_cons (pv 1) pa_nil)) (nomark _))
        (pss_cons (ps_for PassesOwn.never rfl (pi_tup (pe_ix (r := rIxT K) ix_tup (pv 0) (pe_ix ix_list (pv 1) (pv 2) (fun _ _ => rfl)) (fun _ _ => rfl))) (pg_name (i := 3) scMet.nd rfl (.inl rfl))
          (pss_one (ps_if (PW.pt (pw_and (pt_cmp (pc_notN (pv 3))) (pw_and1 (pt_cmpR op_notIn_seq (pv 3) (pv 1) rfl))))
            (pss_one (ps_expr (pe_bm PySem.F.plainAttrs_list PySem.F.slot_list_append PySem.F.type_list_append mt_append (pv 1) (pa_cons (pv 3) pa_nil))))
            pss_nil)))
        (pss_one (ps_set (i := 2) scMet.nd rfl (.inl rfl) (pe_op op_add (pv 2) pe_int)))))
      (pss_one (ps_ret (pv 1)))), ?_⟩
    refine ⟨by show 1 ≤ sizeLine; decide, fun o ho => ?_⟩
    have s1 := same_new (o := .lst [.int 0]) ho
    have l4 := M.l400
    refine ⟨_, _, rfl, ?_⟩
    refine while_by (fun σ H' => ∃ (i : Nat) (ord : List Nat) (y3 : Option V), σ = [some (.ref pr), some (.ref o), some (.int (i : Int)), y3] ∧ Same H H' ∧ H' o = some (.lst (ord.map natV)) ∧ ROrd rs i ord)
      (fun (σ : List (Option V)) (_ : Hp) => match σ[2]? with
        | some (some (V.int i)) => 401 - i.toNat
        | _ => 0) ⟨0, [0], none, rfl, s1, upd_same, rord0⟩ ?_ ?_
    · rintro σ H1 ⟨i, ord, y3, rfl, sm, h1, R⟩
      have hol := R.len M.g
      refine ⟨_, rfl, _, rfl, o, _, rfl, .inl (SqL.of h1), _, _, rfl, rfl, _, rfl, ite2 (fun hlt => ?_) fun hlt => ?_⟩
      · have hlt := of_decide_eq_true hlt
        rw [List.length_map] at hlt
        have hi : i < ord.length := by omega
        have hu : ord[i]? = some ord[i] := List.getElem?_eq_getElem hi
        have hmu := List.getElem_mem hi
        generalize ord[i] = u at *
        have hun := M.reach_lt u (R.rch u hmu)
        have hrow : rs[u]? = some rs[u] := List.getElem?_eq_getElem hun
        have hmr := List.getElem_mem hun
        generalize rs[u] = row at *
        have MM1 := MM.same sm
        obtain ⟨q, hq1, hq2⟩ := MM1.row u row hrow
        refine ⟨_, rfl, _, rfl, _, rfl, o, _, (i : Int), _, rfl, rfl, SqL.of h1, atI_nat (natV_get hu), pr, rvs, (u : Int), _, rfl, rfl, .inl MM1.hr, atI_nat hq1, q, rfl, ⟨_, .inl hq2⟩, ?_⟩
        refine for_tup (K := K) (a := q) (xs := row.map oV) (fun j σ H' => (∃ y3, σ = [some (.ref pr), some (.ref o), some (.int (i : Int)), y3]) ∧ Same H H' ∧ (∀ {a : Addr} {xs : List V}, Rd H1 a (.tup xs) → Rd H' a (.tup xs)) ∧ ∃ ord', H' o = some (.lst (ord'.map natV)) ∧ ROrd rs i ord' ∧ ord'[i]? = some u ∧ ∀ k, k < j → ∀ v, row[k]? = some (some v) → v ∈ ord')
          ⟨⟨_, rfl⟩, sm, fun h => h, ord, h1, R, hu, fun k hk => absurd hk (Nat.not_lt_zero _)⟩ (fun j σ H' _ p => .inl (p.2.2.1 hq2)) ?_ ?_
        · rintro j x σ H2 hx ⟨⟨y5, rfl⟩, sm2, rdk, ord', g1, R', hu', hall⟩
          rw [List.getElem?_map] at hx
          obtain ⟨tg, hj, rfl⟩ := Option.map_eq_some_iff.mp hx
          refine ⟨_, rfl, _, rfl, ?_⟩
          cases tg with
          | none =>
            refine ⟨⟨_, rfl⟩, sm2, rdk, ord', g1, R', hu', fun k hk v hv => ?_⟩
            by_cases e : k = j
            · rw [e, hj] at hv
              cases hv
            · exact hall k (by omega) v hv
          | some v =>
            have hrv : Reach rs v := .s (R'.rch u (List.mem_of_getElem? hu')) hrow hj
            refine ⟨_, rfl, _, rfl, o, _, rfl, .inl (SqL.of g1), rfl, flat_nat, _, rfl, ?_⟩
            have enot : inV (oV (some v)) (ord'.map natV) = decide (v ∈ ord') := notIn_nat
            rw [enot]
            by_cases hin : v ∈ ord'
            · rw [decide_eq_true hin]
              refine ⟨⟨_, rfl⟩, sm2, rdk, ord', g1, R', hu', fun k hk w hw => ?_⟩
              by_cases e : k = j
              · rw [e, hj] at hw
                cases hw
                exact hin
              · exact hall k (by omega) w hw
            · rw [decide_eq_false hin]
              have hol2 := (R'.push hin hrv).len M.g
              rw [List.length_append, List.length_singleton] at hol2
              refine ⟨_, rfl, .inl ⟨rfl, _, SqL.of g1⟩, _, rfl, o, _, _, rfl, rfl, g1, small1000 (by rw [List.length_map]; omega), ?_⟩
              refine ⟨⟨_, rfl⟩, fun b z e => ?_, fun {a} {xs} h => ?_, ord' ++ [v], by rw [upd_same, List.map_append]; rfl, R'.push hin hrv, ?_, fun k hk w hw => ?_⟩
              · rw [upd_ne (ne_of_none e ho)]
                exact sm2 b z e
              · have h' := rdk h
                have na : a ≠ o := fun z => by
                  rw [z] at h'
                  rcases h' with h' | ⟨_, h'⟩ <;> (rw [g1] at h'; cases h')
                rcases h' with h' | ⟨ob, h'⟩
                · exact .inl (by rw [upd_ne na]; exact h')
                · exact .inr ⟨ob, by rw [upd_ne na]; exact h'⟩
              · rw [List.getElem?_append_left (List.getElem?_eq_some_iff.mp hu').1]
                exact hu'
              · by_cases e : k = j
                · rw [e, hj] at hw
                  cases hw
                  exact List.mem_append_right _ (List.mem_singleton.mpr rfl)
                · exact List.mem_append_left _ (hall k (by omega) w hw)
        · rintro σ H2 ⟨⟨y5, rfl⟩, sm2, rdk, ord', g1, R', hu', hall⟩
          have R'' := R'.next hu' hrow (fun v hv => by
            obtain ⟨k, hk⟩ := List.getElem?_of_mem hv
            exact hall k (by rw [List.length_map]; exact (List.getElem?_eq_some_iff.mp hk).1) v hk)
          have hl2 := R''.len M.g
          have hle := R''.le
          refine ⟨_, rfl, _, _, rfl, rfl, ⟨i + 1, ord', _, rfl, sm2, g1, R''⟩, ?_⟩
          show 401 - ((i : Int) + 1).toNat < 401 - (i : Int).toNat
          omega
      · refine ⟨_, rfl, k H1 o ord sm ho h1 (R.isOrd M.g ?_)⟩
        have h9 : ¬ ((i : Int) < ((ord.map natV).length : Int)) := fun z => hlt (decide_eq_true z)
        rw [List.length_map] at h9
        omega
    · rintro σ H1 Q1 Q2 hQ ⟨x, e1, y, e2, p, ys, e3, e4, i, j, e5, e6, b, e7, q⟩
      exact ⟨x, e1, y, e2, p, ys, e3, e4, i, j, e5, e6, b, e7, hQ _ _ q⟩
end
def lrow (i : Nat) : PyData := rowDt [some (i + 1)]
def LInv (K : PySem.W.Frag) (H : Hp) (D : Addr) (j : Nat) (H' : Hp) : Prop := Same H H' ∧ ∃ acc, H' D = some (.lst acc) ∧ acc.length = j ∧ ∀ B : Addr → Prop, TB B H → DtAll (fun b => B b ∨ b = D) K H' acc ((List.range j).map lrow)
theorem dt_lst {B : Addr → Prop} {K : PySem.W.Frag} {H H' : Hp} {D : Addr} {xs : List V} (nD : H D = none) (h1 : H' D = some (.lst xs)) (o : HO) : ∀ {ds : List PyData} {vs : List V}, DtAll (fun b => B b ∨ b = D) K H' vs ds → DtAll (fun b => B b ∨ b = D) K (upd H' D o) vs ds := by
  intro ds vs h
  have kp : Keep (fun b => B b ∨ b = D) H' (upd H' D o) := fun b u nb e => by
    rw [upd_ne (fun z => nb (.inr z))]
    exact e
  exact DtAll.keep kp _ _ h
section
variable {P : Program} {w : World} {K : PySem.W.Frag} {mg : Str → Option Value} {base : Heap}
theorem scLong : FnScope ["_law_many", "_law_is_ring", "_law_rows", "_law_state"] ["_law_many", "_law_is_ring"] (defScope sLong) := ⟨rfl, rfl, rfl, by decide +kernel, rfl, by decide +kernel, by decide +kernel⟩
def spLong (K : PySem.W.Frag) : Sp := fun vs H Q _ => ∃ (n : Nat) (ring : Bool), vs = [.int (n : Int), .bl ring] ∧ 2 ≤ n ∧ n ≤ 400 ∧
  ∀ H' v, Same H H' → (∀ B, TB B H → Dt B K H' v (machDt 1 (rsLong n ring) (esLong n))) → Q v H'
theorem ok_long {f : Addr} {fd : FuncData} (F : Fun K "_law_long" "_law_long" sLong f fd) (T : Mg mg) : FnOk P w K mg base CX0 1 f fd ["_law_many", "_law_is_ring"] (spLong K) := by
  refine F.ok scLong (fun vs H Q E h => ?_) (fun cdv A outer s H vs Q E hr h => ?_)
  · obtain ⟨n, ring, rfl, _⟩ := h
    rfl
  · obtain ⟨n, ring, rfl, n2, n4, k⟩ := h
    refine ⟨_, pss_cons (ps_set (i := 2) scLong.nd rfl (.inl rfl) (pe_op op_cat (pe_lc (own := [("_law_state", 3)]) (g := gName 3) (tt := tYes) rfl scLong.nd (pi_range1 (by rfl) T.range (pa_cons (pe_op op_sub (pv 0) pe_int) pa_nil)) (blkOk_by (N := ["_law_many", "_law_is_ring", "_law_rows", "_law_state"]) (sc := defScope sLong) (by decide +kernel)) (fun _ _ _ _ _ => pg_name (i := 3) scLong.nd rfl (Or.inl rfl)) (fun _ _ _ _ _ => pts_nil) (fun _ _ _ _ _ => pe_tup (pa_cons (pe_op op_add (pv 3) pe_int) pa_nil)))
        (pe_lst (pa_cons (pe_tup (pa_cons (pe_ifExp (pt_val (pv 1)) pe_int pe_non) pa_nil)) pa_nil))))
      (pss_one (ps_ret (pe_tup (pa_cons pe_int (pa_cons (pe_callTy (r := rTup K) call_tuple_of (by rfl) T.tuple PyProof.Rows.boot_tuple (pa_cons (pv 2) pa_nil)) (pa_cons (pe_op op_catS (pe_op op_repS (pe_tup (pa_cons pe_bl pa_nil)) (pe_op op_sub (pv 0) pe_int)) (pe_tup (pa_cons pe_bl pa_nil))) pa_nil)))))), ?_⟩
    refine ⟨_, rfl, _, _, rfl, rfl, ((n : Int) - 1), rfl, by omega, by omega, fun D nD => ?_⟩
    refine lc_range (lo := 0) (n := ((n : Int) - 1).toNat) (LInv K H D) ⟨same_new nD, [], upd_same, rfl, fun B tb => .nil⟩ ?_ ?_
    · rintro j H1 hj ⟨sm, acc, hD1, hl, hB⟩
      refine ⟨rfl, _, rfl, _, _, rfl, rfl, by show 1 ≤ sizeLine; decide, fun t nt => ?_⟩
      have st := same_new (o := .tup [.int (0 + (j : Int) + 1)]) nt
      refine ⟨acc, st _ _ hD1, small1000 (by omega), fun b u e => ?_, acc ++ [.ref t], upd_same, by rw [List.length_append, hl]; rfl, fun B tb => ?_⟩
      · rw [upd_ne (ne_of_none e nD)]
        exact st _ _ (sm _ _ e)
      · have ntD : t ≠ D := fun z => by
          rw [← z] at hD1
          rw [nt] at hD1
          cases hD1
        refine dt_lst nD (st _ _ hD1) _ ?_
        rw [List.range_succ, List.map_append]
        have tb2 : TB (fun b => B b ∨ b = D) H1 := fun b z e => by
          rcases z with z | z
          · exact tb_same sm tb b z e
          · rw [z, hD1] at e
            cases e
        refine (same_all st (hB B tb)).append (.cons (.tup (tb_off tb2 nt) (.inl upd_same) ?_) .nil)
        · show DtAll _ K _ [V.int (0 + (j : Int) + 1)] [PyData.int ((j + 1 : Nat) : Int)]
          rw [show (0 + (j : Int) + 1) = ((j + 1 : Nat) : Int) by omega]
          exact .cons (.int _) .nil
    · rintro H1 ⟨sm, acc, hD1, hl, hB⟩
      cases ring with
      | true =>
        refine ⟨_, rfl, true, rfl, by show 1 ≤ sizeLine; decide, fun t nt => ?_⟩
        have st := same_new (o := .tup [.int 0]) nt
        refine ⟨by show 1 ≤ sizeLine; decide, fun l nl => ?_⟩
        have sl := same_new (o := .lst [.ref t]) nl
        have hlen : acc.length + 1 ≤ sizeLine := sz_of (by rw [hl]; omega)
        refine ⟨D, l, acc, [.ref t], rfl, rfl, sl _ _ (st _ _ hD1), upd_same, hlen, fun p np => ?_⟩
        have sp := same_new (o := .lst (acc ++ [.ref t])) np
        refine ⟨_, rfl, p, _, rfl, .inl ⟨SqL.of upd_same, fun tr ntr => ?_⟩⟩
        have str := same_new (o := .tup (acc ++ [.ref t])) ntr
        have s5 := (sm.trans st).trans ((sl.trans sp).trans str)
        have h5t : Rd (upd (upd (upd (upd H1 t (.tup [.int 0])) l (.lst [.ref t])) p (.lst (acc ++ [.ref t]))) tr (.tup (acc ++ [.ref t]))) t (.tup [.int 0]) := same_rd ((sl.trans sp).trans str) (.inl upd_same)
        have s15 := st.trans ((sl.trans sp).trans str)
        have h5r : Rd (upd (upd (upd (upd H1 t (.tup [.int 0])) l (.lst [.ref t])) p (.lst (acc ++ [.ref t]))) tr (.tup (acc ++ [.ref t]))) tr (.tup (acc ++ [.ref t])) := .inl upd_same
        have n5t : ∀ {B : Addr → Prop}, TB B H → ¬ B t := fun tb => tb_off (tb_same sm tb) nt
        have n5r : ∀ {B : Addr → Prop}, TB B H → ¬ B tr := fun tb => tb_off (tb_same (sm.trans (st.trans (sl.trans sp))) tb) ntr
        generalize upd (upd (upd (upd H1 t (.tup [.int 0])) l (.lst [.ref t])) p (.lst (acc ++ [.ref t]))) tr (.tup (acc ++ [.ref t])) = G5 at *
        refine ⟨by show 1 ≤ sizeLine; decide, fun f1 nf1 => ?_⟩
        have s6 := same_new (o := .tup [.bl false]) nf1
        refine ⟨_, rfl, _, _, rfl, rfl, f1, (n : Int) - 1, _, rfl, rfl, .inl upd_same, List.cons_ne_nil _ _, by omega, by omega, by show 1 ≤ 1000; decide, fun q H7 s7 hq wq => ?_⟩
        rw [show (List.replicate ((n : Int) - 1).toNat [V.bl false]).flatten = (List.replicate (n - 1) false).map V.bl by rw [show ((n : Int) - 1).toNat = n - 1 by omega]; simp] at hq
        refine ⟨by show 1 ≤ sizeLine; decide, fun u nu => ?_⟩
        have s8 := same_new (o := .tup [.bl true]) nu
        refine ⟨q, u, _, _, rfl, rfl, same_rd s8 hq, .inl upd_same, sz_of (by rw [List.length_map, List.length_replicate, List.length_singleton]; omega), fun q2 H9 s9 hq2 w2 => ?_⟩
        refine ⟨by show 3 ≤ sizeLine; decide, fun z nz => ?_⟩
        have sz := same_new (o := .tup [.int 1, .ref tr, .ref q2]) nz
        have s59 := (s6.trans s7).trans ((s8.trans s9).trans sz)
        refine k _ (.ref z) (s5.trans s59) fun B tb => ?_
        have tb5 := tb_same s5 tb
        have tb6 := tb_same s6 tb5
        have tb7 := tb_same s7 tb6
        have nq := nb_of tb6 (tb_off tb5 nf1) wq
        have nq2 := nb_of2 (tb_same s8 tb7) nq (tb_off tb7 nu) w2
        have nz' := tb_off (tb_same (s8.trans s9) tb7) nz
        have hA := (hB B tb).weak (B' := B) (fun b hb => .inl hb)
        have er : (rsLong n true).map rowDt = (List.range (n - 1)).map lrow ++ [rowDt [some 0]] := by
          unfold rsLong
          rw [List.map_append, List.map_map]
          rfl
        rw [show ((n : Int) - 1).toNat = n - 1 by omega] at hA
        refine .tup nz' (.inl upd_same) (.cons (.int _) (.cons (.tup (n5r tb) (same_rd s59 h5r) ?_) (.cons (.tup nq2 (same_rd sz hq2) ?_) .nil)))
        · rw [er]
          exact (same_all (s15.trans s59) hA).append (.cons (.tup (n5t tb) (same_rd s59 h5t) (.cons (.int _) .nil)) .nil)
        · have := dt_cs (B := B) (K := K) (H := upd H9 z (.tup [.int 1, .ref tr, .ref q2])) (fun x => Dt.bl x) (esLong n)
          unfold esLong at this ⊢
          rw [List.map_append] at this
          exact this
      | false =>
        refine ⟨_, rfl, false, rfl, by show 1 ≤ sizeLine; decide, fun t nt => ?_⟩
        have st := same_new (o := .tup [.non]) nt
        refine ⟨by show 1 ≤ sizeLine; decide, fun l nl => ?_⟩
        have sl := same_new (o := .lst [.ref t]) nl
        have hlen : acc.length + 1 ≤ sizeLine := sz_of (by rw [hl]; omega)
        refine ⟨D, l, acc, [.ref t], rfl, rfl, sl _ _ (st _ _ hD1), upd_same, hlen, fun p np => ?_⟩
        have sp := same_new (o := .lst (acc ++ [.ref t])) np
        refine ⟨_, rfl, p, _, rfl, .inl ⟨SqL.of upd_same, fun tr ntr => ?_⟩⟩
        have str := same_new (o := .tup (acc ++ [.ref t])) ntr
        have s5 := (sm.trans st).trans ((sl.trans sp).trans str)
        have h5t : Rd (upd (upd (upd (upd H1 t (.tup [.non])) l (.lst [.ref t])) p (.lst (acc ++ [.ref t]))) tr (.tup (acc ++ [.ref t]))) t (.tup [.non]) := same_rd ((sl.trans sp).trans str) (.inl upd_same)
        have s15 := st.trans ((sl.trans sp).trans str)
        have h5r : Rd (upd (upd (upd (upd H1 t (.tup [.non])) l (.lst [.ref t])) p (.lst (acc ++ [.ref t]))) tr (.tup (acc ++ [.ref t]))) tr (.tup (acc ++ [.ref t])) := .inl upd_same
        have n5t : ∀ {B : Addr → Prop}, TB B H → ¬ B t := fun tb => tb_off (tb_same sm tb) nt
        have n5r : ∀ {B : Addr → Prop}, TB B H → ¬ B tr := fun tb => tb_off (tb_same (sm.trans (st.trans (sl.trans sp))) tb) ntr
        generalize upd (upd (upd (upd H1 t (.tup [.non])) l (.lst [.ref t])) p (.lst (acc ++ [.ref t]))) tr (.tup (acc ++ [.ref t])) = G5 at *
        refine ⟨by show 1 ≤ sizeLine; decide, fun f1 nf1 => ?_⟩
        have s6 := same_new (o := .tup [.bl false]) nf1
        refine ⟨_, rfl, _, _, rfl, rfl, f1, (n : Int) - 1, _, rfl, rfl, .inl upd_same, List.cons_ne_nil _ _, by omega, by omega, by show 1 ≤ 1000; decide, fun q H7 s7 hq wq => ?_⟩
        rw [show (List.replicate ((n : Int) - 1).toNat [V.bl false]).flatten = (List.replicate (n - 1) false).map V.bl by rw [show ((n : Int) - 1).toNat = n - 1 by omega]; simp] at hq
        refine ⟨by show 1 ≤ sizeLine; decide, fun u nu => ?_⟩
        have s8 := same_new (o := .tup [.bl true]) nu
        refine ⟨q, u, _, _, rfl, rfl, same_rd s8 hq, .inl upd_same, sz_of (by rw [List.length_map, List.length_replicate, List.length_singleton]; omega), fun q2 H9 s9 hq2 w2 => ?_⟩
        refine ⟨by show 3 ≤ sizeLine; decide, fun z nz => ?_⟩
        have sz := same_new (o := .tup [.int 1, .ref tr, .ref q2]) nz
        have s59 := (s6.trans s7).trans ((s8.trans s9).trans sz)
        refine k _ (.ref z) (s5.trans s59) fun B tb => ?_
        have tb5 := tb_same s5 tb
        have tb6 := tb_same s6 tb5
        have tb7 := tb_same s7 tb6
        have nq := nb_of tb6 (tb_off tb5 nf1) wq
        have nq2 := nb_of2 (tb_same s8 tb7) nq (tb_off tb7 nu) w2
        have nz' := tb_off (tb_same (s8.trans s9) tb7) nz
        have hA := (hB B tb).weak (B' := B) (fun b hb => .inl hb)
        have er : (rsLong n false).map rowDt = (List.range (n - 1)).map lrow ++ [rowDt [none]] := by
          unfold rsLong
          rw [List.map_append, List.map_map]
          rfl
        rw [show ((n : Int) - 1).toNat = n - 1 by omega] at hA
        refine .tup nz' (.inl upd_same) (.cons (.int _) (.cons (.tup (n5r tb) (same_rd s59 h5r) ?_) (.cons (.tup nq2 (same_rd sz hq2) ?_) .nil)))
        · rw [er]
          exact (same_all (s15.trans s59) hA).append (.cons (.tup (n5t tb) (same_rd s59 h5t) (.cons .non .nil)) .nil)
        · have := dt_cs (B := B) (K := K) (H := upd H9 z (.tup [.int 1, .ref tr, .ref q2])) (fun x => Dt.bl x) (esLong n)
          unfold esLong at this ⊢
          rw [List.map_append] at this
          exact this
end
theorem nx_row {rs : Rws} {s c : Nat} {row : List (Option Nat)} {x : Option Nat} (h : rs[s]? = some row) (h2 : row[c]? = some x) : nx rs s c = x := by
  unfold nx
  rw [List.getD_eq_getElem?_getD, List.getD_eq_getElem?_getD, h]
  show (row[c]?).getD none = x
  rw [h2]
  rfl
section
variable {P : Program} {w : World} {K : PySem.W.Frag} {mg : Str → Option Value} {base : Heap}
theorem scOpen : FnScope ["_law_rows", "_law_ends", "_law_found", "_law_many", "_law_state", "_law_back", "_law_item"] ["_law_rows", "_law_ends"] (defScope sOpen) := ⟨rfl, rfl, rfl, by decide +kernel, rfl, by decide +kernel, by decide +kernel⟩
def spOpen : Sp := fun vs H Q _ => ∃ (L : Nat) (rs : Rows) (es : List Bool) (m pr pe : Addr) (rvs : List V), vs = [.ref pr, .ref pe] ∧ MOk L rs es ∧ MA H L rs es m pr pe rvs ∧
  ∀ (H' : Hp) (d : Addr) (ks : List Nat), Same H H' → H d = none → H' d = some (.dK (opK ks)) → (∀ s, s ∈ ks ↔ (s < rs.length ∧ Live rs es s)) → Q (.ref d) H'
theorem ok_open {f : Addr} {fd : FuncData} (F : Fun K "_law_open" "_law_open" sOpen f fd) (T : Mg mg) : FnOk P w K mg base CX0 1 f fd ["_law_rows", "_law_ends"] spOpen := by
  refine F.ok scOpen (fun vs H Q E h => ?_) (fun cdv A outer s H vs Q E hr h => ?_)
  · obtain ⟨L, rs, es, m, pr, pe, rvs, rfl, _⟩ := h
    rfl
  · obtain ⟨L, rs, es, m, pr, pe, rvs, rfl, M, MM, k⟩ := h
    have hu0 := hr.units0
    have hu1 := hu_of hr
    have l4 := M.l400
    have l1 := M.l1
    refine ⟨_, (pss_cons (ps_asg (pe_tup (pa_cons (pe_callTy (call_dictP rfl) (by rfl) T.dict (by decide +kernel) (pa_cons (pe_lc (own := [("_law_state", 4)]) (g := gName 4) rfl scOpen.nd (pi_range1 (by rfl) T.range (pa_cons (pe_callB (r := rLen K) call_len_seq (by rfl) T.len PySem.boot_len (pa_cons (pv 0) pa_nil)) pa_nil)) (blkOk_by (N := ["_law_rows", "_law_ends", "_law_found", "_law_many", "_law_state", "_law_back", "_law_item"]) (sc := defScope sOpen) (by decide +kernel)) (fun _ _ _ _ _ => pg_name (i := 4) scOpen.nd rfl (Or.inl rfl)) (fun _ _ _ _ _ => pts_one (pt_val (pe_ix (r := rIxT K) ix_tup (pv 1) (pv 4) (fun _ _ => rfl)))) (fun _ _ _ _ _ => (pe_tup (pa_cons (pv 4) (pa_cons pe_bl pa_nil))))) pa_nil)) (pa_cons (pe_un un_neg pe_int) pa_nil))) (pg_tup rfl (pgs_cons (pg_name (i := 2) scOpen.nd rfl (.inr rfl)) (pgs_cons (pg_name (i := 3) scOpen.nd rfl (.inl rfl)) pgs_nil))))
      (pss_cons (ps_while PassesOwn.never (pt_cmpR op_ne (pe_callB call_lenD (by rfl) T.len PySem.boot_len (pa_cons (pv 2) pa_nil)) (pv 3) (nomark _)) (pss_cons (ps_set (i := 3) scOpen.nd rfl (.inl rfl) (pe_callB call_lenD (by rfl) T.len PySem.boot_len (pa_cons (pv 2) pa_nil)))
      (pss_one (ps_for PassesOwn.never rfl (pi_range1 (by rfl) T.range (pa_cons (pe_callB (r := rLen K) call_len_seq (by rfl) T.len PySem.boot_len (pa_cons (pv 0) pa_nil)) pa_nil)) (pg_name (i := 5) scOpen.nd rfl (.inl rfl)) (pss_cons (ps_set (i := 4) scOpen.nd rfl (.inl rfl) (pe_op op_sub (pe_op op_sub (pe_callB (r := rLen K) call_len_seq (by rfl) T.len PySem.boot_len (pa_cons (pv 0) pa_nil)) pe_int) (pv 5)))
      (pss_one (ps_if (PW.pt (pw_and (pt_cmp (pc_dnotin hu1 (pv 4) (pv 2))) (pw_and1 (pt_cmpR (op_neNilL hu0) (pe_lc (own := [("_law_item", 6)]) (g := gName 6) rfl scOpen.nd (pi_tup (pe_ix (r := rIxT K) ix_tup (pv 0) (pv 4) (fun _ _ => rfl))) (blkOk_by (N := ["_law_rows", "_law_ends", "_law_found", "_law_many", "_law_state", "_law_back", "_law_item"]) (sc := defScope sOpen) (by decide +kernel)) (fun _ _ _ _ _ => pg_name (i := 6) scOpen.nd rfl (Or.inl rfl)) (fun _ _ _ _ _ => pts_one (pt_cmp (pc_dinN hu1 (pv 6) (pv 2)))) (fun _ _ _ _ _ => (pv 6))) (pe_lst pa_nil) (nomark _))))) (pss_one (ps_asg pe_bl (pg_sub (pv 2) (pv 4) (set_dict hu1)))) pss_nil)))))))
      (pss_one (ps_ret (pv 2))))), ?_⟩
    refine ⟨_, rfl, pr, rvs, rfl, .inr (.inl MM.hr), (rvs.length : Int), rfl, ?_, ?_, fun D hD => ?_⟩
    · rw [MM.hl]
      omega
    · rw [MM.hl]
      omega
    refine lc_range (lo := 0) (n := (rvs.length : Int).toNat) (fun j H' => Same H H' ∧ ∃ ps : List Addr, H' D = some (.lst (ps.map V.ref)) ∧ Paired (fun p kv => H' p = some (.tup [kV kv.1, kv.2])) ps (opK ((List.range j).filter fun s => es.getD s false)) ∧ (∀ p ∈ ps, p ≠ D) ∧ ps.length ≤ j) ?_ ?_ ?_
    · exact ⟨same_new hD, [], upd_same, .nil, (fun _ z => absurd z List.not_mem_nil), Nat.le_refl _⟩
    · rintro j H1 hj ⟨sm, ps, hD1, pp, nD, lp⟩
      rw [Int.toNat_natCast, MM.hl] at hj
      have e0 : (0 : Int) + (j : Int) = (j : Int) := Int.zero_add _
      have hej : es[j]? = some (es.getD j false) := by
        have : j < es.length := by rw [M.es]; exact hj
        rw [getD_at this, List.getElem?_eq_getElem this]
      refine ⟨rfl, _, rfl, _, rfl, pe, _, ((0 : Int) + j), .bl (es.getD j false), rfl, rfl, .inl (MM.same sm).he, ?_, ?_⟩
      · rw [e0]
        exact atI_nat (by rw [List.getElem?_map, hej]; rfl)
      have rs_ : (List.range (j + 1)).filter (fun s => es.getD s false) = (List.range j).filter (fun s => es.getD s false) ++ (if es.getD j false then [j] else []) := by
        rw [List.range_succ, List.filter_append]
        congr 1
        cases q : es.getD j false with
        | true => rw [List.filter_cons, if_pos q]; rfl
        | false => rw [List.filter_cons, if_neg (by rw [q]; exact Bool.false_ne_true)]; rfl
      refine ⟨_, rfl, ?_⟩
      cases q : es.getD j false with
      | true =>
        rw [q] at rs_
        refine ⟨_, rfl, (by show 2 ≤ sizeLine; decide), fun T2 hT => ?_⟩
        have hTD : T2 ≠ D := fun z => by rw [z, hD1] at hT; cases hT
        refine ⟨_, by rw [upd_ne hTD.symm]; exact hD1, small1000 (by rw [List.length_map]; omega), fun b o e => ?_, ps ++ [T2], by rw [upd_same, List.map_append]; rfl, ?_, fun p hp => ?_, by rw [List.length_append, List.length_singleton]; omega⟩
        · rw [upd_ne (ne_of_none e hD)]
          have h1 := sm _ _ e
          rw [upd_ne (ne_of_none h1 hT)]
          exact h1
        · rw [rs_, if_pos rfl]
          show Paired _ (ps ++ [T2]) (List.map _ (_ ++ _))
          rw [List.map_append]
          refine Paired.snoc ?_ ?_
          · refine paired_mem pp fun p hp kv e => ?_
            rw [upd_ne (nD p hp), upd_ne (ne_of_none e hT)]
            exact e
          · rw [upd_ne hTD, upd_same]
            show some (HO.tup [V.int (0 + (j : Int)), V.bl true]) = some (HO.tup [V.int (j : Int), V.bl true])
            rw [e0]
        · rcases List.mem_append.mp hp with z | z
          · exact nD p z
          · rw [List.mem_singleton.mp z]
            exact hTD
      | false =>
        rw [q] at rs_
        refine ⟨sm, ps, hD1, ?_, nD, by omega⟩
        rw [rs_, if_neg Bool.false_ne_true, List.append_nil]
        exact pp
    · rintro H1 ⟨sm, ps, hD1, pp, nD, lp⟩
      rw [Int.toNat_natCast, MM.hl] at pp
      refine ⟨D, ps, _, rfl, SqL.of hD1, paired_mem pp (fun p _ kv e => SqT.of e), fun d hd => ?_⟩
      have em := opK_merge ((List.range rs.length).filter fun s => es.getD s false) [] (List.Pairwise.filter _ List.nodup_range)
      have em : mergeK [] (opK ((List.range rs.length).filter fun s => es.getD s false)) = opK ((List.range rs.length).filter fun s => es.getD s false) := em
      rw [em]
      have s1 : Same H (upd H1 d (.dK (opK ((List.range rs.length).filter fun s => es.getD s false)))) := sm.trans (same_new hd)
      have hd1 : (upd H1 d (.dK (opK ((List.range rs.length).filter fun s => es.getD s false)))) d = some (.dK (opK ((List.range rs.length).filter fun s => es.getD s false))) := upd_same
      have d0 : H d = none := sm.free hd
      have nd0 : ((List.range rs.length).filter fun s => es.getD s false).Nodup := List.Pairwise.filter _ List.nodup_range
      have in0 : ∀ s, s ∈ ((List.range rs.length).filter fun s => es.getD s false) ↔ (s < rs.length ∧ es.getD s false = true) := fun s => by
        rw [List.mem_filter, List.mem_range]
      clear em pp hD1 hd
      generalize (List.range rs.length).filter (fun s => es.getD s false) = ks0 at *
      generalize upd H1 d (.dK (opK ks0)) = H2 at *
      refine ⟨_, rfl, by show 2 ≤ sizeLine; decide, fun T2 hT => ?_⟩
      refine ⟨T2, _, rfl, SqT.of upd_same, rfl, _, _, rfl, _, _, rfl, rfl, ?_⟩
      have s3 : Same H (upd H2 T2 (.tup [.ref d, .int (-1)])) := s1.trans (same_new hT)
      have hd3 : (upd H2 T2 (.tup [.ref d, .int (-1)])) d = some (.dK (opK ks0)) := same_new hT _ _ hd1
      clear s1 hd1 hT
      generalize upd H2 T2 (.tup [.ref d, .int (-1)]) = H3 at *
      refine while_by (fun σ H' => ∃ (ks : List Nat) (many : Int) (y4 y5 y6 : Option V), σ = [some (.ref pr), some (.ref pe), some (.ref d), some (.int many), y4, y5, y6] ∧ Same H H' ∧ H' d = some (.dK (opK ks)) ∧ ks.Nodup ∧ (∀ s ∈ ks, s < rs.length ∧ Live rs es s) ∧ (∀ s, s < rs.length → es.getD s false = true → s ∈ ks) ∧ -1 ≤ many ∧ many ≤ ks.length ∧ (many = ks.length → ∀ s c t, s < rs.length → nx rs s c = some t → t ∈ ks → s ∈ ks))
        (fun (σ : List (Option V)) (_ : Hp) => match σ[3]? with
          | some (some (V.int i)) => (401 - i).toNat
          | _ => 0) ⟨ks0, -1, _, _, _, rfl, s3, hd3, nd0, fun s hs => ?_, fun s h1 h2 => (in0 s).mpr ⟨h1, h2⟩, Int.le_refl _, by omega, fun z => by omega⟩ ?_ ?_
      · have := (in0 s).mp hs
        exact ⟨this.1, live_end this.2⟩
      · rintro σ H4 ⟨ks, many, y4, y5, y6, rfl, s4, hd4, nd, lv, en, b1, b2, cl⟩
        have lk := nodup_len nd (fun s hs => (lv s hs).1)
        refine ⟨_, rfl, d, _, rfl, hd4, _, rfl, rfl, _, rfl, ite2 (fun h => ?_) (fun h => ?_)⟩
        · refine ⟨_, rfl, d, _, rfl, hd4, ?_⟩
          refine ⟨_, rfl, pr, rvs, rfl, .inr (.inl (MM.same s4).hr), (rvs.length : Int), rfl, by rw [MM.hl]; omega, by rw [MM.hl]; omega, ?_⟩
          have hne : ¬ many = (ks.length : Int) := fun z => by
            exact of_decide_eq_false (not_cases h) (by rw [z, og_len])
          refine for_range (lo := 0) (n := (rvs.length : Int).toNat) (fun i σ H' => ∃ (ks' : List Nat) (y4 y5 y6 : Option V), σ = [some (.ref pr), some (.ref pe), some (.ref d), some (.int (ks.length : Int)), y4, y5, y6] ∧ Same H H' ∧ H' d = some (.dK (opK ks')) ∧ ks'.Nodup ∧ (∀ s ∈ ks', s < rs.length ∧ Live rs es s) ∧ (∀ s, s < rs.length → es.getD s false = true → s ∈ ks') ∧ ks.length ≤ ks'.length ∧ (ks'.length = ks.length → ∀ s c t, rs.length ≤ s + i → s < rs.length → nx rs s c = some t → t ∈ ks' → s ∈ ks'))
            ⟨ks, _, _, _, by rw [og_len]; rfl, s4, hd4, nd, lv, en, Nat.le_refl _, fun _ s c t h1 h2 => by omega⟩ ?_ ?_
          · rintro i σ H5 hi ⟨ks', y4', y5', y6', rfl, s5, hd5, nd', lv', en', b1', cl'⟩
            rw [Int.toNat_natCast, MM.hl] at hi
            have MM5 := MM.same s5
            have ez : (rvs.length : Int) - 1 - (0 + (i : Int)) = ((rs.length - 1 - i : Nat) : Int) := by
              rw [MM.hl]
              omega
            refine ⟨_, rfl, pr, rvs, rfl, .inr (.inl MM5.hr), _, _, rfl, rfl, _, rfl, _, _, rfl, rfl, ?_⟩
            dsimp only
            rw [ez]
            obtain ⟨s, hs⟩ : ∃ s, s = rs.length - 1 - i := ⟨_, rfl⟩
            rw [← hs]
            have hsn : s < rs.length := by omega
            refine ⟨_, rfl, _, rfl, d, _, rfl, DGet.k (k := .inl (s : Int)) hd5, _, rfl, ?_⟩
            rw [og_some opI]
            by_cases hin : s ∈ ks'
            · rw [decide_eq_true hin]
              refine ⟨ks', _, _, _, rfl, s5, hd5, nd', lv', en', b1', fun e s' c t h1 h2 h3 h4 => ?_⟩
              by_cases z : s' = s
              · rw [z]
                exact hin
              · exact cl' e s' c t (by omega) h2 h3 h4
            · rw [decide_eq_false hin]
              obtain ⟨row, hrow⟩ : ∃ row, rs[s]? = some row := ⟨_, List.getElem?_eq_getElem hsn⟩
              have hmr := List.mem_of_getElem? hrow
              have hrl := M.row row hmr
              obtain ⟨q, hq1, hq2⟩ := MM5.row s row hrow
              refine ⟨_, rfl, _, rfl, pr, rvs, (s : Int), _, rfl, rfl, .inl MM5.hr, atI_nat hq1, q, rfl, ⟨_, .inl hq2⟩, fun D hD => ?_⟩
              refine lc_tup (K := K) (a := q) (xs := row.map oV) (KInv (fun o : Option Nat => inO ks' o) oV row H5 D) (kstart hD) (fun i H' _ p => .inl (same_rd p.1 hq2)) ?_ ?_
              · rintro j x H6 hx p1
                rw [List.getElem?_map] at hx
                obtain ⟨tg, hj, rfl⟩ := Option.map_eq_some_iff.mp hx
                have hd6 := p1.1 _ _ hd5
                have L3 := M.L3
                refine ⟨rfl, _, rfl, _, rfl, ?_⟩
                cases tg with
                | none => exact .inr ⟨d, _, rfl, rfl, .inl hd6, _, rfl, kno (t := fun o : Option Nat => inO ks' o) hj rfl p1 (Same.refl _)⟩
                | some t =>
                  refine .inl ⟨d, _, rfl, DGet.k (k := .inl (t : Int)) hd6, _, rfl, ?_⟩
                  rw [og_some opI]
                  by_cases ht : t ∈ ks'
                  · rw [decide_eq_true ht]
                    exact ⟨_, rfl, kyes (t := fun o : Option Nat => inO ks' o) (small1000 (by omega)) hD hj (decide_eq_true ht) p1 (Same.refl _)⟩
                  · rw [decide_eq_false ht]
                    exact kno (t := fun o : Option Nat => inO ks' o) hj (decide_eq_false ht) p1 (Same.refl _)
              · rintro H6 p1
                obtain ⟨s6, hl6⟩ := kend (List.length_map _) p1
                refine ⟨by show 0 ≤ sizeLine; decide, fun e0 he0 => ?_⟩
                have s7 := s6.trans (same_new (o := .lst []) he0)
                have hl7 := same_new (o := .lst []) he0 _ _ hl6
                have hd7 := s7 _ _ hd5
                refine ⟨D, e0, _, rfl, rfl, SqL.of hl7, SqL.of upd_same, _, rfl, ?_⟩
                have s57 := s5.trans s7
                have lk' := nodup_len nd' (fun s hs => (lv' s hs).1)
                clear hl7 hl6 p1
                generalize upd H6 e0 (.lst []) = H7 at *
                by_cases he : row.filter (fun o => inO ks' o) = []
                · rw [he]
                  refine ⟨ks', _, _, _, rfl, s57, hd7, nd', lv', en', b1', fun e s' c t h1 h2 h3 h4 => ?_⟩
                  by_cases z : s' = s
                  · subst z
                    exfalso
                    have hm : some t ∈ row := by
                      unfold nx at h3
                      rw [List.getD_eq_getElem?_getD, List.getD_eq_getElem?_getD, hrow] at h3
                      have h3 : (row[c]?).getD none = some t := h3
                      cases q : row[c]? with
                      | none => rw [q] at h3; cases h3
                      | some x =>
                        rw [q] at h3
                        have h3 : x = some t := h3
                        rw [h3] at q
                        exact List.mem_of_getElem? q
                    have : some t ∈ row.filter (fun o => inO ks' o) := List.mem_filter.mpr ⟨hm, decide_eq_true h4⟩
                    rw [he] at this
                    exact List.not_mem_nil this
                  · exact cl' e s' c t (by omega) h2 h3 h4
                · have hne : (!decide ((row.filter (fun o => inO ks' o)).map oV = [])) = true := by
                    rw [decide_eq_false (fun z => he (List.map_eq_nil_iff.mp z))]
                    rfl
                  rw [hne]
                  have dp := DPut.k (k := .inl (s : Int)) (v := .bl true) hd7 (small1000 (by rw [og_len]; omega))
                  rw [og_put opI hin] at dp
                  refine ⟨_, rfl, _, rfl, d, _, rfl, dp, ks' ++ [s], _, _, _, rfl, fun b o e => ?_, upd_same, ?_, fun x hx => ?_, fun x h1 h2 => List.mem_append.mpr (.inl (en' x h1 h2)), by rw [List.length_append]; omega, fun e => ?_⟩
                  · rw [upd_ne (ne_of_none e d0)]
                    exact s57 _ _ e
                  · rw [List.nodup_append]
                    exact ⟨nd', List.nodup_cons.mpr ⟨List.not_mem_nil, List.nodup_nil⟩, fun x hx y hy z => hin (by rw [← List.mem_singleton.mp hy, ← z]; exact hx)⟩
                  · rcases List.mem_append.mp hx with z | z
                    · exact lv' x z
                    · rw [List.mem_singleton.mp z]
                      obtain ⟨o, ho⟩ := List.exists_mem_of_ne_nil _ he
                      obtain ⟨h1, h2⟩ := List.mem_filter.mp ho
                      cases o with
                      | none => cases h2
                      | some t =>
                        obtain ⟨c, hc⟩ := List.mem_iff_getElem?.mp h1
                        exact ⟨hsn, live_on (nx_row hrow hc) (lv' t (of_decide_eq_true h2)).2⟩
                  · rw [List.length_append, List.length_singleton] at e
                    omega
          · rintro σ H5 ⟨ks', y4', y5', y6', rfl, s5, hd5, nd', lv', en', b1', cl'⟩
            rw [Int.toNat_natCast, MM.hl] at cl'
            have lk' := nodup_len nd' (fun s hs => (lv' s hs).1)
            refine ⟨⟨ks', _, _, _, _, rfl, s5, hd5, nd', lv', en', by omega, by omega, fun e s c t h1 => cl' (by omega) s c t (by omega) h1⟩, ?_⟩
            show (401 - (ks.length : Int)).toNat < (401 - many).toNat
            omega
        · have e := of_decide_eq_true (not_cases' h)
          rw [og_len] at e
          have e : many = (ks.length : Int) := (V.int.inj e).symm
          refine ⟨_, rfl, k H4 d ks s4 d0 hd4 fun s => ⟨lv s, fun q => ?_⟩⟩
          exact (open_done (F := fun s => s ∈ ks) M.tgt M.row (fun s hs => (lv s hs).2) en (cl e) s q.1).mpr q.2
      · rintro σ H1 Q1 Q2 hQ ⟨x, e1, a, kvs, e2, e3, y, e4, e5, b, e6, q⟩
        exact ⟨x, e1, a, kvs, e2, e3, y, e4, e5, b, e6, hQ _ _ q⟩
end
/-! ### counts state by state; whether there is an end -/
def intOf (b : Bool) : Int := ((b2n b : Nat) : Int)
def cntV (rs : Rows) (es : List Bool) : Nat → List Int
  | 0 => es.map intOf
  | k + 1 => rs.map fun row => ((row.filter Option.isSome).map fun o => (cntV rs es k).getD (o.getD 0) 0).sum
theorem row_opt {f : Nat → Int} : ∀ (row : List (Option Nat)), ((row.filter Option.isSome).map fun o => f (o.getD 0)).sum = (row.map (optZ f)).sum
  | [] => rfl
  | none :: row => by
    rw [List.filter_cons, if_neg (by decide), row_opt row, List.map_cons, List.sum_cons]
    show _ = 0 + _
    rw [Int.zero_add]
  | some t :: row => by
    rw [List.filter_cons, if_pos (show (some t).isSome = true from rfl), List.map_cons, List.sum_cons, row_opt row, List.map_cons, List.sum_cons]
    rfl
theorem row_range {rs : Rows} {s L : Nat} {row : List (Option Nat)} (h : rs[s]? = some row) (hl : row.length = L) : (List.range L).map (fun c => nx rs s c) = row := by
  refine List.ext_getElem? fun i => ?_
  rw [List.getElem?_map]
  by_cases q : i < L
  · rw [List.getElem?_range q]
    show some (nx rs s i) = _
    unfold nx
    rw [List.getD_eq_getElem?_getD, List.getD_eq_getElem?_getD, h]
    show some ((row[i]?).getD none) = _
    rw [List.getElem?_eq_getElem (show i < row.length by omega)]
    rfl
  · rw [List.getElem?_eq_none (by rw [List.length_range]; omega), List.getElem?_eq_none (by omega)]
    rfl
theorem cntV_len {L : Nat} {rs : Rows} {es : List Bool} (M : MOk L rs es) : ∀ k, (cntV rs es k).length = rs.length
  | 0 => by
    show (es.map intOf).length = _
    rw [List.length_map, M.es]
  | k + 1 => by
    show (rs.map _).length = _
    rw [List.length_map]
theorem cntV_at {L : Nat} {rs : Rows} {es : List Bool} (M : MOk L rs es) : ∀ (k s : Nat), s < rs.length → (cntV rs es k)[s]? = some ((cntP L (fun w => acc rs es w s) k : Nat) : Int)
  | 0, s, hs => by
    have he : s < es.length := by rw [M.es]; exact hs
    show (es.map intOf)[s]? = _
    rw [List.getElem?_map, List.getElem?_eq_getElem he]
    show some ((b2n es[s] : Nat) : Int) = some ((((wordsN L 0).map fun w => b2n (acc rs es w s)).sum : Nat) : Int)
    show some ((b2n es[s] : Nat) : Int) = some ((b2n (es.getD s false) + 0 : Nat) : Int)
    rw [List.getD_eq_getElem?_getD, List.getElem?_eq_getElem he]
    rfl
  | k + 1, s, hs => by
    have hrow : rs[s]? = some rs[s] := List.getElem?_eq_getElem hs
    have hm := List.getElem_mem hs
    show (rs.map _)[s]? = _
    rw [List.getElem?_map, hrow]
    show some _ = some _
    congr 1
    rw [cnt_from]
    show ((rs[s].filter Option.isSome).map fun o => (cntV rs es k).getD (o.getD 0) 0).sum = _
    rw [row_opt (f := fun t => (cntV rs es k).getD t 0), ← row_range hrow (M.row _ hm), List.map_map]
    congr 1
    refine List.map_congr_left fun c _ => ?_
    show optZ _ (nx rs s c) = optZ _ (nx rs s c)
    cases e : nx rs s c with
    | none => rfl
    | some t =>
      obtain ⟨_, _, r, hr, hm2⟩ := nx_lt M.row e
      have ht : t < rs.length := M.tgt r hr t hm2
      show (cntV rs es k).getD t 0 = _
      rw [List.getD_eq_getElem?_getD, cntV_at M k t ht]
      rfl
theorem acc_app {rs : Rws} {es : List Bool} {u v : List Nat} {s t : Nat} (h : run rs u s = some t) : acc rs es (u ++ v) s = acc rs es v t := by
  rw [Bool.eq_iff_iff, acc_run, acc_run, run_append, h]
  exact Iff.rfl
/-- where a way of so many steps leads, from which an end is come to -/
def WayTo (rs : Rows) (es : List Bool) (k t : Nat) : Prop := ∃ w : List Nat, w.length = k ∧ run rs w 0 = some t ∧ Live rs es t
theorem live_back {rs : Rows} {es : List Bool} {s c t : Nat} (h : nx rs s c = some t) (l : Live rs es t) : Live rs es s := by
  obtain ⟨w, hw⟩ := l
  refine ⟨c :: w, ?_⟩
  show (match nx rs s c with | none => false | some t => acc rs es w t) = true
  rw [h]
  exact hw
theorem way_zero {rs : Rows} {es : List Bool} {t : Nat} : WayTo rs es 0 t ↔ t = 0 ∧ Live rs es 0 := by
  constructor
  · rintro ⟨w, h1, h2, h3⟩
    rw [List.length_eq_zero_iff.mp h1] at h2
    cases h2
    exact ⟨rfl, h3⟩
  · rintro ⟨rfl, h⟩
    exact ⟨[], rfl, rfl, h⟩
theorem way_succ {rs : Rows} {es : List Bool} {k t : Nat} : WayTo rs es (k + 1) t ↔ ∃ s c, WayTo rs es k s ∧ nx rs s c = some t ∧ Live rs es t := by
  constructor
  · rintro ⟨w, h1, h2, h3⟩
    rcases List.eq_nil_or_concat w with rfl | ⟨w', c, rfl⟩
    · cases h1
    · rw [List.concat_eq_append] at h1 h2
      rw [run_snoc] at h2
      cases e : run rs w' 0 with
      | none => rw [e] at h2; cases h2
      | some s =>
        rw [e] at h2
        have h2 : nx rs s c = some t := h2
        exact ⟨s, c, ⟨w', by rw [List.length_append, List.length_singleton] at h1; omega, e, live_back h2 h3⟩, h2, h3⟩
  · rintro ⟨s, c, ⟨w, h1, h2, h3⟩, h4, h5⟩
    refine ⟨w ++ [c], by rw [List.length_append, List.length_singleton, h1], ?_, h5⟩
    rw [run_snoc, h2]
    exact h4
theorem run_reach {rs : Rows} : ∀ (w : List Nat) (s t : Nat), Reach rs s → run rs w s = some t → Reach rs t
  | [], s, t, h, e => by
    cases e
    exact h
  | c :: w, s, t, h, e => by
    rw [run_cons] at e
    cases q : nx rs s c with
    | none => rw [q] at e; cases e
    | some u =>
      rw [q] at e
      exact run_reach w u t (reach_nx h q) e
theorem way_reach {rs : Rows} {es : List Bool} {k t : Nat} (h : WayTo rs es k t) : Reach rs t ∧ Live rs es t := by
  obtain ⟨w, _, h2, h3⟩ := h
  exact ⟨run_reach w 0 t .z h2, h3⟩
/-- there are words of so many letters and more just if there is a way of so many steps -/
theorem way_words {rs : Rows} {es : List Bool} {n : Nat} : (∃ t, WayTo rs es n t) ↔ ∃ w, n ≤ w.length ∧ acc rs es w 0 = true := by
  constructor
  · rintro ⟨t, w, h1, h2, v, hv⟩
    refine ⟨w ++ v, by rw [List.length_append]; omega, ?_⟩
    rw [acc_app h2]
    exact hv
  · rintro ⟨w, h1, h2⟩
    have e := List.take_append_drop n w
    cases q : run rs (w.take n) 0 with
    | none =>
      obtain ⟨t, ht, _⟩ := (acc_run _ _).mp h2
      rw [← e, run_append, q] at ht
      cases ht
    | some t =>
      refine ⟨t, w.take n, by rw [List.length_take]; omega, q, w.drop n, ?_⟩
      rw [← e, acc_app q] at h2
      exact h2
/-! ### useful states, and counts by states -/
section
variable {P : Program} {w : World} {K : PySem.W.Frag} {mg : Str → Option Value} {base : Heap}
theorem scUsef : FnScope ["_law_machine_here", "_law_alive", "_law_state"] ["_law_machine_here"] (defScope sUsef) := ⟨rfl, rfl, rfl, by decide +kernel, rfl, by decide +kernel, by decide +kernel⟩
def spUsef (K : PySem.W.Frag) : Sp := fun vs H Q _ => ∃ (L : Nat) (rs : Rows) (es : List Bool) (x : V) (B : Addr → Prop), vs = [x] ∧ Dt B K H x (machDt L rs es) ∧ MOk L rs es ∧
  ∀ (H' : Hp) (p : Addr) (us : List Nat), Same H H' → H p = none → H' p = some (.lst (us.map natV)) → (∀ s, s ∈ us ↔ Reach rs s ∧ Live rs es s) → us.length ≤ rs.length → Q (.ref p) H'
theorem ok_usef {f fOP fMT : Addr} {fd fdOP fdMT : FuncData} (F : Fun K "_law_useful" "_law_useful" sUsef f fd)
    (OP : FnOk P w K mg base CX0 1 fOP fdOP ["_law_rows", "_law_ends"] spOpen) (FOP : Fun K "_law_open" "_law_open" sOpen fOP fdOP) (bOP : Binds K fdOP ["_law_rows", "_law_ends"] []) (gOP : mg "_law_open" = some (.ref fOP))
    (MT : FnOk P w K mg base CX0 1 fMT fdMT ["_law_rows"] spMetO) (FMT : Fun K "_law_met" "_law_met" sMet fMT fdMT) (bMT : Binds K fdMT ["_law_rows"] []) (gMT : mg "_law_met" = some (.ref fMT)) (T : Mg mg) : FnOk P w K mg base CX0 2 f fd ["_law_machine_here"] (spUsef K) := by
  refine F.ok scUsef (fun vs H Q E h => ?_) (fun cdv A outer s H vs Q E hr h => ?_)
  · obtain ⟨L, rs, es, x, B, rfl, _⟩ := h
    rfl
  · obtain ⟨L, rs, es, x, B, rfl, hx, M, k⟩ := h
    have hu1 := hu_of hr
    refine ⟨_, (pss_cons (ps_set (i := 1) scUsef.nd rfl (.inr rfl) (pe_call OP (hr.mono (by decide)) (by rfl) gOP FOP.kp bOP .nil pass0 (pa_cons (pe_ix (r := rIxT K) ix_tup (pv 0) pe_int (fun _ _ => rfl)) (pa_cons (pe_ix (r := rIxT K) ix_tup (pv 0) pe_int (fun _ _ => rfl)) pa_nil))))
      (pss_one (ps_ret (pe_lc (own := [("_law_state", 2)]) (g := gName 2) rfl scUsef.nd (pi_list (pe_call MT (hr.mono (by decide)) (by rfl) gMT FMT.kp bMT .nil pass0 (pa_cons (pe_ix (r := rIxT K) ix_tup (pv 0) pe_int (fun _ _ => rfl)) pa_nil))) (blkOk_by (N := ["_law_machine_here", "_law_alive", "_law_state"]) (sc := defScope sUsef) (by decide +kernel)) (fun _ _ _ _ _ => pg_name (i := 2) scUsef.nd rfl (Or.inl rfl)) (fun _ _ _ _ _ => pts_one (pt_cmp (pc_dinN hu1 (pv 2) (pv 1)))) (fun _ _ _ _ _ => (pv 2)))))), ?_⟩
    obtain ⟨m, pr, pe, rvs, rfl, _, MM⟩ := dt_mach hx
    have l4 := M.l400
    refine ⟨_, rfl, m, _, 1, .ref pr, rfl, rfl, .inl MM.hm, atI_nat (j := 1) rfl, ?_⟩
    refine ⟨_, rfl, m, _, 2, .ref pe, rfl, rfl, .inl MM.hm, atI_nat (j := 2) rfl, ?_⟩
    refine ⟨L, rs, es, m, pr, pe, rvs, rfl, M, MM, fun H1 d ks s1 d0 hd al => ?_⟩
    have MM1 := MM.same s1
    refine ⟨_, rfl, ?_⟩
    refine ⟨m, _, 1, .ref pr, rfl, rfl, .inl MM1.hm, atI_nat (j := 1) rfl, ?_⟩
    refine ⟨L, rs, es, m, pr, pe, rvs, rfl, M, MM1, fun H2 p ord s2 p0 hp O => ?_⟩
    refine ⟨p, rfl, ⟨_, SqL.of hp⟩, fun D hD => ?_⟩
    refine lc_list (K := K) (a := p) (xs := ord.map natV) (KInv (fun s : Nat => decide (s ∈ ks)) natV ord H2 D) (kstart hD) (fun i H' _ p1 => SqL.of (p1.1 _ _ hp)) ?_ ?_
    · rintro i x H3 hx p1
      rw [List.getElem?_map] at hx
      obtain ⟨t, ht, rfl⟩ := Option.map_eq_some_iff.mp hx
      have hd3 := p1.1 _ _ (s2 _ _ hd)
      refine ⟨rfl, _, rfl, _, rfl, .inl ⟨d, _, rfl, DGet.k (k := .inl (t : Int)) hd3, _, rfl, ?_⟩⟩
      rw [og_some opI]
      have ol := O.len
      by_cases hin : t ∈ ks
      · rw [decide_eq_true hin]
        exact ⟨_, rfl, kyes (t := fun s : Nat => decide (s ∈ ks)) (small1000 (by omega)) hD ht (decide_eq_true hin) p1 (Same.refl _)⟩
      · rw [decide_eq_false hin]
        exact kno (t := fun s : Nat => decide (s ∈ ks)) ht (decide_eq_false hin) p1 (Same.refl _)
    · rintro H3 p1
      obtain ⟨s3, hl3⟩ := kend (List.length_map _) p1
      refine k H3 D _ ((s1.trans s2).trans s3) ((s1.trans s2).free hD) hl3 (fun s => ?_) (Nat.le_trans (List.length_filter_le _ _) O.len)
      rw [List.mem_filter, O.mem, decide_eq_true_iff, al]
      exact ⟨fun ⟨a, _, b⟩ => ⟨a, b⟩, fun ⟨a, b⟩ => ⟨a, O.lt s ((O.mem s).mpr a), b⟩⟩
end
/-! ### the counts of the law -/
section
variable {P : Program} {w : World} {K : PySem.W.Frag} {mg : Str → Option Value} {base : Heap}
theorem scCntL : FnScope ["_law_machine_here", "_law_length", "_law_row", "_law_found", "_law_end", "_law_turn", "_law_item", "_law_items"] ["_law_machine_here", "_law_length"] (defScope sCntL) := ⟨rfl, rfl, rfl, by decide +kernel, rfl, by decide +kernel, by decide +kernel⟩
def spCntL (K : PySem.W.Frag) : Sp := fun vs H Q _ => ∃ (L n : Nat) (rs : Rows) (es : List Bool) (x : V) (B : Addr → Prop), vs = [x, .int (n : Int)] ∧ Dt B K H x (machDt L rs es) ∧ MOk L rs es ∧ n ≤ 1000 ∧
  ∀ (H' : Hp) (p : Addr), Same H H' → H p = none → H' p = some (.lst ((List.range n).map fun k => V.int ((cntP L (fun w => acc rs es w 0) k : Nat) : Int))) → Q (.ref p) H'
theorem ok_cntL {f : Addr} {fd : FuncData} (F : Fun K "_law_counts" "_law_counts" sCntL f fd) (T : Mg mg) (mSum : mg "sum" = none) : FnOk P w K mg base CX0 1 f fd ["_law_machine_here", "_law_length"] (spCntL K) := by
  refine F.ok scCntL (fun vs H Q E h => ?_) (fun cdv A outer s H vs Q E hr h => ?_)
  · obtain ⟨L, n, rs, es, x, B, rfl, _⟩ := h
    rfl
  · obtain ⟨L, n, rs, es, x, B, rfl, hx, M, n9, k⟩ := h
    have hu1 := hu_of hr
    refine ⟨_, (pss_cons (ps_asg (pe_tup (pa_cons (pe_lc (own := [("_law_end", 4)]) (g := gName 4) (tt := tYes) rfl scCntL.nd (pi_tup (pe_ix (r := rIxT K) ix_tup (pv 0) pe_int (fun _ _ => rfl))) (blkOk_by (N := ["_law_machine_here", "_law_length", "_law_row", "_law_found", "_law_end", "_law_turn", "_law_item", "_law_items"]) (sc := defScope sCntL) (by decide +kernel)) (fun _ _ _ _ _ => pg_name (i := 4) scCntL.nd rfl (Or.inl rfl)) (fun _ _ _ _ _ => pts_nil) (fun _ _ _ _ _ => (pe_callTy call_int1 (by rfl) T.int (by decide +kernel) (pa_cons (pv 4) pa_nil)))) (pa_cons (pe_lstA pa_nil) pa_nil))) (pg_tup rfl (pgs_cons (pg_name (i := 2) scCntL.nd rfl (.inr rfl)) (pgs_cons (pg_name (i := 3) scCntL.nd rfl (.inl rfl)) pgs_nil))))
      (pss_cons (ps_for PassesOwn.never rfl (pi_range1 (by rfl) T.range (pa_cons (pv 1) pa_nil)) (pg_name (i := 5) scCntL.nd rfl (.inl rfl)) (pss_cons (ps_expr (pe_bm PySem.F.plainAttrs_list PySem.F.slot_list_append PySem.F.type_list_append mt_append (pv 3) (pa_cons (pe_ix (r := rIxL K) ix_list (pv 2) pe_int (fun _ _ => rfl)) pa_nil)))
      (pss_one (ps_set (i := 2) scCntL.nd rfl (.inr rfl) (pe_lc (own := [("_law_items", 7)]) (g := gName 7) (tt := tYes) rfl scCntL.nd (pi_tup (pe_ix (r := rIxT K) ix_tup (pv 0) pe_int (fun _ _ => rfl))) (blkOk_by (N := ["_law_machine_here", "_law_length", "_law_row", "_law_found", "_law_end", "_law_turn", "_law_item", "_law_items"]) (sc := defScope sCntL) (by decide +kernel)) (fun _ _ _ _ _ => pg_name (i := 7) scCntL.nd rfl (Or.inl rfl)) (fun _ _ _ _ _ => pts_nil) (fun _ _ _ _ _ => (pe_callB (r := rSum K) (cr_sum rfl) (by rfl) mSum (by decide +kernel) (pa_cons (pe_lc (wi := iTup K _) (own := [("_law_item", 6)]) (g := gName 6) rfl scCntL.nd (pi_tup (pv 7)) (blkOk_by (by kernel_rfl)) (fun _ _ _ _ _ => pg_name (i := 6) scCntL.nd rfl (Or.inl rfl)) (fun _ _ _ _ _ => pts_one (pt_cmp (pc_notN (pv 6)))) (fun _ _ _ _ _ => (pe_ix (r := rIxL K) ix_list (pv 2) (pv 6) (fun _ _ => rfl)))) pa_nil))))))))
      (pss_one (ps_ret (pv 3))))), ?_⟩
    obtain ⟨m, pr, pe, rvs, rfl, _, MM⟩ := dt_mach hx
    have l4 := M.l400
    have L3 := M.L3
    have l1 := M.l1
    have el := M.es
    refine ⟨_, rfl, m, _, 2, .ref pe, rfl, rfl, .inl MM.hm, atI_nat (j := 2) rfl, pe, rfl, ⟨_, .inl MM.he⟩, fun D hD => ?_⟩
    refine lc_tup (K := K) (a := pe) (xs := es.map V.bl) (NInv (fun b : Bool => V.int (intOf b)) es H D) (nstart hD) (fun i H' _ p => .inl (same_rd p.1 MM.he)) ?_ ?_
    · rintro j z H3 hz p3
      rw [List.getElem?_map] at hz
      obtain ⟨b, hb, rfl⟩ := Option.map_eq_some_iff.mp hz
      refine ⟨rfl, _, rfl, .inr ⟨b, rfl, ?_⟩⟩
      have e : (if b then (1 : Int) else 0) = intOf b := by cases b <;> rfl
      rw [e]
      exact nturn (f := fun b : Bool => V.int (intOf b)) (small9 (by omega)) hD hb p3 (Same.refl _)
    · rintro H1 p1
      obtain ⟨s1, hl1⟩ := nend (List.length_map _) p1
      refine ⟨by show 0 ≤ sizeLine; decide, fun fl H2 s2 fl0 nfl hfl => ?_⟩
      have nDf : D ≠ fl := fun z => by rw [← z, hl1] at fl0; cases fl0
      refine ⟨by show 2 ≤ sizeLine; decide, fun t0 nt0 => ?_⟩
      have st := same_new (o := .tup [.ref D, .ref fl]) nt0
      have hfl := st _ _ hfl
      have hl1 := st _ _ (s2 _ _ hl1)
      refine ⟨t0, _, rfl, SqT.of upd_same, rfl, _, _, rfl, _, _, rfl, rfl, ?_⟩
      have s12 := (s1.trans s2).trans st
      have f0 : H fl = none := s1.free fl0
      generalize upd H2 t0 (.tup [.ref D, .ref fl]) = G1 at *
      refine ⟨_, rfl, (n : Int), rfl, by omega, by omega, ?_⟩
      refine for_range (lo := 0) (n := (n : Int).toNat) (fun a σ H' => (∃ (rp : Addr) (y4 y5 y6 y7 : Option V), σ = [some (.ref m), some (.int (n : Int)), some (.ref rp), some (.ref fl), y4, y5, y6, y7] ∧ H' rp = some (.lst ((cntV rs es a).map V.int)) ∧ rp ≠ fl) ∧ Same H H' ∧ H' fl = some (.lst ((List.range a).map fun k => V.int ((cntP L (fun w => acc rs es w 0) k : Nat) : Int))))
        ⟨⟨D, _, _, _, _, rfl, by rw [show (cntV rs es 0).map V.int = es.map fun b => V.int (intOf b) from List.map_map]; exact hl1, nDf⟩, s12, hfl⟩ ?_ ?_
      · rintro a σ H3 ha ⟨⟨rp, y4, y5, y6, y7, rfl, hrp, rne⟩, sm, hf⟩
        have cl := cntV_len M a
        have c0 := cntV_at M a 0 l1
        refine ⟨_, rfl, .inl ⟨rfl, _, SqL.of hf⟩, _, rfl, rp, _, 0, V.int ((cntP L (fun w => acc rs es w 0) a : Nat) : Int), rfl, rfl, SqL.of hrp, atI_nat (j := 0) (by rw [List.getElem?_map, c0]; rfl), fl, _, _, rfl, rfl, hf, small9 (by rw [List.length_map, List.length_range]; omega), ?_⟩
        have w7 : ∀ {b : Addr} {o : HO}, b ≠ fl → H3 b = some o → (upd H3 fl (.lst (((List.range a).map fun k => V.int ((cntP L (fun w => acc rs es w 0) k : Nat) : Int)) ++ [V.int ((cntP L (fun w => acc rs es w 0) a : Nat) : Int)]))) b = some o := fun nb e => by rw [upd_ne nb]; exact e
        have sm7 : Same H (upd H3 fl (.lst (((List.range a).map fun k => V.int ((cntP L (fun w => acc rs es w 0) k : Nat) : Int)) ++ [V.int ((cntP L (fun w => acc rs es w 0) a : Nat) : Int)]))) := fun b o e => w7 (ne_of_none e f0) (sm _ _ e)
        have hr7 := w7 rne hrp
        have hn7 : (upd H3 fl (.lst (((List.range a).map fun k => V.int ((cntP L (fun w => acc rs es w 0) k : Nat) : Int)) ++ [V.int ((cntP L (fun w => acc rs es w 0) a : Nat) : Int)]))) fl = some (.lst ((List.range (a + 1)).map fun k => V.int ((cntP L (fun w => acc rs es w 0) k : Nat) : Int))) := by
          rw [upd_same, List.range_succ, List.map_append]
          rfl
        generalize upd H3 fl (.lst (((List.range a).map fun k => V.int ((cntP L (fun w => acc rs es w 0) k : Nat) : Int)) ++ [V.int ((cntP L (fun w => acc rs es w 0) a : Nat) : Int)])) = G7 at *
        have MM7 := MM.same sm7
        refine ⟨_, rfl, m, _, 1, .ref pr, rfl, rfl, .inl MM7.hm, atI_nat (j := 1) rfl, pr, rfl, ⟨_, .inl MM7.hr⟩, fun D2 hD2 => ?_⟩
        have rl7 := MM7.hl
        have step : cntV rs es (a + 1) = rs.map fun row => ((row.filter Option.isSome).map fun o => (cntV rs es a).getD (o.getD 0) 0).sum := rfl
        refine lc_tup (K := K) (a := pr) (xs := rvs) (fun i H' => Same G7 H' ∧ H' D2 = some (.lst (((cntV rs es (a + 1)).take i).map V.int))) ⟨same_new hD2, upd_same⟩ (fun i H' _ p => .inl (same_rd p.1 MM7.hr)) ?_ ?_
        · rintro i x H4 hx ⟨sm4, hl4⟩
          have il : i < rs.length := by
            have := (List.getElem?_eq_some_iff.mp hx).1
            omega
          have hrow : rs[i]? = some rs[i] := List.getElem?_eq_getElem il
          have hmr := List.getElem_mem il
          obtain ⟨q, hq1, hq2⟩ := MM7.row i _ hrow
          rw [hx] at hq1
          cases hq1
          have hq4 := same_rd sm4 hq2
          have hrl := M.row _ hmr
          have htg := M.tgt _ hmr
          have e1 : (cntV rs es (a + 1))[i]? = some (((rs[i].filter Option.isSome).map fun o => (cntV rs es a).getD (o.getD 0) 0).sum) := by
            rw [step, List.getElem?_map, hrow]
            rfl
          generalize rs[i] = row at *
          refine ⟨rfl, _, rfl, q, rfl, ⟨_, .inl hq4⟩, fun D3 hD3 => ?_⟩
          refine lc_tup (K := K) (a := q) (xs := row.map oV) (KInv Option.isSome (fun o : Option Nat => V.int ((cntV rs es a).getD (o.getD 0) 0)) row H4 D3) (kstart hD3) (fun i H' _ p => .inl (same_rd p.1 hq4)) ?_ ?_
          · rintro j z H5 hz p5
            rw [List.getElem?_map] at hz
            obtain ⟨o, ho, rfl⟩ := Option.map_eq_some_iff.mp hz
            refine ⟨rfl, _, rfl, _, rfl, ?_⟩
            cases o with
            | none => exact kno (t := Option.isSome) (f := fun o : Option Nat => V.int ((cntV rs es a).getD (o.getD 0) 0)) ho rfl p5 (Same.refl _)
            | some t =>
              have ht := htg t (List.mem_of_getElem? ho)
              have ct := cntV_at M a t ht
              refine ⟨_, rfl, _, rfl, rp, _, (t : Int), V.int ((cntV rs es a).getD t 0), rfl, rfl, SqL.of (p5.1 _ _ (sm4 _ _ hr7)), atI_nat (by rw [List.getElem?_map, List.getD_eq_getElem?_getD, ct]; rfl), ?_⟩
              exact kyes (t := Option.isSome) (f := fun o : Option Nat => V.int ((cntV rs es a).getD (o.getD 0) 0)) (small9 (by omega)) hD3 ho rfl p5 (Same.refl _)
          · rintro H5 p5
            obtain ⟨s5, hl5⟩ := kend (List.length_map _) p5
            have hl5 : H5 D3 = some (.lst (((row.filter Option.isSome).map fun o => (cntV rs es a).getD (o.getD 0) 0).map V.int)) := by
              rw [hl5, List.map_map]
              rfl
            refine ⟨D3, _, rfl, SqL.of hl5, ?_⟩
            have hl6 := s5 _ _ hl4
            have n2 : (cntV rs es (a + 1)).length = rs.length := cntV_len M (a + 1)
            refine ⟨_, hl6, small9 (by rw [List.length_map, List.length_take]; omega), fun b o e => ?_, ?_⟩
            · rw [upd_ne (ne_of_none e hD2)]
              exact s5 _ _ (sm4 _ _ e)
            · rw [upd_same, List.take_add_one, e1, List.map_append]
              rfl
        · rintro H4 ⟨sm4, hl4⟩
          have n2 : (cntV rs es (a + 1)).length = rs.length := cntV_len M (a + 1)
          rw [List.take_of_length_le (by omega)] at hl4
          refine ⟨⟨D2, _, _, _, _, rfl, hl4, fun z => by rw [z, hn7] at hD2; cases hD2⟩, sm7.trans sm4, sm4 _ _ hn7⟩
      · rintro σ H3 ⟨⟨rp, y4, y5, y6, y7, rfl, hrp, rne⟩, sm, hf⟩
        rw [Int.toNat_natCast] at hf
        exact ⟨_, rfl, k H3 fl sm f0 hf⟩
end
section
variable {X : Cx}
theorem op_eqNilL (hu : X.A.units < cLine) : OpR X (compareOp .Eq) (rNilL X.K id) := by
  intro pins s σ H x y v u Q I rx ry h
  obtain ⟨l, b, xs, rfl, rfl, hl, hb, q⟩ := h
  cases rx
  cases ry
  obtain ⟨its, rv, pl, _⟩ := I.list hl
  obtain ⟨its2, rv2, pl2, _⟩ := I.list hb
  cases rv2
  have hn := rv.length
  cases xs with
  | nil =>
    cases rv
    exact SeqAt.eq_listAt (e := fun _ => true) pl.isList pl2.isList rfl hu (fun j h1 _ => absurd h1 (Nat.not_lt_zero _)) ⟨.bl _, H, I, rfl, q⟩
  | cons z zs =>
    refine SeqAt.eq_list_lengthsAt pl.isList pl2.isList ?_ hu ⟨.bl _, H, I, rfl, q⟩
    rw [List.size_toArray, ← hn]
    rfl
end
theorem atI_neg1 {α : Type} {xs : List α} {v : α} (h : xs[xs.length - 1]? = some v) (hp : 1 ≤ xs.length) : atI xs (-1) = some v := by
  have e : ixN xs.length (-1) = some (xs.length - 1) := by
    unfold ixN
    rw [if_neg (by decide), if_pos (by omega)]
    congr 1
    omega
  unfold atI
  rw [e]
  exact h
theorem inV_oV {l : List Nat} {o : Option Nat} : inV (oV o) (l.map natV) = inO l o := by
  cases o with
  | none =>
    show inV .non (l.map natV) = false
    unfold inV
    rw [List.any_eq_false]
    intro x hx
    obtain ⟨u, _, rfl⟩ := List.mem_map.mp hx
    exact fun z => nomatch z
  | some t => exact notIn_nat
/-! ### whether there is an end, by the law -/
def inF (us fs : List Nat) (o : Option Nat) : Bool := inO us o && !inO fs o
theorem flat_nats (us : List Nat) : (us.map natV).all flatV = true := by
  rw [List.all_map]
  exact List.all_eq_true.mpr fun x _ => rfl
theorem flat_oV (o : Option Nat) : flatV (oV o) = true := by cases o <;> rfl
section
variable {P : Program} {w : World} {K : PySem.W.Frag} {mg : Str → Option Value} {base : Heap}
theorem scFin : FnScope ["_law_machine_here", "_law_states", "_law_waiting", "_law_state", "_law_turn", "_law_further", "_law_item"] ["_law_machine_here"] (defScope sFin) := ⟨rfl, rfl, rfl, by decide +kernel, rfl, by decide +kernel, by decide +kernel⟩
def spFin (K : PySem.W.Frag) : Sp := fun vs H Q _ => ∃ (L : Nat) (rs : Rows) (es : List Bool) (x : V) (B : Addr → Prop), vs = [x] ∧ Dt B K H x (machDt L rs es) ∧ MOk L rs es ∧ rs.length ≤ 6 ∧
  ∀ (H' : Hp) (b : Bool), Same H H' → (b = true ↔ ¬ ∃ w, rs.length ≤ w.length ∧ acc rs es w 0 = true) → Q (.bl b) H'
theorem ok_fin {f fUS : Addr} {fd fdUS : FuncData} (F : Fun K "_law_is_finite" "_law_is_finite" sFin f fd)
    (US : FnOk P w K mg base CX0 2 fUS fdUS ["_law_machine_here"] (spUsef K)) (FUS : Fun K "_law_useful" "_law_useful" sUsef fUS fdUS) (bUS : Binds K fdUS ["_law_machine_here"] []) (gUS : mg "_law_useful" = some (.ref fUS)) (T : Mg mg) : FnOk P w K mg base CX0 3 f fd ["_law_machine_here"] (spFin K) := by
  refine F.ok scFin (fun vs H Q E h => ?_) (fun cdv A outer s H vs Q E hr h => ?_)
  · obtain ⟨L, rs, es, x, B, rfl, _⟩ := h
    rfl
  · obtain ⟨L, rs, es, x, B, rfl, hx, M, n6, k⟩ := h
    have hu0 := hr.units0
    have hu1 := hu_of hr
    refine ⟨_, (pss_cons (ps_set (i := 1) scFin.nd rfl (.inr rfl) (pe_call US (hr.mono (by decide)) (by rfl) gUS FUS.kp bUS .nil pass0 (pa_cons (pv 0) pa_nil)))
      (pss_cons (ps_set (i := 2) scFin.nd rfl (.inl rfl) (pe_lstA (pa_cons (pe_lc (own := [("_law_state", 3)]) (g := gName 3) rfl scFin.nd (pi_list (pv 1)) (blkOk_by (N := ["_law_machine_here", "_law_states", "_law_waiting", "_law_state", "_law_turn", "_law_further", "_law_item"]) (sc := defScope sFin) (by decide +kernel)) (fun _ _ _ _ _ => pg_name (i := 3) scFin.nd rfl (Or.inl rfl)) (fun _ _ _ _ _ => pts_one (pt_cmpR op_eq (pv 3) pe_int (nomark _))) (fun _ _ _ _ _ => (pv 3))) pa_nil)))
      (pss_cons (ps_for PassesOwn.never rfl (pi_range1 (by rfl) T.range (pa_cons (pe_callB (r := rLen K) call_len_seq (by rfl) T.len PySem.boot_len (pa_cons (pe_ix (r := rIxT K) ix_tup (pv 0) pe_int (fun _ _ => rfl)) pa_nil)) pa_nil)) (pg_name (i := 4) scFin.nd rfl (.inl rfl)) (pss_cons (ps_set (i := 5) scFin.nd rfl (.inr rfl) (pe_lstA pa_nil))
      (pss_cons (ps_for PassesOwn.never rfl (pi_list (pe_ix (r := rIxL K) ix_list (pv 2) (pe_un un_neg pe_int) (fun _ _ => rfl))) (pg_name (i := 3) scFin.nd rfl (.inl rfl)) (pss_one (ps_expr (pe_bm PySem.F.plainAttrs_list PySem.F.slot_list_extend PySem.F.type_list_extend mt_extend (pv 5) (pa_cons (pe_lc (own := [("_law_item", 6)]) (g := gName 6) rfl scFin.nd (pi_tup (pe_ix (r := rIxT K) ix_tup (pe_ix (r := rIxT K) ix_tup (pv 0) pe_int (fun _ _ => rfl)) (pv 3) (fun _ _ => rfl))) (blkOk_by (N := ["_law_machine_here", "_law_states", "_law_waiting", "_law_state", "_law_turn", "_law_further", "_law_item"]) (sc := defScope sFin) (by decide +kernel)) (fun _ _ _ _ _ => pg_name (i := 6) scFin.nd rfl (Or.inl rfl)) (fun _ _ _ _ _ => pts_one (PW.pt (pw_and (pt_cmpR (r := rIn K false) op_in_seq (pv 6) (pv 1) (by rfl)) (pw_and1 (pt_cmpR (r := rIn K true) op_notIn_seq (pv 6) (pv 5) (by rfl)))))) (fun _ _ _ _ _ => (pv 6))) pa_nil)))))
      (pss_one (ps_expr (pe_bm PySem.F.plainAttrs_list PySem.F.slot_list_append PySem.F.type_list_append mt_append (pv 2) (pa_cons (pv 5) pa_nil)))))))
      (pss_one (ps_ret (pe_cmpR (op_eqNilL hu0) (pe_ix (r := rIxL K) ix_list (pv 2) (pe_un un_neg pe_int) (fun _ _ => rfl)) (pe_lstA pa_nil) (nomark _))))))), ?_⟩
    obtain ⟨m, pr, pe, rvs, rfl, _, MM⟩ := dt_mach hx
    have L3 := M.L3
    have l1 := M.l1
    refine ⟨_, rfl, L, rs, es, .ref m, B, rfl, hx, M, fun H1 U us s1 U0 hU uiff ul => ?_⟩
    refine ⟨_, rfl, U, rfl, ⟨_, SqL.of hU⟩, fun D hD => ?_⟩
    refine lc_list (K := K) (a := U) (xs := us.map natV) (KInv (fun s : Nat => decide (s = 0)) natV us H1 D) (kstart hD) (fun i H' _ p => SqL.of (p.1 _ _ hU)) ?_ ?_
    · rintro i x H2 hx p1
      rw [List.getElem?_map] at hx
      obtain ⟨t, ht, rfl⟩ := Option.map_eq_some_iff.mp hx
      refine ⟨rfl, _, rfl, rfl, _, rfl, ?_⟩
      by_cases hin : t = 0
      · subst hin
        exact ⟨_, rfl, kyes (t := fun s : Nat => decide (s = 0)) (small9 (by omega)) hD ht (decide_eq_true rfl) p1 (Same.refl _)⟩
      · have e : decide (natV t = V.int 0) = false := decide_eq_false fun z => hin (by have := V.int.inj z; omega)
        rw [e]
        exact kno (t := fun s : Nat => decide (s = 0)) ht (decide_eq_false hin) p1 (Same.refl _)
    · rintro H2 p1
      obtain ⟨s2, hl2⟩ := kend (List.length_map _) p1
      obtain ⟨x0, hx0⟩ : ∃ x0, x0 = us.filter fun s : Nat => decide (s = 0) := ⟨_, rfl⟩
      rw [← hx0] at hl2
      have w0 : ∀ t, t ∈ x0 ↔ WayTo rs es 0 t := fun t => by
        rw [hx0, List.mem_filter, uiff, decide_eq_true_iff, way_zero]
        exact ⟨fun ⟨⟨a, b⟩, c⟩ => ⟨c, by rw [← c]; exact b⟩, fun ⟨a, b⟩ => ⟨⟨by rw [a]; exact .z, by rw [a]; exact b⟩, a⟩⟩
      have l0 : x0.length ≤ 6 := by
        rw [hx0]
        exact Nat.le_trans (List.length_filter_le _ _) (Nat.le_trans ul n6)
      clear hx0 p1
      refine ⟨by show 1 ≤ sizeLine; decide, fun W H3 s3 W0 nW hW => ?_⟩
      have hl3 := s3 _ _ hl2
      have s13 := (s1.trans s2).trans s3
      have W0H : H W = none := (s1.trans s2).free W0
      have nWU : U ≠ W := fun z => by rw [← z, s2 _ _ hU] at W0; cases W0
      have hU3 := s3 _ _ (s2 _ _ hU)
      have MM3 := MM.same s13
      refine ⟨_, rfl, m, _, 1, .ref pr, rfl, rfl, .inl MM3.hm, atI_nat (j := 1) rfl, pr, rvs, rfl, .inr (.inl MM3.hr), (rvs.length : Int), rfl, by rw [MM.hl]; omega, by rw [MM.hl]; omega, ?_⟩
      refine for_range (lo := 0) (n := (rvs.length : Int).toNat) (fun k σ H' => (∃ (y3 y4 y5 y6 : Option V), σ = [some (.ref m), some (.ref U), some (.ref W), y3, y4, y5, y6]) ∧ Same H H' ∧ H' U = some (.lst (us.map natV)) ∧
          ∃ (as : List Addr) (a : Addr) (xs : List Nat), H' W = some (.lst (as.map V.ref)) ∧ as.length = k + 1 ∧ as[k]? = some a ∧ a ≠ W ∧ H' a = some (.lst (xs.map natV)) ∧ (∀ t, t ∈ xs ↔ WayTo rs es k t) ∧ xs.length ≤ 6 * 3 ^ k)
        ⟨⟨_, _, _, _, rfl⟩, s13, hU3, [D], D, x0, hW, rfl, rfl, (fun z => by rw [← z, hl2] at W0; cases W0), hl3, w0, l0⟩ ?_ ?_
      · rintro k σ H4 hk ⟨⟨y3, y4, y5, y6, rfl⟩, sm, hU4, as, a, xs, hW4, al, ha, naW, ha4, wx, xl⟩
        have kn : k < 6 := by rw [MM.hl] at hk; omega
        have kn2 : k < rs.length := by rw [MM.hl] at hk; omega
        have xl2 : xs.length ≤ 6 * 3 ^ 5 := Nat.le_trans xl (Nat.mul_le_mul_left 6 (Nat.pow_le_pow_right (by decide) (by omega)))
        have xl3 : xs.length ≤ 1458 := xl2
        refine ⟨by show 0 ≤ sizeLine; decide, fun F0 H5 s5 F00 nF hF => ?_⟩
        have hW5 := s5 _ _ hW4
        have hU5 := s5 _ _ hU4
        have ha5 := s5 _ _ ha4
        have sm5 := sm.trans s5
        have F0H : H F0 = none := sm.free F00
        have nFU : U ≠ F0 := fun z => by rw [← z, hU4] at F00; cases F00
        have nFW : W ≠ F0 := fun z => by rw [← z, hW4] at F00; cases F00
        have nFa : a ≠ F0 := fun z => by rw [← z, ha4] at F00; cases F00
        refine ⟨_, rfl, _, rfl, W, _, _, .ref a, rfl, rfl, SqL.of hW5, atI_neg1 (by rw [List.length_map, al, Nat.add_sub_cancel, List.getElem?_map, ha]; rfl) (by rw [List.length_map]; omega), a, rfl, ⟨_, SqL.of ha5⟩, ?_⟩
        have MM5 := MM.same sm5
        refine for_list (K := K) (a := a) (xs := xs.map natV) (fun i σ H' => (∃ (y3 y6 : Option V), σ = [some (.ref m), some (.ref U), some (.ref W), y3, some (.int (0 + (k : Int))), some (.ref F0), y6]) ∧ (∀ b o, b ≠ F0 → H5 b = some o → H' b = some o) ∧
            ∃ fs : List Nat, H' F0 = some (.lst (fs.map natV)) ∧ (∀ t, t ∈ fs ↔ ∃ s ∈ xs.take i, ∃ c, nx rs s c = some t ∧ t ∈ us) ∧ fs.length ≤ 3 * i)
          ⟨⟨_, _, rfl⟩, fun b o _ e => e, [], hF, fun t => ⟨fun z => absurd z List.not_mem_nil, fun ⟨s, hs, _⟩ => absurd hs List.not_mem_nil⟩, Nat.le_refl _⟩ (fun i σ H' _ p => SqL.of (p.2.1 _ _ nFa ha5)) ?_ ?_
        · rintro i x σ H6 hx ⟨⟨y3, y6, rfl⟩, ke, fs, hf6, fiff, fl⟩
          rw [List.getElem?_map] at hx
          obtain ⟨s, hs, rfl⟩ := Option.map_eq_some_iff.mp hx
          have il := (List.getElem?_eq_some_iff.mp hs).1
          have hsm := List.mem_of_getElem? hs
          have wy := (wx s).mp hsm
          have hsn : s < rs.length := M.reach_lt s (way_reach wy).1
          obtain ⟨row, hrow⟩ : ∃ row, rs[s]? = some row := ⟨_, List.getElem?_eq_getElem hsn⟩
          have hrl := M.row row (List.mem_of_getElem? hrow)
          have s56 : Same H H6 := fun b o e => ke b o (ne_of_none e F0H) (sm5 _ _ e)
          have MM6 := MM.same s56
          have hU6 := ke U _ nFU hU5
          obtain ⟨q, hq1, hq2⟩ := MM6.row s row hrow
          refine ⟨_, rfl, .inl ⟨rfl, _, SqL.of hf6⟩, ?_⟩
          refine ⟨_, rfl, m, _, 1, .ref pr, rfl, rfl, .inl MM6.hm, atI_nat (j := 1) rfl, _, rfl, pr, _, (s : Int), _, rfl, rfl, .inl MM6.hr, atI_nat hq1, q, rfl, ⟨_, .inl hq2⟩, fun D2 hD2 => ?_⟩
          refine lc_tup (K := K) (a := q) (xs := row.map oV) (KInv (inF us fs) oV row H6 D2) (kstart hD2) (fun i H' _ p => .inl (same_rd p.1 hq2)) ?_ ?_
          · rintro j z H7 hz p1
            rw [List.getElem?_map] at hz
            obtain ⟨o, ho, rfl⟩ := Option.map_eq_some_iff.mp hz
            have hU7 := p1.1 _ _ hU6
            have hf7 := p1.1 _ _ hf6
            refine ⟨rfl, _, rfl, _, rfl, U, _, rfl, .inl (SqL.of hU7), flat_oV o, flat_nats us, _, rfl, ?_⟩
            rw [show (if false = true then !inV (oV o) (us.map natV) else inV (oV o) (us.map natV)) = inO us o from inV_oV]
            cases h1 : inO us o with
            | false =>
              exact kno (t := inF us fs) ho (by unfold inF; rw [h1]; rfl) p1 (Same.refl _)
            | true =>
              refine ⟨_, rfl, _, rfl, F0, _, rfl, .inl (SqL.of hf7), flat_oV o, flat_nats fs, _, rfl, ?_⟩
              rw [show (if true = true then !inV (oV o) (fs.map natV) else inV (oV o) (fs.map natV)) = !inO fs o from congrArg (!·) inV_oV]
              cases h2 : inO fs o with
              | true => exact kno (t := inF us fs) ho (by unfold inF; rw [h1, h2]; rfl) p1 (Same.refl _)
              | false => exact ⟨_, rfl, kyes (t := inF us fs) (small9 (by omega)) hD2 ho (by unfold inF; rw [h1, h2]; rfl) p1 (Same.refl _)⟩
          · rintro H7 p1
            obtain ⟨s7, hl7⟩ := kend (List.length_map _) p1
            obtain ⟨zs, hzs⟩ : ∃ zs : List Nat, zs = (row.filter (inF us fs)).filterMap id := ⟨_, rfl⟩
            have ez : (row.filter (inF us fs)).map oV = zs.map natV := by
              rw [hzs]
              have : ∀ r : List (Option Nat), (r.filter (inF us fs)).map oV = ((r.filter (inF us fs)).filterMap id).map natV := fun r => by
                induction r with
                | nil => rfl
                | cons o r ih =>
                  rw [List.filter_cons]
                  cases h : inF us fs o with
                  | false => exact ih
                  | true =>
                    cases o with
                    | none => cases h
                    | some t =>
                      show oV (some t) :: _ = natV t :: _
                      rw [ih]
                      rfl
              exact this row
            have zm : ∀ t, t ∈ zs ↔ some t ∈ row ∧ t ∈ us ∧ t ∉ fs := fun t => by
              rw [hzs, List.mem_filterMap]
              constructor
              · rintro ⟨o, ho, e⟩
                have e : o = some t := e
                subst e
                obtain ⟨h1, h2⟩ := List.mem_filter.mp ho
                obtain ⟨h3, h4⟩ := Bool.and_eq_true_iff.mp h2
                refine ⟨h1, of_decide_eq_true h3, fun z => ?_⟩
                rw [show inO fs (some t) = true from decide_eq_true z] at h4
                cases h4
              · rintro ⟨h1, h2, h3⟩
                refine ⟨some t, List.mem_filter.mpr ⟨h1, ?_⟩, rfl⟩
                unfold inF
                rw [show inO us (some t) = true from decide_eq_true h2, show inO fs (some t) = false from decide_eq_false h3]
                rfl
            have zl : zs.length ≤ 3 := by
              have h1 : zs.length ≤ row.length := by
                rw [hzs]
                exact Nat.le_trans (List.length_filterMap_le _ _) (List.length_filter_le _ _)
              omega
            rw [ez] at hl7
            clear hzs ez p1
            have hf7 := s7 _ _ hf6
            refine ⟨F0, D2, _, _, rfl, rfl, hf7, hl7, by rw [List.length_map, List.length_map]; exact Nat.le_of_lt (small9 (by omega)), ?_⟩
            refine ⟨⟨_, _, rfl⟩, fun b o nb e => by rw [upd_ne nb]; exact s7 _ _ (ke b o nb e), fs ++ zs, by rw [upd_same, List.map_append], fun t => ?_, by rw [List.length_append]; omega⟩
            rw [List.mem_append, fiff, zm, List.take_add_one, hs]
            have hnx : ∀ t, (∃ c, nx rs s c = some t) ↔ some t ∈ row := fun t => by
              constructor
              · rintro ⟨c, e⟩
                unfold nx at e
                rw [List.getD_eq_getElem?_getD, List.getD_eq_getElem?_getD, hrow] at e
                have e : (row[c]?).getD none = some t := e
                cases y : row[c]? with
                | none => rw [y] at e; cases e
                | some x =>
                  rw [y] at e
                  have e : x = some t := e
                  rw [← e]
                  exact List.mem_of_getElem? y
              · intro h
                obtain ⟨c, hc⟩ := List.mem_iff_getElem?.mp h
                exact ⟨c, nx_row hrow hc⟩
            constructor
            · rintro (⟨s', h1, c, h2, h3⟩ | ⟨h1, h2, h3⟩)
              · exact ⟨s', List.mem_append_left _ h1, c, h2, h3⟩
              · obtain ⟨c, hc⟩ := (hnx t).mpr h1
                exact ⟨s, List.mem_append_right _ (List.mem_singleton.mpr rfl), c, hc, h2⟩
            · rintro ⟨s', h1, c, h2, h3⟩
              rcases List.mem_append.mp h1 with h1 | h1
              · exact .inl ⟨s', h1, c, h2, h3⟩
              · have h1 : s' ∈ [s] := h1
                rw [List.mem_singleton.mp h1] at h2
                by_cases z : t ∈ fs
                · exact .inl ((fiff t).mp z)
                · exact .inr ⟨(hnx t).mp ⟨c, h2⟩, h3, z⟩
        · rintro σ H6 ⟨⟨y3, y6, rfl⟩, ke, fs, hf6, fiff, fl⟩
          rw [List.length_map] at fiff fl
          rw [List.take_length] at fiff
          have hW6 := ke W _ nFW hW5
          have s56 : Same H H6 := fun b o e => ke b o (ne_of_none e F0H) (sm5 _ _ e)
          refine ⟨_, rfl, .inl ⟨rfl, _, SqL.of hW6⟩, _, rfl, W, _, _, rfl, rfl, hW6, small9 (by rw [List.length_map]; omega), ?_⟩
          have up : ∀ {b : Addr} {o : HO}, b ≠ W → H6 b = some o → (upd H6 W (.lst (as.map V.ref ++ [V.ref F0]))) b = some o := fun nb e => by rw [upd_ne nb]; exact e
          refine ⟨⟨_, _, _, _, rfl⟩, fun b o e => up (ne_of_none e W0H) (s56 _ _ e), up nWU (ke U _ nFU hU5), as ++ [F0], F0, fs, by rw [upd_same, List.map_append]; rfl, by rw [List.length_append, al]; rfl, by rw [List.getElem?_append_right (by omega), al, Nat.sub_self]; rfl, nFW.symm, up nFW.symm hf6, fun t => ?_, ?_⟩
          · rw [fiff, way_succ]
            constructor
            · rintro ⟨s, h1, c, h2, h3⟩
              exact ⟨s, c, (wx s).mp h1, h2, ((uiff t).mp h3).2⟩
            · rintro ⟨s, c, h1, h2, h3⟩
              exact ⟨s, (wx s).mpr h1, c, h2, (uiff t).mpr ⟨reach_nx (way_reach h1).1 h2, h3⟩⟩
          · rw [Nat.pow_succ]
            omega
      · rintro σ H4 ⟨⟨y3, y4, y5, y6, rfl⟩, sm, hU4, as, a, xs, hW4, al, ha, naW, ha4, wx, xl⟩
        rw [Int.toNat_natCast, MM.hl] at al ha wx xl
        refine ⟨_, rfl, _, rfl, W, _, _, .ref a, rfl, rfl, SqL.of hW4, atI_neg1 (by rw [List.length_map, al, Nat.add_sub_cancel, List.getElem?_map, ha]; rfl) (by rw [List.length_map]; omega), ?_⟩
        refine ⟨by show 0 ≤ sizeLine; decide, fun e0 H5 s5 e00 ne0 he0 => ?_⟩
        refine ⟨a, e0, _, rfl, rfl, SqL.of (s5 _ _ ha4), SqL.of he0, ?_⟩
        refine k H5 _ (sm.trans s5) ?_
        rw [← way_words]
        show decide (xs.map natV = []) = true ↔ _
        rw [decide_eq_true_iff, List.map_eq_nil_iff]
        constructor
        · rintro rfl ⟨t, ht⟩
          exact absurd ((wx t).mpr ht) List.not_mem_nil
        · intro h
          cases xs with
          | nil => rfl
          | cons t ts => exact absurd ⟨t, (wx t).mp List.mem_cons_self⟩ h
end
/-! ### list.remove of a list that equals -/
section
open L2
variable {X : Cx}
def rRemP (K : PySem.W.Frag) : V → List V → Hp → VK → Prop := fun x xs H Q => ∃ (l : Addr) (vs : List V) (y : V) (d : PyData) (ds : List PyData) (j : Nat), x = .ref l ∧ xs = [y] ∧ H l = some (.lst vs) ∧ DpAll K H vs ds ∧ Dp K H y d ∧ PyData.plainAll ds = true ∧ d.plain = true ∧
  d.depth ≤ 60 ∧ SeqAt.dataPlace ds d = some j ∧ vs.length ≤ sizeLine ∧ Q .non (upd H l (.lst (vs.eraseIdx j)))
theorem mt_removeP (hu : X.A.units + 65 < cLine) : MtM X "list.remove" (rRemP X.K) := by
  intro pins s σ H x xs v us Q I rx rxs h
  obtain ⟨l, vs, y, d, ds, j, rfl, rfl, hH, ha, hy, hp, hdp, hdd, hj, hz, q⟩ := h
  cases rx
  obtain ⟨u, rfl, ru⟩ := rxs.one
  obtain ⟨z, its, n, r, hlen, e⟩ := I.lstM hH
  obtain ⟨as, r2⟩ := Dp.readsAll I ds _ _ ha r
  obtain ⟨bs, r1⟩ := Dp.reads I d y u hy ru
  refine SeqAt.remove_list_data (vs := its.toArray) (j := j) (xs := ds) (d := d) ⟨_, e, rfl, n, rfl⟩ (by simpa using r2) r1 hp hdp (by omega) hj ?_ ?_
  · rw [List.size_toArray]
    omega
  · have rr := r.eraseIdx j
    refine ⟨.non, _, I.lset (its' := its.eraseIdx j) (t' := s.toks) hH e ?_ rr ?_, rfl, q⟩
    · show its.toArray.eraseIdxIfInBounds j = (its.eraseIdx j).toArray
      rw [List.eraseIdxIfInBounds_toArray]
    · rw [List.length_eraseIdx]
      split <;> omega
end
/-! ### ranks of rows -/
/-- combinations over the fractions, as far as columns below m tell -/
inductive Spn (m : Nat) (S : (Nat → Int) → Prop) : (Nat → Int) → Prop
  | mem {v : Nat → Int} (h : S v) : Spn m S v
  | zero : Spn m S fun _ => 0
  | add {v u : Nat → Int} (h : Spn m S v) (h' : Spn m S u) : Spn m S fun k => v k + u k
  | smul (c : Int) {v : Nat → Int} (h : Spn m S v) : Spn m S fun k => c * v k
  | div {c : Int} (hc : c ≠ 0) {v : Nat → Int} (h : Spn m S fun k => c * v k) : Spn m S v
  | cong {v u : Nat → Int} (h : Spn m S v) (e : ∀ k, k < m → v k = u k) : Spn m S u
theorem Spn.trans {m : Nat} {S T : (Nat → Int) → Prop} {v : Nat → Int} (h : Spn m S v) (hS : ∀ u, S u → Spn m T u) : Spn m T v := by
  induction h with
  | mem h => exact hS _ h
  | zero => exact .zero
  | add _ _ a b => exact .add a b
  | smul c _ a => exact .smul c a
  | div hc _ a => exact .div hc a
  | cong _ e a => exact .cong a e
theorem Spn.null {m c : Nat} {S : (Nat → Int) → Prop} {v : Nat → Int} (h : Spn m S v) (hc : c < m) (hS : ∀ u, S u → u c = 0) : v c = 0 := by
  induction h with
  | mem h => exact hS _ h
  | zero => rfl
  | add _ _ a b => show _ + _ = _; rw [a, b]; rfl
  | smul c _ a => show _ * _ = _; rw [a, Int.mul_zero]
  | div hc _ a => exact (Int.mul_eq_zero.mp a).resolve_left hc
  | cong _ e a => rw [← e c hc]; exact a
/-- no combination of the first r of these is nothing but the empty one -/
def Ind (m r : Nat) (f : Nat → Nat → Int) : Prop := ∀ a : Nat → Int, (∀ k, k < m → sumR (fun i => a i * f i k) r = 0) → ∀ i, i < r → a i = 0
def Of (r : Nat) (f : Nat → Nat → Int) (v : Nat → Int) : Prop := ∃ i, i < r ∧ v = f i
theorem sumR_one {f : Nat → Int} {i : Nat} : ∀ (n : Nat), i < n → (∀ k, k < n → k ≠ i → f k = 0) → sumR f n = f i
  | 0, h, _ => absurd h (Nat.not_lt_zero _)
  | n + 1, h, z => by
    show sumR f n + f n = f i
    rcases Nat.lt_or_ge i n with l | l
    · rw [sumR_one n l fun k hk => z k (by omega), z n (by omega) (by omega), Int.add_zero]
    · have e : i = n := by omega
      subst e
      rw [sumR_zero i fun k hk => z k (by omega) (by omega), Int.zero_add]
theorem Spn.coef {m r : Nat} {f : Nat → Nat → Int} {v : Nat → Int} (h : Spn m (Of r f) v) : ∃ (c : Int) (a : Nat → Int), c ≠ 0 ∧ ∀ k, k < m → c * v k = sumR (fun i => a i * f i k) r := by
  induction h with
  | mem h =>
    obtain ⟨i, hi, rfl⟩ := h
    refine ⟨1, fun j => if j = i then 1 else 0, by decide, fun k hk => ?_⟩
    rw [sumR_one (i := i) r hi fun j hj ne => by
      show (if j = i then (1 : Int) else 0) * f j k = 0
      rw [if_neg ne, Int.zero_mul]]
    show _ = (if i = i then (1 : Int) else 0) * f i k
    rw [if_pos rfl]
  | zero => exact ⟨1, fun _ => 0, by decide, fun k hk => by rw [sumR_zero r fun j _ => Int.zero_mul _]; rfl⟩
  | add _ _ ha hb =>
    obtain ⟨c, a, hc, ea⟩ := ha
    obtain ⟨d, b, hd, eb⟩ := hb
    refine ⟨c * d, fun i => d * a i + c * b i, Int.mul_ne_zero hc hd, fun k hk => ?_⟩
    have e : ∀ i, i < r → (d * a i + c * b i) * f i k = d * (a i * f i k) + c * (b i * f i k) := fun i _ => by
      rw [Int.add_mul, Int.mul_assoc, Int.mul_assoc]
    rw [sumR_congr r e, sumR_add, sumR_mul, sumR_mul, ← ea k hk, ← eb k hk, Int.mul_add]
    congr 1
    · rw [Int.mul_comm c d, Int.mul_assoc]
    · rw [Int.mul_assoc]
  | smul x _ ha =>
    obtain ⟨c, a, hc, ea⟩ := ha
    refine ⟨c, fun i => x * a i, hc, fun k hk => ?_⟩
    have e : ∀ i, i < r → (x * a i) * f i k = x * (a i * f i k) := fun i _ => Int.mul_assoc _ _ _
    rw [sumR_congr r e, sumR_mul, ← ea k hk, ← Int.mul_assoc, Int.mul_comm c x, Int.mul_assoc]
  | div hx _ ha =>
    rename_i x v _
    obtain ⟨c, a, hc, ea⟩ := ha
    exact ⟨c * x, a, Int.mul_ne_zero hc hx, fun k hk => by rw [← ea k hk, Int.mul_assoc]⟩
  | cong _ e ha =>
    obtain ⟨c, a, hc, ea⟩ := ha
    exact ⟨c, a, hc, fun k hk => by rw [← ea k hk, e k hk]⟩
/-- of what k of these make there are no more than k that are free of one another -/
theorem exch {m r k : Nat} {f g : Nat → Nat → Int} (I : Ind m r f) (h : ∀ i, i < r → Spn m (Of k g) (f i)) : r ≤ k := by
  rcases Nat.lt_or_ge k r with l | l
  · exfalso
    have h2 : ∀ i, ∃ (c : Int) (a : Nat → Int), i < r → c ≠ 0 ∧ ∀ x, x < m → c * f i x = sumR (fun j => a j * g j x) k := fun i => by
      rcases Nat.lt_or_ge i r with q | q
      · obtain ⟨c, a, h1, h2⟩ := (h i q).coef
        exact ⟨c, a, fun _ => ⟨h1, h2⟩⟩
      · exact ⟨0, fun _ => 0, fun z => absurd z (by omega)⟩
    have ⟨c, h2⟩ := Classical.axiomOfChoice h2
    have ⟨a, h2⟩ := Classical.axiomOfChoice h2
    obtain ⟨b, ⟨i0, hi0, bi0⟩, hb⟩ := dep k fun i j => a i j
    have := I (fun i => if i ≤ k then b i * c i else 0) (fun x hx => by
      rw [sumR_more (m := k + 1) r (fun i hi => by rw [if_neg (by omega), Int.zero_mul]) (by omega)]
      have e : ∀ i, i < k + 1 → (if i ≤ k then b i * c i else 0) * f i x = sumR (fun j => (b i * a i j) * g j x) k := fun i hi => by
        rw [if_pos (by omega), Int.mul_assoc, (h2 i (by omega)).2 x hx, ← sumR_mul]
        exact sumR_congr k fun j _ => (Int.mul_assoc _ _ _).symm
      rw [sumR_congr _ e, sumR_comm]
      refine sumR_zero k fun j hj => ?_
      have e2 : ∀ i, i < k + 1 → b i * a i j * g j x = g j x * (b i * a i j) := fun i _ => Int.mul_comm _ _
      rw [sumR_congr _ e2, sumR_mul, hb j hj, Int.mul_zero]) i0 (by omega)
    have this : (if i0 ≤ k then b i0 * c i0 else 0) = 0 := this
    rw [if_pos hi0] at this
    rcases Int.mul_eq_zero.mp this with z | z
    · exact bi0 z
    · exact (h2 i0 (by omega)).1 z
  · exact l
/-! ### the elimination -/
def colL (row : List Int) (c : Nat) : Int := row.getD c 0
def elimL (lead : List Int) (c : Nat) (row : List Int) : List Int := List.zipWith (fun a b => a * colL lead c - b * colL row c) row lead
def rkStep (c : Nat) (s : List (List Int) × Nat) : List (List Int) × Nat :=
  match s.1.filter (fun row => decide (colL row c ≠ 0)) with
  | [] => s
  | lead :: _ => ((s.1.erase lead).map (elimL lead c), s.2 + 1)
def rkRun (rows : List (List Int)) : Nat → List (List Int) × Nat
  | 0 => (rows, 0)
  | c + 1 => rkStep c (rkRun rows c)
def vec (row : List Int) : Nat → Int := fun k => colL row k
def InL (left : List (List Int)) (v : Nat → Int) : Prop := ∃ row ∈ left, v = vec row
theorem elim_at {lead row : List Int} {c m k : Nat} (l1 : lead.length = m) (l2 : row.length = m) (hk : k < m) : vec (elimL lead c row) k = vec row k * colL lead c - vec lead k * colL row c := by
  unfold vec elimL
  show (List.zipWith _ row lead).getD k 0 = row.getD k 0 * _ - lead.getD k 0 * _
  rw [List.getD_eq_getElem?_getD, List.getD_eq_getElem?_getD, List.getD_eq_getElem?_getD, List.getElem?_zipWith]
  rw [List.getElem?_eq_getElem (show k < row.length by omega), List.getElem?_eq_getElem (show k < lead.length by omega)]
  rfl
theorem elim_len {lead row : List Int} {c m : Nat} (l1 : lead.length = m) (l2 : row.length = m) : (elimL lead c row).length = m := by
  unfold elimL
  rw [List.length_zipWith]
  omega
/-- behind the columns below c: what was led so far, and what is left -/
structure RkI (m : Nat) (rows : List (List Int)) (c : Nat) (s : List (List Int) × Nat) : Prop where
  len : ∀ row ∈ s.1, row.length = m
  nul : ∀ row ∈ s.1, ∀ k, k < c → vec row k = 0
  ld : ∃ f : Nat → Nat → Int, (∀ (a : Nat → Int) (u : Nat → Int), Spn m (InL s.1) u → (∀ k, k < m → sumR (fun i => a i * f i k) s.2 = u k) → ∀ i, i < s.2 → a i = 0) ∧
    (∀ i, i < s.2 → Spn m (InL rows) (f i)) ∧ ∀ v, InL rows v → Spn m (fun x => Of s.2 f x ∨ InL s.1 x) v
  sub : ∀ v, InL s.1 v → Spn m (InL rows) v
theorem rk_start {m : Nat} {rows : List (List Int)} (h : ∀ row ∈ rows, row.length = m) : RkI m rows 0 (rkRun rows 0) where
  len := h
  nul := fun _ _ k hk => absurd hk (Nat.not_lt_zero k)
  ld := ⟨fun _ _ => 0, fun _ _ _ _ i hi => absurd hi (Nat.not_lt_zero i), fun i hi => absurd hi (Nat.not_lt_zero i), fun v hv => .mem (.inr hv)⟩
  sub := fun v hv => .mem hv
theorem rk_step {m c : Nat} {rows : List (List Int)} {s : List (List Int) × Nat} (hc : c < m) (I : RkI m rows c s) : RkI m rows (c + 1) (rkStep c s) := by
  obtain ⟨len, nul, ⟨f, ind, fr, sp⟩, sub⟩ := I
  obtain ⟨left, r⟩ := s
  dsimp only at *
  unfold rkStep
  dsimp only
  cases e : left.filter (fun row => decide (colL row c ≠ 0)) with
  | nil =>
    refine ⟨len, fun row hr k hk => ?_, ⟨f, ind, fr, sp⟩, sub⟩
    rcases Nat.lt_or_ge k c with l | l
    · exact nul row hr k l
    · have e2 : k = c := by omega
      subst e2
      have := List.filter_eq_nil_iff.mp e row hr
      exact Classical.byContradiction fun z => this (decide_eq_true z)
  | cons lead tl =>
    have hm : lead ∈ left.filter (fun row => decide (colL row c ≠ 0)) := by rw [e]; exact List.mem_cons_self
    obtain ⟨hl, lz⟩ := List.mem_filter.mp hm
    have lz : colL lead c ≠ 0 := of_decide_eq_true lz
    have ll := len lead hl
    have nc : ∀ row, row ∈ left → vec (elimL lead c row) c = 0 := fun row hr => by
      rw [elim_at ll (len row hr) hc]
      show colL row c * colL lead c - colL lead c * colL row c = 0
      rw [Int.mul_comm]
      omega
    have inl : ∀ row, row ∈ left → Spn m (InL left) (vec (elimL lead c row)) := fun row hr => by
      refine .cong (.add (.smul (colL lead c) (.mem ⟨row, hr, rfl⟩)) (.smul (-(colL row c)) (.mem ⟨lead, hl, rfl⟩))) fun k hk => ?_
      rw [elim_at ll (len row hr) hk, Int.mul_comm (vec row k), Int.mul_comm (vec lead k), Int.neg_mul]
      omega
    refine ⟨fun row hr => ?_, fun row hr k hk => ?_, ⟨fun i => if i = r then vec lead else f i, fun a u hu eq => ?_, fun i hi => ?_, fun v hv => ?_⟩, fun v hv => ?_⟩
    · obtain ⟨row', h', rfl⟩ := List.mem_map.mp hr
      exact elim_len ll (len row' (List.mem_of_mem_erase h'))
    · obtain ⟨row', h', rfl⟩ := List.mem_map.mp hr
      have h' := List.mem_of_mem_erase h'
      rcases Nat.lt_or_ge k c with l | l
      · rw [elim_at ll (len row' h') (by omega), nul row' h' k l, nul lead hl k l]
        omega
      · have e2 : k = c := by omega
        subst e2
        exact nc row' h'
    · dsimp only at *
      have uc : u c = 0 := hu.null hc fun v hv => by
        obtain ⟨row, hr, rfl⟩ := hv
        obtain ⟨row', h', rfl⟩ := List.mem_map.mp hr
        exact nc row' (List.mem_of_mem_erase h')
      have lo : ∀ k, sumR (fun i => a i * (if i = r then vec lead else f i) k) (r + 1) = sumR (fun i => a i * f i k) r + a r * vec lead k := fun k => by
        show sumR _ r + a r * (if r = r then vec lead else f r) k = _
        rw [if_pos rfl]
        congr 1
        exact sumR_congr r fun i hi => by rw [if_neg (by omega)]
      have low := ind a (fun k => u k + (-(a r)) * vec lead k) (.add (hu.trans fun v hv => by
        obtain ⟨row, hr, rfl⟩ := hv
        obtain ⟨row', h', rfl⟩ := List.mem_map.mp hr
        exact inl row' (List.mem_of_mem_erase h')) (.smul _ (.mem ⟨lead, hl, rfl⟩))) fun k hk => by
        have := eq k hk
        rw [lo] at this
        rw [← this, Int.neg_mul]
        omega
      have ar : a r = 0 := by
        have := eq c hc
        rw [lo, uc, sumR_zero r fun i hi => by rw [low i hi, Int.zero_mul], Int.zero_add] at this
        exact (Int.mul_eq_zero.mp this).resolve_right lz
      intro i hi
      rcases Nat.lt_or_ge i r with l | l
      · exact low i l
      · rw [show i = r by omega]
        exact ar
    · dsimp only at *
      by_cases z : i = r
      · rw [if_pos z]
        exact sub _ ⟨lead, hl, rfl⟩
      · rw [if_neg z]
        exact fr i (by omega)
    · refine (sp v hv).trans fun x hx => ?_
      have hlead : Spn m (fun x => Of (r + 1) (fun i => if i = r then vec lead else f i) x ∨ InL ((left.erase lead).map (elimL lead c)) x) (vec lead) := .mem (.inl ⟨r, Nat.lt_succ_self r, (if_pos rfl).symm⟩)
      rcases hx with ⟨i, hi, rfl⟩ | ⟨row, hr, rfl⟩
      · refine .mem (.inl ⟨i, Nat.lt_succ_of_lt hi, ?_⟩)
        exact (if_neg (by omega)).symm
      · by_cases z : row = lead
        · rw [z]
          exact hlead
        · have h' := (List.mem_erase_of_ne z).mpr hr
          refine .div (c := colL lead c) lz (.cong (.add (.mem (.inr ⟨_, List.mem_map.mpr ⟨row, h', rfl⟩, rfl⟩)) (.smul (colL row c) hlead)) fun k hk => ?_)
          rw [elim_at ll (len row hr) hk, Int.mul_comm (vec row k), Int.mul_comm (vec lead k)]
          omega
    · obtain ⟨row, hr, rfl⟩ := hv
      obtain ⟨row', h', rfl⟩ := List.mem_map.mp hr
      exact (inl row' (List.mem_of_mem_erase h')).trans sub
theorem rk_inv {m : Nat} {rows : List (List Int)} (h : ∀ row ∈ rows, row.length = m) : ∀ c, c ≤ m → RkI m rows c (rkRun rows c)
  | 0, _ => rk_start h
  | c + 1, hc => rk_step (by omega) (rk_inv h c (by omega))
/-- as many rows are free of one another as leads were found -/
theorem rk_end {m : Nat} {rows : List (List Int)} (h : ∀ row ∈ rows, row.length = m) : ∃ f : Nat → Nat → Int, Ind m (rkRun rows m).2 f ∧ (∀ i, i < (rkRun rows m).2 → Spn m (InL rows) (f i)) ∧ ∀ v, InL rows v → Spn m (Of (rkRun rows m).2 f) v := by
  obtain ⟨len, nul, ⟨f, ind, fr, sp⟩, sub⟩ := rk_inv h m (Nat.le_refl m)
  refine ⟨f, fun a ha => ind a (fun _ => 0) .zero ha, fr, fun v hv => (sp v hv).trans fun x hx => ?_⟩
  rcases hx with hx | ⟨row, hr, rfl⟩
  · exact .mem hx
  · exact .cong .zero fun k hk => (nul row hr k hk).symm
/-- the rows of numbers one behind another -/
def hankel (s : Nat → Int) (n : Nat) : List (List Int) := (List.range (n + 1)).map fun i => (List.range (n + 1)).map fun k => s (i + k)
theorem hankel_vec {s : Nat → Int} {n i k : Nat} (hk : k < n + 1) : vec ((List.range (n + 1)).map fun k => s (i + k)) k = s (i + k) := by
  show ((List.range (n + 1)).map fun k => s (i + k)).getD k 0 = _
  rw [List.getD_eq_getElem?_getD, List.getElem?_map, List.getElem?_range hk]
  rfl
/-- the rank of the rows is the order of the shortest rule -/
theorem rk_rule {s r : Nat → Int} {L n : Nat} (R : Rule s r L) (mn : ∀ q M, Rule s q M → L ≤ M) (hn : L ≤ n) : (rkRun (hankel s n) (n + 1)).2 = L := by
  have hl : ∀ row ∈ hankel s n, row.length = n + 1 := fun row hr => by
    obtain ⟨i, _, rfl⟩ := List.mem_map.mp hr
    rw [List.length_map, List.length_range]
  obtain ⟨f, If, fr, sp⟩ := rk_end hl
  let g : Nat → Nat → Int := fun i k => s (i + k)
  have gin : ∀ i, i < n + 1 → Spn (n + 1) (InL (hankel s n)) (g i) := fun i hi =>
    .cong (.mem ⟨_, List.mem_map.mpr ⟨i, List.mem_range.mpr hi, rfl⟩, rfl⟩) fun k hk => hankel_vec hk
  have all : ∀ b i, i < b → Spn (n + 1) (Of L g) (g i) := fun b => by
    induction b with
    | zero => exact fun i h => absurd h (Nat.not_lt_zero i)
    | succ b ih =>
      intro i hi
      rcases Nat.lt_or_ge i L with l | l
      · exact .mem ⟨i, l, rfl⟩
      · have sumS : ∀ N, N ≤ L → Spn (n + 1) (Of L g) fun k => sumR (fun j => r (1 + j) * s (i + k - (1 + j))) N := fun N => by
          induction N with
          | zero => exact fun _ => .zero
          | succ N ihN =>
            intro hN
            refine .add (ihN (by omega)) (.cong (.smul (r (1 + N)) (ih (i - (1 + N)) (by omega))) fun k _ => ?_)
            show r (1 + N) * s (i - (1 + N) + k) = r (1 + N) * s (i + k - (1 + N))
            rw [show i - (1 + N) + k = i + k - (1 + N) by omega]
        refine .div (c := r 0) R.1 (.cong (.smul (-1) (sumS L (Nat.le_refl L))) fun k _ => ?_)
        have := R.2 (i + k) (by omega)
        unfold dt at this
        rw [Nat.add_comm L 1, sumR_shift] at this
        have e0 : sumR (fun k_1 => r k_1 * s (i + k - k_1)) 1 = r 0 * s (i + k) := by
          show 0 + r 0 * s (i + k - 0) = _
          rw [Int.zero_add, Nat.sub_zero]
        rw [e0] at this
        show -1 * _ = r 0 * s (i + k)
        omega
  have h1 : (rkRun (hankel s n) (n + 1)).2 ≤ L := exch If fun i hi => (fr i hi).trans fun v hv => by
    obtain ⟨row, hr, rfl⟩ := hv
    obtain ⟨j, hj, rfl⟩ := List.mem_map.mp hr
    exact .cong (all (j + 1) j (Nat.lt_succ_self j)) fun k hk => (hankel_vec hk).symm
  have h2 : L ≤ (rkRun (hankel s n) (n + 1)).2 := exch (f := g) (m := n + 1) (fun a0 ha0 => by
    let a : Nat → Int := fun i => if i < L then a0 i else 0
    have ha : ∀ k, k < n + 1 → sumR (fun i => a i * g i k) L = 0 := fun k hk => by
      rw [← ha0 k hk]
      refine sumR_congr L fun i hi => ?_
      show (if i < L then a0 i else 0) * _ = _
      rw [if_pos hi]
    have top : ∀ b, (∀ i, b ≤ i → a i = 0) → b ≤ L → ∀ i, a i = 0 := fun b => by
      induction b with
      | zero => exact fun h _ i => h i (Nat.zero_le i)
      | succ b ih =>
        intro h hb
        refine ih (fun i hi => ?_) (by omega)
        rcases Nat.lt_or_ge b i with l | l
        · exact h i l
        · have e : i = b := by omega
          subst e
          refine Classical.byContradiction fun z => ?_
          have ev : ∀ k, k < n + 1 → dt (fun j => a (i - j)) i s (i + k) = 0 := fun k hk => by
            have := ha k hk
            rw [sumR_more (m := i + 1) L (fun j hj => by rw [h j hj, Int.zero_mul]) (by omega)] at this
            unfold dt
            rw [← this]
            refine Eq.trans (sumR_congr _ fun j hj => ?_) (sumR_rev (fun j => a j * g j k) i)
            show a (i - j) * s (i + k - j) = a (i - j) * s (i - j + k)
            rw [show i + k - j = i - j + k by omega]
          have hold := holds_on (s := s) (r := fun j => a (i - j)) (L := i) (c := r) (M := L) (N := i + n + 1) (fun x hx hN => by
            have := ev (x - i) (by omega)
            rw [show i + (x - i) = x by omega] at this
            exact this) R (by omega)
          have := mn (fun j => a (i - j)) i ⟨by show a (i - 0) ≠ 0; exact z, hold⟩
          omega
    intro i hi
    have := top L (fun i h1 => if_neg (by omega)) (Nat.le_refl L) i
    have this : (if i < L then a0 i else 0) = 0 := this
    rw [if_pos hi] at this
    exact this) fun i hi => (gin i (by omega)).trans sp
  omega
/-! ### the rank, by the law -/
def IL (H : Hp) (as : List Addr) (rows : List (List Int)) : Prop := as.length = rows.length ∧ ∀ (i : Nat) (a : Addr), as[i]? = some a → ∃ r, rows[i]? = some r ∧ H a = some (.lst (r.map V.int))
theorem hu65_of {A : Around} {k : Nat} (hr : Room k A) : A.units + 65 < cLine := by
  have := hr.un
  omega
def ilD (r : List Int) : PyData := .list (r.map .int)
theorem eqv_ints : ∀ (xs ys : List Int), PyData.eqvAll (xs.map .int) (ys.map .int) = decide (xs = ys)
  | [], [] => by rw [List.map_nil, PyData.eqvAll]; rfl
  | [], y :: ys => by rw [List.map_nil, List.map_cons, PyData.eqvAll, decide_eq_false (by simp)]; all_goals simp
  | x :: xs, [] => by rw [List.map_nil, List.map_cons, PyData.eqvAll, decide_eq_false (by simp)]; all_goals simp
  | x :: xs, y :: ys => by
    rw [List.map_cons, List.map_cons, PyData.eqvAll, eqv_ints xs ys]
    have e : PyData.eqv (.int x) (.int y) = decide (x = y) := by
      rw [PyData.eqv]
      all_goals first | rfl | simp
    rw [e]
    by_cases h : x = y
    · subst h
      simp
    · simp [h]
theorem eqv_ilD (r r' : List Int) : PyData.eqv (ilD r) (ilD r') = decide (r = r') := by
  unfold ilD
  rw [PyData.eqv]
  exact eqv_ints r r'
theorem place_il {rs : List (List Int)} {x : List Int} (h : x ∈ rs) : ∃ j, SeqAt.dataPlace (rs.map ilD) (ilD x) = some j ∧ rs.eraseIdx j = rs.erase x := by
  have e : SeqAt.dataPlace (rs.map ilD) (ilD x) = rs.idxOf? x := by
    unfold SeqAt.dataPlace List.idxOf?
    rw [List.findIdx?_map]
    congr 1
    funext y
    show PyData.eqv (ilD y) (ilD x) = (y == x)
    rw [eqv_ilD]
    by_cases q : y = x
    · subst q; simp
    · simp [q]
  cases q : rs.idxOf? x with
  | none => exact absurd h (List.idxOf?_eq_none_iff.mp q)
  | some j =>
    refine ⟨j, by rw [e, q], ?_⟩
    rw [List.erase_eq_eraseIdx, q]
theorem ilD_plain (r : List Int) : (ilD r).plain = true := by
  unfold ilD
  rw [PyData.plain]
  have : ∀ xs : List Int, PyData.plainAll (xs.map .int) = true := fun xs => by
    induction xs with
    | nil => rw [List.map_nil, PyData.plainAll]
    | cons x xs ih => rw [List.map_cons, PyData.plainAll, ih, PyData.plain]; rfl
  exact this r
theorem ilD_plainAll (rs : List (List Int)) : PyData.plainAll (rs.map ilD) = true := by
  induction rs with
  | nil => rw [List.map_nil, PyData.plainAll]
  | cons r rs ih => rw [List.map_cons, PyData.plainAll, ih, ilD_plain]; rfl
theorem ilD_depth (r : List Int) : (ilD r).depth ≤ 60 := by
  unfold ilD
  rw [PyData.depth]
  have : ∀ xs : List Int, PyData.depthAll (xs.map .int) ≤ 1 := fun xs => by
    induction xs with
    | nil => rw [List.map_nil, PyData.depthAll]; omega
    | cons x xs ih => rw [List.map_cons, PyData.depthAll, PyData.depth]; omega
  have := this r
  omega
/-- a list of integers as it lies there -/
theorem dp_il {K : PySem.W.Frag} {H : Hp} {a : Addr} {r : List Int} (h : H a = some (.lst (r.map V.int))) : Dp K H (.ref a) (ilD r) := by
  refine .lst (SqL.of h) ?_
  have : ∀ xs : List Int, DpAll K H (xs.map V.int) (xs.map .int) := fun xs => by
    induction xs with
    | nil => exact .nil
    | cons x xs ih => exact .cons (.int x) ih
  exact this r
theorem dp_ils {K : PySem.W.Frag} {H : Hp} : ∀ {ps : List (Addr × List Int)}, (∀ p ∈ ps, H p.1 = some (.lst (p.2.map V.int))) → DpAll K H (ps.map fun p => V.ref p.1) ((ps.map Prod.snd).map ilD)
  | [], _ => .nil
  | p :: ps, h => .cons (dp_il (h p List.mem_cons_self)) (dp_ils fun q hq => h q (List.mem_cons_of_mem _ hq))
def bR (c : Nat) : Nat := 61 * 2 ^ c - 1
/-- rows with where they lie -/
structure PL (H : Hp) (ps : List (Addr × List Int)) (m B : Nat) : Prop where
  at_ : ∀ p ∈ ps, H p.1 = some (.lst (p.2.map V.int))
  len : ∀ p ∈ ps, p.2.length = m
  small : ∀ p ∈ ps, ∀ x ∈ p.2, x.natAbs < 2 ^ B
theorem zip_elim {lead row : List Int} {c j : Nat} {x y : Int} (hx : row[j]? = some x) (hy : lead[j]? = some y) : (elimL lead c row)[j]? = some (x * colL lead c - y * colL row c) := by
  unfold elimL
  rw [List.getElem?_zipWith, hx, hy]
theorem bR_succ (c : Nat) : bR (c + 1) = 2 * bR c + 1 := by
  unfold bR
  have := Nat.two_pow_pos c
  rw [Nat.pow_succ]
  omega
theorem bR_le {c : Nat} (h : c ≤ 7) : bR c ≤ 7807 := by
  unfold bR
  have : 2 ^ c ≤ 2 ^ 7 := Nat.pow_le_pow_right (by decide) h
  omega
theorem elim_small {lead row : List Int} {c m B : Nat} (l1 : lead.length = m) (l2 : row.length = m) (h1 : ∀ x ∈ lead, x.natAbs < 2 ^ B) (h2 : ∀ x ∈ row, x.natAbs < 2 ^ B) : ∀ x ∈ elimL lead c row, x.natAbs < 2 ^ (2 * B + 1) := fun x hx => by
  obtain ⟨j, hj⟩ := List.mem_iff_getElem?.mp hx
  have jl := (List.getElem?_eq_some_iff.mp hj).1
  rw [elim_len (c := c) l1 l2] at jl
  have ha : row[j]? = some row[j] := List.getElem?_eq_getElem (by omega)
  have hb : lead[j]? = some lead[j] := List.getElem?_eq_getElem (by omega)
  rw [zip_elim ha hb] at hj
  have e := Option.some.inj hj
  have cb : ∀ {r : List Int}, (∀ x ∈ r, x.natAbs < 2 ^ B) → (colL r c).natAbs < 2 ^ B := fun {r} h => by
    unfold colL
    rw [List.getD_eq_getElem?_getD]
    cases q : r[c]? with
    | none => exact Nat.two_pow_pos B
    | some y => exact h y (List.mem_of_getElem? q)
  have p1 := Nat.mul_lt_mul'' (h2 _ (List.mem_of_getElem? ha)) (cb h1)
  have p2 := Nat.mul_lt_mul'' (h1 _ (List.mem_of_getElem? hb)) (cb h2)
  rw [← Int.natAbs_mul] at p1 p2
  have h3 := Int.natAbs_sub_le (row[j] * colL lead c) (lead[j] * colL row c)
  rw [e] at h3
  rw [← Nat.pow_add] at p1 p2
  rw [Nat.pow_succ, show 2 * B = B + B by omega]
  omega
theorem erase_map' {α β : Type} (f : α → β) : ∀ (l : List α) (j : Nat), (l.map f).eraseIdx j = (l.eraseIdx j).map f
  | [], j => by cases j <;> rfl
  | a :: r, 0 => rfl
  | a :: r, j + 1 => by
    show f a :: (r.map f).eraseIdx j = f a :: (r.eraseIdx j).map f
    rw [erase_map' f r j]
section
variable {P : Program} {w : World} {K : PySem.W.Frag} {mg : Str → Option Value} {base : Heap}
theorem scRank : FnScope ["_law_rows", "_law_left", "_law_rank_here", "_law_row", "_law_column", "_law_some", "_law_lead", "_law_a", "_law_b"] ["_law_rows"] (defScope sRank) := ⟨rfl, rfl, rfl, by decide +kernel, rfl, by decide +kernel, by decide +kernel⟩
def spRank (K : PySem.W.Frag) : Sp := fun vs H Q _ => ∃ (rp : Addr) (as : List Addr) (rows : List (List Int)), vs = [.ref rp] ∧ H rp = some (.lst (as.map V.ref)) ∧ IL H as rows ∧ rows.length ≤ 7 ∧ (∀ r ∈ rows, r.length = rows.length) ∧ (∀ r ∈ rows, ∀ x ∈ r, x.natAbs < 2 ^ 60) ∧
  ∀ (H' : Hp), Same H H' → Q (.int ((rkRun rows rows.length).2 : Nat)) H'
theorem ok_rank {f : Addr} {fd : FuncData} (F : Fun K "_law_rank" "_law_rank" sRank f fd) (T : Mg mg) : FnOk P w K mg base CX0 1 f fd ["_law_rows"] (spRank K) := by
  refine F.ok scRank (fun vs H Q E h => ?_) (fun cdv A outer s H vs Q E hr h => ?_)
  · obtain ⟨rp, as, rows, rfl, _⟩ := h
    rfl
  · obtain ⟨rp, as, rows, rfl, hR, il, r7, rl, rb, k⟩ := h
    have hu0 := hr.units0
    have hu1 := hu_of hr
    have hu65 := hu65_of hr
    refine ⟨_, (pss_cons (ps_par (i := 1) (j := 2) rfl scRank.nd rfl rfl (by decide) rfl rfl (pa_cons (pe_lc (own := [("_law_row", 3)]) (g := gName 3) (tt := tYes) rfl scRank.nd (pi_list (pv 0)) (blkOk_by (N := ["_law_rows", "_law_left", "_law_rank_here", "_law_row", "_law_column", "_law_some", "_law_lead", "_law_a", "_law_b"]) (sc := defScope sRank) (by decide +kernel)) (fun _ _ _ _ _ => pg_name (i := 3) scRank.nd rfl (Or.inl rfl)) (fun _ _ _ _ _ => pts_nil) (fun _ _ _ _ _ => (pe_callTy (r := rListL K) call_list_of (by rfl) T.list (by decide +kernel) (pa_cons (pv 3) pa_nil)))) (pa_cons pe_int pa_nil)) (by rfl))
      (pss_cons (ps_for PassesOwn.never rfl (pi_range1 (by rfl) T.range (pa_cons (pe_callB (r := rLen K) call_len_seq (by rfl) T.len PySem.boot_len (pa_cons (pv 0) pa_nil)) pa_nil)) (pg_name (i := 4) scRank.nd rfl (.inr rfl)) (pss_cons (ps_setLc (i := 5) (own := [("_law_row", 3)]) (g := gName 3) rfl scRank.nd rfl rfl (sw_true rfl rfl rfl (by decide +kernel)) (pi_list (pv 1)) (blkOk_by (N := ["_law_rows", "_law_left", "_law_rank_here", "_law_row", "_law_column", "_law_some", "_law_lead", "_law_a", "_law_b"]) (sc := defScope sRank) (by decide +kernel)) (fun _ _ _ _ _ => pg_name (i := 3) scRank.nd rfl (Or.inl rfl)) (fun _ _ _ _ _ => pts_one (pt_cmpR op_ne (pe_ix (r := rIxL K) ix_list (pv 3) (pv 4) (fun _ _ => rfl)) pe_int (nomark _))) (fun _ _ _ _ _ => (pv 3)))
      (pss_one (ps_if (pt_cmpR (op_neNilL hu0) (pv 5) (pe_lstA pa_nil) (nomark _)) (pss_cons (ps_asg (pe_tup (pa_cons (pe_ix (r := rIxL K) ix_list (pv 5) pe_int (fun _ _ => rfl)) (pa_cons (pe_op op_add (pv 2) pe_int) pa_nil))) (pg_tup rfl (pgs_cons (pg_name (i := 6) scRank.nd rfl (.inr rfl)) (pgs_cons (pg_name (i := 2) scRank.nd rfl (.inl rfl)) pgs_nil))))
      (pss_cons (ps_expr (pe_bm PySem.F.plainAttrs_list PySem.F.slot_list_remove PySem.F.type_list_remove (mt_removeP hu65) (pv 1) (pa_cons (pv 6) pa_nil)))
      (pss_one (ps_setLc (i := 1) (own := [("_law_row", 3)]) (g := gName 3) (tt := tYes) rfl scRank.nd rfl rfl (sw_true rfl rfl rfl (by decide +kernel)) (pi_list (pv 1)) (blkOk_by (N := ["_law_rows", "_law_left", "_law_rank_here", "_law_row", "_law_column", "_law_some", "_law_lead", "_law_a", "_law_b"]) (sc := defScope sRank) (by decide +kernel)) (fun _ _ _ _ _ => pg_name (i := 3) scRank.nd rfl (Or.inr rfl)) (fun _ _ _ _ _ => pts_nil) (fun _ _ _ _ _ => (pe_lc (wi := iZip K _) (own := [("_law_a", 7), ("_law_b", 8)]) (g := gTup K 2 (gCons (gName 7) (gCons (gName 8) gNil))) (tt := tYes) rfl scRank.nd (pi_zip (by rfl) T.zip (pa_cons (pv 3) (pa_cons (pv 6) pa_nil))) (blkOk_by (by kernel_rfl)) (fun _ _ _ _ _ => pg_tup rfl (pgs_cons (pg_name (i := 7) scRank.nd rfl (Or.inl rfl)) (pgs_cons (pg_name (i := 8) scRank.nd rfl (Or.inl rfl)) pgs_nil))) (fun _ _ _ _ _ => pts_nil) (fun _ _ _ _ _ => (pe_op op_sub (pe_op op_mulW (pv 7) (pe_ix (r := rIxL K) ix_list (pv 6) (pv 4) (fun _ _ => rfl))) (pe_op op_mulW (pv 8) (pe_ix (r := rIxL K) ix_list (pv 3) (pv 4) (fun _ _ => rfl))))))))))) pss_nil))))
      (pss_one (ps_ret (pv 2))))), ?_⟩
    obtain ⟨al, ia⟩ := il
    obtain ⟨ps0, hps, hsn, hat⟩ : ∃ ps0 : List (Addr × List Int), ps0.map (fun p => V.ref p.1) = as.map V.ref ∧ ps0.map Prod.snd = rows ∧ ∀ p ∈ ps0, H p.1 = some (.lst (p.2.map V.int)) := by
      refine ⟨as.zip rows, ?_, ?_, fun p hp => ?_⟩
      · have : ∀ p : Addr × List Int, V.ref p.1 = V.ref (Prod.fst p) := fun _ => rfl
        rw [← List.map_fst_zip (l₁ := as) (l₂ := rows) (by omega), List.map_map, List.map_fst_zip (by omega)]
        rfl
      · exact List.map_snd_zip (by omega)
      · obtain ⟨i, hi⟩ := List.mem_iff_getElem?.mp hp
        obtain ⟨h1, h2⟩ := List.getElem?_zip_eq_some.mp hi
        obtain ⟨r, h3, h4⟩ := ia i _ h1
        rw [h2] at h3
        cases h3
        exact h4
    rw [← hps] at hR
    have pl0 : ps0.length = rows.length := by rw [← hsn, List.length_map]
    refine ⟨_, rfl, rp, rfl, ⟨_, SqL.of hR⟩, fun D hD => ?_⟩
    refine lc_list (K := K) (a := rp) (xs := ps0.map fun p => V.ref p.1) (fun i H' => Same H H' ∧ ∃ qs : List (Addr × List Int), H' D = some (.lst (qs.map fun p => V.ref p.1)) ∧ qs.map Prod.snd = rows.take i ∧ ∀ p ∈ qs, H' p.1 = some (.lst (p.2.map V.int)) ∧ p.1 ≠ D ∧ H p.1 = none)
      ⟨same_new hD, [], upd_same, rfl, fun p hp => absurd hp List.not_mem_nil⟩ (fun i H' _ p => SqL.of (p.1 _ _ hR)) ?_ ?_
    · rintro i x H1 hx ⟨sm, qs, hD1, qe, qa⟩
      rw [List.getElem?_map] at hx
      obtain ⟨p, hp, rfl⟩ := Option.map_eq_some_iff.mp hx
      have hpm := List.mem_of_getElem? hp
      have ri : rows[i]? = some p.2 := by rw [← hsn, List.getElem?_map, hp]; rfl
      have h1 := sm _ _ (hat p hpm)
      refine ⟨rfl, _, rfl, p.1, _, rfl, .inl (SqL.of h1), fun l nl => ?_⟩
      have nlD : l ≠ D := fun z => by rw [z, hD1] at nl; cases nl
      have ql : qs.length ≤ 7 := by
        have := congrArg List.length qe
        rw [List.length_map, List.length_take] at this
        omega
      refine ⟨_, by rw [upd_ne nlD.symm]; exact hD1, small9 (by rw [List.length_map]; omega), fun b o e => ?_, qs ++ [(l, p.2)], by rw [upd_same, List.map_append]; rfl, by rw [List.map_append, qe, List.take_add_one, ri]; rfl, fun q hq => ?_⟩
      · rw [upd_ne (ne_of_none e hD)]
        have := sm _ _ e
        rw [upd_ne (ne_of_none this nl)]
        exact this
      · rcases List.mem_append.mp hq with hq | hq
        · obtain ⟨q1, q2, q3⟩ := qa q hq
          refine ⟨?_, q2, q3⟩
          rw [upd_ne q2, upd_ne (ne_of_none q1 nl)]
          exact q1
        · rw [List.mem_singleton.mp hq]
          refine ⟨by rw [upd_ne nlD, upd_same], nlD, sm.free nl⟩
    · rintro H1 ⟨sm, qs, hD1, qe, qa⟩
      rw [List.length_map, pl0, List.take_length] at qe
      refine ⟨_, _, rfl, ?_⟩
      refine ⟨_, rfl, rp, _, rfl, .inl (SqL.of (sm _ _ hR)), ((ps0.map fun p => V.ref p.1).length : Int), rfl, by rw [List.length_map]; omega, by rw [List.length_map]; omega, ?_⟩
      have D0 : H D = none := hD
      clear hps ia al
      obtain ⟨m, hm⟩ : ∃ m, m = rows.length := ⟨_, rfl⟩
      refine for_range (lo := 0) (n := ((ps0.map fun p => V.ref p.1).length : Int).toNat) (fun c σ H' => ∃ (lp : Addr) (ps : List (Addr × List Int)) (y3 y4 y5 y6 y7 y8 : Option V), σ = [some (.ref rp), some (.ref lp), some (.int ((rkRun rows c).2 : Nat)), y3, y4, y5, y6, y7, y8] ∧ Same H H' ∧ H lp = none ∧
          H' lp = some (.lst (ps.map fun p => V.ref p.1)) ∧ ps.map Prod.snd = (rkRun rows c).1 ∧ (∀ p ∈ ps, H' p.1 = some (.lst (p.2.map V.int)) ∧ p.1 ≠ lp ∧ H p.1 = none) ∧ ps.length ≤ 7 ∧ (∀ r ∈ (rkRun rows c).1, r.length = m) ∧ ∀ r ∈ (rkRun rows c).1, ∀ x ∈ r, x.natAbs < 2 ^ bR c)
        ⟨D, qs, _, _, _, _, _, _, rfl, sm, D0, hD1, qe, qa, by rw [← List.length_map (f := Prod.snd), qe]; exact r7, fun r hr => by rw [hm]; exact rl r hr, fun r hr x hx => rb r hr x hx⟩ ?_ ?_
      · rintro c σ H2 hc ⟨lp, ps, y3, y4, y5, y6, y7, y8, rfl, sm2, lp0, hl, pe, pa, p7, rlen, rsm⟩
        rw [Int.toNat_natCast, List.length_map, pl0] at hc
        have hcm : c < m := by omega
        have c7 : c < 7 := by omega
        have bl := bR_le (show c ≤ 7 by omega)
        have e0 : (0 : Int) + (c : Int) = (c : Int) := Int.zero_add _
        rw [e0]
        have ec : rkRun rows (c + 1) = rkStep c (rkRun rows c) := rfl
        generalize hs : rkRun rows c = s at *
        obtain ⟨left, rk⟩ := s
        dsimp only at *
        have cat : ∀ p ∈ ps, (p.2.map V.int)[c]? = some (V.int (colL p.2 c)) := fun p hp => by
          have h1 : p.2.length = m := rlen p.2 (by rw [← pe]; exact List.mem_map_of_mem hp)
          have h2 : p.2[c]? = some p.2[c] := List.getElem?_eq_getElem (by omega)
          rw [List.getElem?_map, h2]
          unfold colL
          rw [List.getD_eq_getElem?_getD, h2]
          rfl
        refine ⟨_, rfl, lp, rfl, ⟨_, SqL.of hl⟩, fun D2 hD2 => ?_⟩
        refine lc_list (K := K) (a := lp) (xs := ps.map fun p => V.ref p.1) (KInv (fun p : Addr × List Int => decide (colL p.2 c ≠ 0)) (fun p => V.ref p.1) ps H2 D2) (kstart hD2) (fun i H' _ p => SqL.of (p.1 _ _ hl)) ?_ ?_
        · rintro i x H3 hx p1
          rw [List.getElem?_map] at hx
          obtain ⟨p, hp, rfl⟩ := Option.map_eq_some_iff.mp hx
          have hpm := List.mem_of_getElem? hp
          have h3 := p1.1 _ _ (pa p hpm).1
          refine ⟨rfl, _, rfl, _, rfl, p.1, _, (c : Int), V.int (colL p.2 c), rfl, rfl, SqL.of h3, atI_nat (cat p hpm), rfl, _, rfl, ?_⟩
          by_cases z : colL p.2 c = 0
          · rw [z]
            exact kno (t := fun p : Addr × List Int => decide (colL p.2 c ≠ 0)) hp (decide_eq_false fun h => h z) p1 (Same.refl _)
          · rw [show (!decide (V.int (colL p.2 c) = V.int 0)) = true by rw [decide_eq_false fun h => z (V.int.inj h)]; rfl]
            exact ⟨_, rfl, kyes (t := fun p : Addr × List Int => decide (colL p.2 c ≠ 0)) (small9 (by omega)) hD2 hp (decide_eq_true z) p1 (Same.refl _)⟩
        · rintro H3 p1
          obtain ⟨s3, hl3⟩ := kend (List.length_map _) p1
          refine ⟨_, rfl, by show 0 ≤ sizeLine; decide, fun e0 H4 s4 e00 ne0 he0 => ?_⟩
          have hl4 := s4 _ _ hl3
          have s34 := s3.trans s4
          clear hl3 p1
          have hlp4 := s34 _ _ hl
          have D2l : D2 ≠ lp := fun z => by rw [z, hl] at hD2; cases hD2
          have ff : left.filter (fun row => decide (colL row c ≠ 0)) = (ps.filter fun p => decide (colL p.2 c ≠ 0)).map Prod.snd := by
            rw [← pe, List.filter_map]
            rfl
          refine ⟨D2, e0, _, rfl, rfl, SqL.of hl4, SqL.of he0, _, rfl, ?_⟩
          cases hf : ps.filter (fun p : Addr × List Int => decide (colL p.2 c ≠ 0)) with
          | nil =>
            have en : rkStep c (left, rk) = (left, rk) := by
              unfold rkStep
              dsimp only
              rw [ff, hf]
              rfl
            refine ⟨lp, ps, _, _, _, _, _, _, by rw [ec, en]; rfl, sm2.trans s34, lp0, hlp4, by rw [ec, en]; exact pe, fun p hp => ⟨s34 _ _ (pa p hp).1, (pa p hp).2⟩, p7, by rw [ec, en]; exact rlen, fun r hr x hx => ?_⟩
            rw [ec, en] at hr
            exact pow_lt_of (rsm r hr x hx) (by rw [bR_succ]; omega)
          | cons p0 tl =>
            have hm0 : p0 ∈ ps.filter fun p : Addr × List Int => decide (colL p.2 c ≠ 0) := by rw [hf]; exact List.mem_cons_self
            obtain ⟨h0m, h0z⟩ := List.mem_filter.mp hm0
            have en : rkStep c (left, rk) = ((left.erase p0.2).map (elimL p0.2 c), rk + 1) := by
              unfold rkStep
              dsimp only
              rw [ff, hf]
              rfl
            rw [hf] at hl4
            have lm0 : p0.2 ∈ left := by rw [← pe]; exact List.mem_map_of_mem h0m
            refine ⟨_, rfl, D2, _, 0, .ref p0.1, rfl, rfl, SqL.of hl4, atI_nat (j := 0) rfl, _, rfl, _, _, rfl, rfl, ?_⟩
            refine ⟨by show 2 ≤ sizeLine; decide, fun t0 nt0 => ?_⟩
            have st := same_new (o := .tup [.ref p0.1, .int ((rk : Int) + 1)]) nt0
            refine ⟨t0, _, rfl, SqT.of upd_same, rfl, _, _, rfl, _, _, rfl, rfl, ?_⟩
            have s35 := s34.trans st
            have hlp5 := st _ _ hlp4
            generalize upd H4 t0 (.tup [.ref p0.1, .int ((rk : Int) + 1)]) = G5 at *
            have pa5 : ∀ p ∈ ps, G5 p.1 = some (.lst (p.2.map V.int)) := fun p hp => s35 _ _ (pa p hp).1
            obtain ⟨j, hj, ej⟩ := place_il lm0
            rw [← pe] at hj
            refine ⟨_, rfl, .inl ⟨rfl, _, SqL.of hlp5⟩, _, rfl, lp, _, .ref p0.1, ilD p0.2, _, j, rfl, rfl, hlp5, dp_ils pa5, dp_il (pa5 p0 h0m), ilD_plainAll _, ilD_plain _, ilD_depth _, hj, by rw [List.length_map]; exact Nat.le_of_lt (small9 (by omega)), ?_⟩
            have em : (ps.map fun p => V.ref p.1).eraseIdx j = (ps.eraseIdx j).map fun p => V.ref p.1 := by rw [erase_map']
            have es : (ps.eraseIdx j).map Prod.snd = left.erase p0.2 := by rw [← ej, ← pe, erase_map']
            rw [em]
            have sub : ∀ p ∈ ps.eraseIdx j, p ∈ ps := fun p hp => List.mem_of_mem_eraseIdx hp
            have l2 : (ps.eraseIdx j).length ≤ 7 := by
              rw [List.length_eraseIdx]
              split <;> omega
            generalize ps.eraseIdx j = ps2 at *
            have sm6 : Same H (upd G5 lp (.lst (ps2.map fun p => V.ref p.1))) := fun b o e => by
              rw [upd_ne (ne_of_none e lp0)]
              exact s35 _ _ (sm2 _ _ e)
            have hl6 : (upd G5 lp (.lst (ps2.map fun p => V.ref p.1))) lp = some (.lst (ps2.map fun p => V.ref p.1)) := upd_same
            have pa6 : ∀ p ∈ ps, (upd G5 lp (.lst (ps2.map fun p => V.ref p.1))) p.1 = some (.lst (p.2.map V.int)) := fun p hp => by
              rw [upd_ne (pa p hp).2.1]
              exact pa5 p hp
            generalize upd G5 lp (.lst (ps2.map fun p => V.ref p.1)) = G6 at *
            have ln : ∀ p ∈ ps, p.2.length = m := fun p hp => rlen p.2 (by rw [← pe]; exact List.mem_map_of_mem hp)
            have sb : ∀ p ∈ ps, ∀ x ∈ p.2, x.natAbs < 2 ^ bR c := fun p hp => rsm p.2 (by rw [← pe]; exact List.mem_map_of_mem hp)
            have cb : ∀ p ∈ ps, (colL p.2 c).natAbs < 2 ^ bR c := fun p hp => by
              have := cat p hp
              rw [List.getElem?_map] at this
              obtain ⟨y, hy, e⟩ := Option.map_eq_some_iff.mp this
              rw [← V.int.inj e]
              exact sb p hp y (List.mem_of_getElem? hy)
            have b1 : 1 ≤ bR c := by
              unfold bR
              have := Nat.two_pow_pos c
              omega
            have l0 := ln p0 h0m
            refine ⟨_, rfl, lp, rfl, ⟨_, SqL.of hl6⟩, fun D3 hD3 => ?_⟩
            have D30 : H D3 = none := sm6.free hD3
            refine lc_list (K := K) (a := lp) (xs := ps2.map fun p => V.ref p.1) (fun i H' => Same G6 H' ∧ ∃ qs : List (Addr × List Int), H' D3 = some (.lst (qs.map fun p => V.ref p.1)) ∧ qs.map Prod.snd = ((ps2.take i).map Prod.snd).map (elimL p0.2 c) ∧ ∀ q ∈ qs, H' q.1 = some (.lst (q.2.map V.int)) ∧ q.1 ≠ D3 ∧ G6 q.1 = none)
              ⟨same_new hD3, [], upd_same, rfl, fun q hq => absurd hq List.not_mem_nil⟩ (fun i H' _ p => SqL.of (p.1 _ _ hl6)) ?_ ?_
            · rintro i x H7 hx ⟨sm7, qs7, hD7, qe7, qa7⟩
              rw [List.getElem?_map] at hx
              obtain ⟨p, hp, rfl⟩ := Option.map_eq_some_iff.mp hx
              have hpm := sub p (List.mem_of_getElem? hp)
              have hp7 := sm7 _ _ (pa6 p hpm)
              have h07 := sm7 _ _ (pa6 p0 h0m)
              have lp2 := ln p hpm
              refine ⟨rfl, _, rfl, _, rfl, p.1, p0.1, _, _, rfl, SqL.of hp7, SqL.of h07, fun D4 hD4 => ?_⟩
              have n4 : D4 ≠ D3 := fun z => by rw [z, hD7] at hD4; cases hD4
              refine lc_it (walk_zip (a := p.1) (b := p0.1) (xs := p.2.map V.int) (ys := p0.2.map V.int) (n := m) (by rw [List.length_map, List.length_map, lp2, l0, Nat.min_self])) (fun k H' => Same H7 H' ∧ H' D4 = some (.lst (((elimL p0.2 c p.2).take k).map V.int))) ⟨same_new hD4, upd_same⟩ (fun k H' _ q => ⟨SqL.of (q.1 _ _ hp7), SqL.of (q.1 _ _ h07)⟩) ?_ ?_
              · rintro k z H8 H9 hk ⟨sm8, hl8⟩ ⟨T2, va, vb, rfl, nT, rfl, ea, eb⟩
                have ea : (p.2.map V.int)[k]? = some va := ea
                have eb : (p0.2.map V.int)[k]? = some vb := eb
                rw [List.getElem?_map] at ea eb
                obtain ⟨x1, hx1, rfl⟩ := Option.map_eq_some_iff.mp ea
                obtain ⟨x2, hx2, rfl⟩ := Option.map_eq_some_iff.mp eb
                have sT := same_new (o := .tup [V.int x1, V.int x2]) nT
                have hp9 := sT _ _ (sm8 _ _ hp7)
                have h09 := sT _ _ (sm8 _ _ h07)
                have hl9 := sT _ _ hl8
                have sm9 := sm8.trans sT
                refine ⟨T2, _, rfl, SqT.of upd_same, rfl, _, _, rfl, _, _, rfl, rfl, ?_⟩
                generalize upd H8 T2 (.tup [V.int x1, V.int x2]) = G9 at *
                have rx : (elimL p0.2 c p.2)[k]? = some (x1 * colL p0.2 c - x2 * colL p.2 c) := zip_elim hx1 hx2
                have ml : ∀ {x y : Int}, x.natAbs < 2 ^ bR c → y.natAbs < 2 ^ bR c → CMulW x y := fun h1 h2 => wide_mul h1 h2 (by omega) (by omega) (by omega)
                refine ⟨rfl, _, rfl, _, rfl, _, rfl, p0.1, _, (c : Int), V.int (colL p0.2 c), rfl, rfl, SqL.of h09, atI_nat (cat p0 h0m), _, _, rfl, rfl, ml (sb p hpm x1 (List.mem_of_getElem? hx1)) (cb p0 h0m), ?_⟩
                refine ⟨_, rfl, _, rfl, _, rfl, p.1, _, (c : Int), V.int (colL p.2 c), rfl, rfl, SqL.of hp9, atI_nat (cat p hpm), _, _, rfl, rfl, ml (sb p0 h0m x2 (List.mem_of_getElem? hx2)) (cb p hpm), _, _, rfl, rfl, ?_⟩
                have e7 : (elimL p0.2 c p.2).length = m := elim_len l0 lp2
                refine ⟨_, hl9, small9 (by rw [List.length_map, List.length_take]; omega), fun b o e => ?_, ?_⟩
                · rw [upd_ne (ne_of_none e hD4)]
                  exact sm9 _ _ e
                · rw [upd_same, List.take_add_one, rx, List.map_append]
                  rfl
              · rintro H8 ⟨sm8, hl8⟩
                rw [List.take_of_length_le (by rw [elim_len l0 lp2]; omega)] at hl8
                have hD8 := sm8 _ _ hD7
                have il := (List.getElem?_eq_some_iff.mp hp).1
                have ql : qs7.length ≤ 7 := by
                  have := congrArg List.length qe7
                  rw [List.length_map, List.length_map, List.length_map, List.length_take] at this
                  omega
                refine ⟨_, hD8, small9 (by rw [List.length_map]; omega), fun b o e => ?_, qs7 ++ [(D4, elimL p0.2 c p.2)], by rw [upd_same, List.map_append]; rfl, by rw [List.map_append, qe7, List.take_add_one, hp, List.map_append, List.map_append]; rfl, fun q hq => ?_⟩
                · rw [upd_ne (ne_of_none e hD3)]
                  exact sm8 _ _ (sm7 _ _ e)
                · rcases List.mem_append.mp hq with hq | hq
                  · obtain ⟨q1, q2, q3⟩ := qa7 q hq
                    exact ⟨by rw [upd_ne q2]; exact sm8 _ _ q1, q2, q3⟩
                  · rw [List.mem_singleton.mp hq]
                    exact ⟨by rw [upd_ne n4]; exact hl8, n4, sm7.free hD4⟩
            · rintro H7 ⟨sm7, qs7, hD7, qe7, qa7⟩
              rw [List.length_map, List.take_length, es] at qe7
              have fin : (rkRun rows (c + 1)) = ((left.erase p0.2).map (elimL p0.2 c), rk + 1) := by rw [ec, en]
              have rl2 : ∀ r ∈ left.erase p0.2, r.length = m ∧ ∀ x ∈ r, x.natAbs < 2 ^ bR c := fun r hr => ⟨rlen r (List.mem_of_mem_erase hr), rsm r (List.mem_of_mem_erase hr)⟩
              refine ⟨D3, qs7, y3, some (.int (c : Int)), some (.ref D2), some (.ref p0.1), y7, y8, ?_, sm6.trans sm7, D30, hD7, by rw [fin]; exact qe7, fun q hq => ⟨(qa7 q hq).1, (qa7 q hq).2.1, sm6.free (qa7 q hq).2.2⟩, ?_, ?_, ?_⟩
              · rw [fin]
                rfl
              · have := congrArg List.length qe7
                rw [List.length_map, List.length_map] at this
                have h9 := List.length_erase_le (a := p0.2) (l := left)
                have h8 := congrArg List.length pe
                rw [List.length_map] at h8
                omega
              · rw [fin]
                intro r hr
                obtain ⟨r', h', rfl⟩ := List.mem_map.mp hr
                exact elim_len l0 (rl2 r' h').1
              · rw [fin]
                intro r hr
                obtain ⟨r', h', rfl⟩ := List.mem_map.mp hr
                rw [bR_succ]
                exact elim_small l0 (rl2 r' h').1 (sb p0 h0m) (rl2 r' h').2
      · rintro σ H2 ⟨lp, ps, y3, y4, y5, y6, y7, y8, rfl, sm2, lp0, hl, pe, pa, p7, rlen, rsm⟩
        rw [Int.toNat_natCast, List.length_map, pl0]
        exact ⟨_, rfl, k H2 sm2⟩
end
/-! ### rules of whole numbers: the first part of a shortest rule is 1 or -1 -/
def conv (f g : Nat → Int) (n : Nat) : Int := sumR (fun k => f k * g (n - k)) (n + 1)
theorem conv_succ (f g : Nat → Int) (n : Nat) : conv f g (n + 1) = f 0 * g (n + 1) + conv (fun k => f (1 + k)) g n := by
  unfold conv
  rw [show n + 1 + 1 = 1 + (n + 1) by omega, sumR_shift]
  show (0 + f 0 * g (n + 1 - 0)) + _ = _
  rw [Int.zero_add]
  congr 1
  refine sumR_congr _ fun k _ => ?_
  rw [show n + 1 - (1 + k) = n - k by omega]
theorem conv_zero (f g : Nat → Int) : conv f g 0 = f 0 * g 0 := by
  show 0 + f 0 * g (0 - 0) = _
  rw [Int.zero_add]
theorem conv_congr {f f' g g' : Nat → Int} {n : Nat} (h : ∀ k, k ≤ n → f k = f' k) (h' : ∀ k, k ≤ n → g k = g' k) : conv f g n = conv f' g' n :=
  sumR_congr _ fun k hk => by rw [h k (by omega), h' (n - k) (by omega)]
theorem conv_addL (f f' g : Nat → Int) (n : Nat) : conv (fun k => f k + f' k) g n = conv f g n + conv f' g n := by
  unfold conv
  rw [← sumR_add]
  exact sumR_congr _ fun k _ => Int.add_mul _ _ _
theorem conv_smulL (c : Int) (f g : Nat → Int) (n : Nat) : conv (fun k => c * f k) g n = c * conv f g n := by
  unfold conv
  rw [← sumR_mul]
  exact sumR_congr _ fun k _ => Int.mul_assoc _ _ _
theorem conv_comm (f g : Nat → Int) (n : Nat) : conv f g n = conv g f n := by
  unfold conv
  rw [← sumR_rev (fun k => g k * f (n - k)) n]
  refine sumR_congr _ fun k hk => ?_
  show f k * g (n - k) = g (n - k) * f (n - (n - k))
  rw [show n - (n - k) = k by omega, Int.mul_comm]
theorem conv_assoc (g h : Nat → Int) : ∀ (n : Nat) (f : Nat → Int), conv f (conv g h) n = conv (conv f g) h n
  | 0, f => by rw [conv_zero, conv_zero, conv_zero, conv_zero, Int.mul_assoc]
  | n + 1, f => by
    rw [conv_succ, conv_assoc g h n, conv_succ (conv f g), conv_zero]
    have e : ∀ k, k ≤ n → conv f g (1 + k) = f 0 * g (1 + k) + conv (fun k => f (1 + k)) g k := fun k _ => by rw [Nat.add_comm 1 k, conv_succ, Nat.add_comm k 1]
    rw [conv_congr e fun _ _ => rfl, conv_addL, conv_smulL, conv_succ g h, Int.mul_add, Int.mul_assoc]
    omega
/-- nothing is made nought by what begins with no nought -/
theorem conv_null {r f : Nat → Int} (r0 : r 0 ≠ 0) (h : ∀ n, conv r f n = 0) : ∀ n, f n = 0 := by
  have key : ∀ b n, n < b → f n = 0 := fun b => by
    induction b with
    | zero => exact fun n h => absurd h (Nat.not_lt_zero n)
    | succ b ih =>
      intro n hn
      have := h n
      unfold conv at this
      rw [sumR_first fun k k1 k2 => by rw [ih (n - k) (by omega), Int.mul_zero]] at this
      exact (Int.mul_eq_zero.mp this).resolve_left r0
  exact fun n => key (n + 1) n (Nat.lt_succ_self n)
section
variable {s r : Nat → Int} {L : Nat}
theorem conv_dt {U : Nat → Int} {M n : Nat} (hU : ∀ k, M < k → U k = 0) (hn : M ≤ n) : conv U s n = dt U M s n := by
  unfold conv dt
  exact sumR_more _ (fun k hk => by rw [hU k (by omega), Int.zero_mul]) (by omega)
theorem bezout_free (R : Rule s r L) (mn : ∀ q M, Rule s q M → L ≤ M) {U V : Nat → Int} (hU : ∀ k, L ≤ k → U k = 0) (hV : ∀ k, L - 1 ≤ k → V k = 0) (h : ∀ n, conv U (conv r s) n + conv V r n = 0) :
    (∀ k, U k = 0) ∧ ∀ k, V k = 0 := by
  have h1 : ∀ n, conv r (fun k => conv U s k + V k) n = 0 := fun n => by
    rw [conv_comm r, conv_addL, conv_comm (conv U s), conv_assoc]
    rw [← h n, conv_assoc]
    congr 1
    exact conv_congr (fun k _ => conv_comm _ _ _) fun _ _ => rfl
  have h2 := conv_null R.1 h1
  have u0 : ∀ k, U k = 0 := by
    have key : ∀ b, (∀ k, k < b → U k = 0) := fun b => by
      induction b with
      | zero => exact fun k h => absurd h (Nat.not_lt_zero k)
      | succ b ih =>
        intro k hk
        rcases Nat.lt_or_ge k b with l | l
        · exact ih k l
        · have e : k = b := by omega
          subst e
          refine Classical.byContradiction fun z => ?_
          have kL : k < L := Nat.lt_of_not_le fun q => z (hU k q)
          have sh : ∀ n, conv (fun j => U (k + j)) s n = conv U s (k + n) := fun n => by
            unfold conv
            rw [show k + n + 1 = k + (n + 1) by omega, sumR_shift _ k (n + 1), sumR_zero k fun i hi => by rw [ih i hi, Int.zero_mul], Int.zero_add]
            refine sumR_congr _ fun i _ => ?_
            rw [show k + n - (k + i) = n - i by omega]
          have := mn (fun j => U (k + j)) (L - 1 - k) ⟨z, fun n hn => by
            rw [← conv_dt (fun i hi => hU _ (by omega)) hn, sh]
            have := h2 (k + n)
            rw [hV _ (by omega)] at this
            omega⟩
          omega
    exact fun k => key (k + 1) k (Nat.lt_succ_self k)
  refine ⟨u0, fun k => ?_⟩
  have := h2 k
  have z : conv U s k = 0 := sumR_zero _ fun i _ => by rw [u0 i, Int.zero_mul]
  rw [z] at this
  omega
def xp (f : Nat → Int) (i n : Nat) : Int := if i ≤ n then f (n - i) else 0
theorem xp_conv {U f : Nat → Int} {M n : Nat} (hU : ∀ k, M ≤ k → U k = 0) : sumR (fun i => U i * xp f i n) M = conv U f n := by
  have e : sumR (fun i => U i * xp f i n) (M + (n + 1)) = sumR (fun i => U i * xp f i n) M := sumR_more _ (fun k hk => by rw [hU k hk, Int.zero_mul]) (by omega)
  have e2 : sumR (fun i => U i * xp f i n) (M + (n + 1)) = sumR (fun i => U i * xp f i n) (n + 1) := sumR_more _ (fun k hk => by
    unfold xp
    rw [if_neg (by omega), Int.mul_zero]) (by omega)
  rw [← e, e2]
  unfold conv
  refine sumR_congr _ fun i hi => ?_
  unfold xp
  rw [if_pos (by omega)]
theorem bezout (R : Rule s r L) (rz : ∀ k, L < k → r k = 0) (mn : ∀ q M, Rule s q M → L ≤ M) (L1 : 1 ≤ L) : ∃ (m : Int) (G : Nat → Int), m ≠ 0 ∧ ∀ n, conv r G n = if n = 0 then m else 0 := by
  have Pz : ∀ n, L ≤ n → conv r s n = 0 := fun n hn => by rw [conv_dt rz hn, R.2 n hn]
  let v : Nat → Nat → Int := fun i n => if i = 0 then (if n = 0 then 1 else 0) else if i ≤ L then xp (conv r s) (i - 1) n else xp r (i - 1 - L) n
  obtain ⟨a, ⟨i0, hi0, ai0⟩, ha⟩ := dep (2 * L - 1) v
  let U : Nat → Int := fun k => if k < L then a (1 + k) else 0
  let V : Nat → Int := fun k => if k < L - 1 then a (1 + L + k) else 0
  have hU : ∀ k, L ≤ k → U k = 0 := fun k hk => if_neg (by omega)
  have hV : ∀ k, L - 1 ≤ k → V k = 0 := fun k hk => if_neg (by omega)
  have sp : ∀ n, sumR (fun i => a i * v i n) (2 * L - 1 + 1) = a 0 * (if n = 0 then 1 else 0) + (conv U (conv r s) n + conv V r n) := fun n => by
    rw [show 2 * L - 1 + 1 = 1 + (L + (L - 1)) by omega, sumR_shift, sumR_shift, ← xp_conv hU, ← xp_conv hV]
    have e0 : sumR (fun i => a i * v i n) 1 = a 0 * (if n = 0 then 1 else 0) := by
      show 0 + a 0 * v 0 n = _
      rw [Int.zero_add]
      rfl
    rw [e0]
    congr 1
    congr 1
    · refine sumR_congr _ fun k hk => ?_
      show a (1 + k) * (if 1 + k = 0 then _ else if 1 + k ≤ L then xp (conv r s) (1 + k - 1) n else _) = (if k < L then a (1 + k) else 0) * _
      rw [if_neg (by omega), if_pos (by omega), if_pos hk, show 1 + k - 1 = k by omega]
    · refine sumR_congr _ fun k hk => ?_
      show a (1 + (L + k)) * (if 1 + (L + k) = 0 then _ else if 1 + (L + k) ≤ L then _ else xp r (1 + (L + k) - 1 - L) n) = (if k < L - 1 then a (1 + L + k) else 0) * _
      rw [if_neg (by omega), if_neg (by omega), if_pos hk, show 1 + (L + k) - 1 - L = k by omega, show 1 + (L + k) = 1 + L + k by omega]
  have all : ∀ n, a 0 * (if n = 0 then 1 else 0) + (conv U (conv r s) n + conv V r n) = 0 := fun n => by
    rcases Nat.lt_or_ge n (2 * L - 1) with l | l
    · rw [← sp, ha n l]
    · have c1 : conv U (conv r s) n = 0 := sumR_zero _ fun k hk => by
        rcases Nat.lt_or_ge k L with q | q
        · rw [Pz (n - k) (by omega), Int.mul_zero]
        · rw [hU k q, Int.zero_mul]
      have c2 : conv V r n = 0 := sumR_zero _ fun k hk => by
        rcases Nat.lt_or_ge k (L - 1) with q | q
        · rw [rz (n - k) (by omega), Int.mul_zero]
        · rw [hV k q, Int.zero_mul]
      rw [c1, c2, if_neg (by omega), Int.mul_zero]
      rfl
  have a0 : a 0 ≠ 0 := fun z => by
    obtain ⟨u0, v0⟩ := bezout_free R mn hU hV fun n => by
      have := all n
      rw [z, Int.zero_mul, Int.zero_add] at this
      exact this
    rcases Nat.eq_zero_or_pos i0 with e | e
    · rw [e] at ai0
      exact ai0 z
    · rcases Nat.lt_or_ge (i0 - 1) L with q | q
      · have := u0 (i0 - 1)
        have this : (if i0 - 1 < L then a (1 + (i0 - 1)) else 0) = 0 := this
        rw [if_pos q, show 1 + (i0 - 1) = i0 by omega] at this
        exact ai0 this
      · have := v0 (i0 - 1 - L)
        have this : (if i0 - 1 - L < L - 1 then a (1 + L + (i0 - 1 - L)) else 0) = 0 := this
        rw [if_pos (by omega), show 1 + L + (i0 - 1 - L) = i0 by omega] at this
        exact ai0 this
  refine ⟨-(a 0), fun k => conv U s k + V k, fun z => a0 (by omega), fun n => ?_⟩
  rw [conv_comm r, conv_addL, conv_comm (conv U s), conv_assoc, conv_congr (f := conv r U) (f' := conv U r) (fun k _ => conv_comm _ _ _) (fun _ _ => rfl), ← conv_assoc]
  have := all n
  by_cases z : n = 0
  · rw [if_pos z] at this
    rw [if_pos z]
    omega
  · rw [if_neg z, Int.mul_zero] at this
    rw [if_neg z]
    omega
end
theorem least_div : ∀ (m : Nat), 2 ≤ m → ∃ p, 2 ≤ p ∧ p ∣ m ∧ ∀ d, 2 ≤ d → d ∣ p → d = p := fun m h => by
  have key : ∀ b x, x ≤ b → 2 ≤ x → x ∣ m → ∃ p, 2 ≤ p ∧ p ∣ m ∧ ∀ d, 2 ≤ d → d ∣ p → d = p := fun b => by
    induction b with
    | zero => exact fun x h h' => absurd h' (by omega)
    | succ b ih =>
      intro x hx x2 xm
      by_cases z : ∃ d, 2 ≤ d ∧ d ∣ x ∧ d ≠ x
      · obtain ⟨d, d2, dx, dn⟩ := z
        have := Nat.le_of_dvd (by omega) dx
        exact ih d (by omega) d2 (Nat.dvd_trans dx xm)
      · exact ⟨x, x2, xm, fun d d2 dx => Classical.byContradiction fun n => z ⟨d, d2, dx, n⟩⟩
  exact key m m (Nat.le_refl m) h (Nat.dvd_refl m)
theorem prime_mul {p : Nat} (p2 : 2 ≤ p) (hp : ∀ d, 2 ≤ d → d ∣ p → d = p) {a b : Int} (h : (p : Int) ∣ a * b) : (p : Int) ∣ a ∨ (p : Int) ∣ b := by
  have h := Int.natAbs_dvd_natAbs.mpr h
  rw [Int.natAbs_mul, Int.natAbs_natCast] at h
  have g1 : Nat.gcd p a.natAbs ∣ p := Nat.gcd_dvd_left _ _
  rcases Nat.lt_or_ge (Nat.gcd p a.natAbs) 2 with l | l
  · have gp : 0 < Nat.gcd p a.natAbs := Nat.gcd_pos_of_pos_left _ (by omega)
    have c : Nat.Coprime p a.natAbs := show Nat.gcd p a.natAbs = 1 by omega
    exact .inr (Int.natAbs_dvd_natAbs.mp (by rw [Int.natAbs_natCast]; exact c.dvd_of_dvd_mul_left h))
  · have e := hp _ l g1
    have g2 : Nat.gcd p a.natAbs ∣ a.natAbs := Nat.gcd_dvd_right _ _
    rw [e] at g2
    exact .inl (Int.natAbs_dvd_natAbs.mp (by rw [Int.natAbs_natCast]; exact g2))
/-- the parts have no factor in common -/
def Prim (r : Nat → Int) : Prop := ∀ p : Nat, 2 ≤ p → ¬ ∀ k, (p : Int) ∣ r k
theorem least_not {P : Nat → Prop} (h : ¬ ∀ k, P k) : ∃ k, ¬ P k ∧ ∀ j, j < k → P j := by
  obtain ⟨k, hk⟩ := Classical.not_forall.mp h
  have key : ∀ b k, k < b → ¬ P k → ∃ k, ¬ P k ∧ ∀ j, j < k → P j := fun b => by
    induction b with
    | zero => exact fun k h => absurd h (Nat.not_lt_zero k)
    | succ b ih =>
      intro k hk nk
      by_cases z : ∃ j, j < k ∧ ¬ P j
      · obtain ⟨j, jk, nj⟩ := z
        exact ih j (by omega) nj
      · exact ⟨k, nk, fun j jk => Classical.byContradiction fun n => z ⟨j, jk, n⟩⟩
  exact key (k + 1) k (Nat.lt_succ_self k) hk
theorem dvd_sumR {p : Int} {f : Nat → Int} : ∀ (n : Nat), (∀ k, k < n → p ∣ f k) → p ∣ sumR f n
  | 0, _ => Int.dvd_zero p
  | n + 1, h => Int.dvd_add (dvd_sumR n fun k hk => h k (by omega)) (h n (by omega))
/-- of a prime that divides all of the one times the other, it divides one of them -/
theorem conv_prime {p : Nat} (p2 : 2 ≤ p) (hp : ∀ d, 2 ≤ d → d ∣ p → d = p) {f g : Nat → Int} (h : ∀ n, (p : Int) ∣ conv f g n) (nf : ¬ ∀ k, (p : Int) ∣ f k) : ∀ k, (p : Int) ∣ g k := by
  refine Classical.byContradiction fun ng => ?_
  obtain ⟨i, ni, hi⟩ := least_not nf
  obtain ⟨j, nj, hj⟩ := least_not ng
  have e : conv f g (i + j) = sumR (fun k => f k * g (i + j - k)) i + (f i * g j + sumR (fun k => f (i + (1 + k)) * g (i + j - (i + (1 + k)))) j) := by
    unfold conv
    rw [show i + j + 1 = i + (1 + j) by omega, sumR_shift, sumR_shift _ 1 j]
    congr 1
    congr 1
    show 0 + f (i + 0) * g (i + j - (i + 0)) = _
    rw [Int.zero_add, show i + j - (i + 0) = j by omega]
    rfl
  have h1 : (p : Int) ∣ sumR (fun k => f k * g (i + j - k)) i := dvd_sumR i fun k hk => Int.dvd_mul_of_dvd_left (hi k hk)
  have h2 : (p : Int) ∣ sumR (fun k => f (i + (1 + k)) * g (i + j - (i + (1 + k)))) j := dvd_sumR j fun k hk => Int.dvd_mul_of_dvd_right (hj _ (by omega))
  have h3 := h (i + j)
  rw [e] at h3
  have h4 : (p : Int) ∣ f i * g j := by
    have h5 := (Int.dvd_add_right h1).mp h3
    exact (Int.dvd_add_left h2).mp h5
  rcases prime_mul p2 hp h4 with z | z
  · exact ni z
  · exact nj z
theorem fatou_unit {r : Nat → Int} (pr : Prim r) : ∀ (b : Nat) (m : Int) (G : Nat → Int), m.natAbs ≤ b → m ≠ 0 → (∀ n, conv r G n = if n = 0 then m else 0) → r 0 = 1 ∨ r 0 = -1
  | 0, m, G, hb, m0, _ => absurd (Int.natAbs_eq_zero.mp (Nat.le_zero.mp hb)) m0
  | b + 1, m, G, hb, m0, h => by
    rcases Nat.lt_or_ge m.natAbs 2 with l | l
    · have e := h 0
      rw [conv_zero, if_pos rfl] at e
      have e2 : (r 0).natAbs * (G 0).natAbs = 1 := by
        rw [← Int.natAbs_mul, e]
        have := Int.natAbs_pos.mpr m0
        omega
      have := Nat.eq_one_of_mul_eq_one_right e2
      omega
    · obtain ⟨p, p2, pm, hp⟩ := least_div m.natAbs l
      have pm' : (p : Int) ∣ m := Int.natAbs_dvd_natAbs.mp (by rw [Int.natAbs_natCast]; exact pm)
      have dv := conv_prime p2 hp (fun n => by
        rw [h n]
        by_cases z : n = 0
        · rw [if_pos z]; exact pm'
        · rw [if_neg z]; exact Int.dvd_zero _) (pr p p2)
      have ⟨G', hG⟩ := Classical.axiomOfChoice dv
      obtain ⟨m', hm⟩ := pm'
      have pz : (p : Int) ≠ 0 := by omega
      refine fatou_unit pr b m' G' ?_ (fun z => m0 (by rw [hm, z, Int.mul_zero])) fun n => ?_
      · have : m.natAbs = p * m'.natAbs := by rw [hm, Int.natAbs_mul, Int.natAbs_natCast]
        have m1 : 0 < m'.natAbs := Int.natAbs_pos.mpr fun z => m0 (by rw [hm, z, Int.mul_zero])
        have : 2 * m'.natAbs ≤ p * m'.natAbs := Nat.mul_le_mul_right _ p2
        omega
      · have e := h n
        rw [conv_comm, conv_congr (f := G) (f' := fun k => (p : Int) * G' k) (fun k _ => hG k) (fun _ _ => rfl), conv_smulL, conv_comm] at e
        by_cases z : n = 0
        · rw [if_pos z, hm] at e
          rw [if_pos z]
          exact Int.eq_of_mul_eq_mul_left pz e
        · rw [if_neg z] at e
          rw [if_neg z]
          exact (Int.mul_eq_zero.mp e).resolve_left pz
/-- a shortest rule without a factor in common begins with 1 or -1 -/
theorem fatou {s r : Nat → Int} {L : Nat} (R : Rule s r L) (rz : ∀ k, L < k → r k = 0) (mn : ∀ q M, Rule s q M → L ≤ M) (pr : Prim r) : r 0 = 1 ∨ r 0 = -1 := by
  rcases Nat.eq_zero_or_pos L with e | e
  · subst e
    rcases Nat.lt_or_ge (r 0).natAbs 2 with l | l
    · have := Int.natAbs_pos.mpr R.1
      omega
    · exact absurd (fun k => by
        rcases Nat.eq_zero_or_pos k with q | q
        · rw [q]; exact Int.natAbs_dvd_natAbs.mp (by rw [Int.natAbs_natCast]; exact Nat.dvd_refl _)
        · rw [rz k q]; exact Int.dvd_zero _) (pr (r 0).natAbs l)
  · obtain ⟨m, G, m0, h⟩ := bezout R rz mn e
    exact fatou_unit pr m.natAbs m G (Nat.le_refl _) m0 h
/-! ### what goes_on tells -/
theorem gcdF_great {d : Nat} : ∀ (xs : List Int) (e : Nat), d ∣ e → (∀ x ∈ xs, d ∣ x.natAbs) → d ∣ gcdF xs e
  | [], e, h, _ => h
  | x :: xs, e, h, hx => gcdF_great xs (Nat.gcd e x.natAbs) (Nat.dvd_gcd h (hx x List.mem_cons_self)) fun y hy => hx y (List.mem_cons_of_mem _ hy)
theorem with_prim {xs : List Int} (h : gcdL xs ≠ 0) : Prim (fnL (withL xs)) := fun p p2 dv => by
  have e : p * gcdL xs ∣ gcdL xs := gcdF_great xs 0 (Nat.dvd_zero _) fun x hx => by
    obtain ⟨k, hk⟩ := List.mem_iff_getElem?.mp hx
    have e1 : fnL xs k = x := by
      unfold fnL
      rw [List.getD_eq_getElem?_getD, hk]
      rfl
    obtain ⟨q, hq⟩ := dv k
    have := with_at xs k
    rw [e1, hq] at this
    rw [← this, Int.natAbs_mul, Int.natAbs_mul, Int.natAbs_natCast, Int.natAbs_natCast, ← Nat.mul_assoc, Nat.mul_comm p]
    exact Nat.dvd_mul_right _ _
  have := Nat.le_of_dvd (by omega) e
  have : 2 * gcdL xs ≤ p * gcdL xs := Nat.mul_le_mul_right _ p2
  omega
theorem bm_prim (s : Nat → Int) : ∀ a, Prim (fnL (bmRun s a).r)
  | 0 => fun p p2 dv => by
    have := dv 0
    have this : (p : Int) ∣ 1 := this
    have := Int.le_of_dvd (by decide) this
    omega
  | a + 1 => by
    have I := bm_inv s (a + 1)
    have ih := bm_prim s a
    have step : ∀ (N : Nat) (ms : Int), fnL (padL (bmMend (bmRun s a) ms) N) 0 ≠ 0 → Prim (fnL (padL (bmMend (bmRun s a) ms) N)) := fun N ms h => by
      rw [pad_at] at h
      have g : gcdL (mendL (bmRun s a).r (bmRun s a).md (bmRun s a).o ms (bmRun s a).gap) ≠ 0 := fun z => h (by
        show fnL (withL _) 0 = 0
        unfold fnL withL
        rw [z, List.getD_eq_getElem?_getD, List.getElem?_map]
        cases (mendL (bmRun s a).r (bmRun s a).md (bmRun s a).o ms (bmRun s a).gap)[0]? with
        | none => rfl
        | some x => exact Int.ediv_zero x)
      have := with_prim g
      intro p p2 dv
      refine this p p2 fun k => ?_
      have := dv k
      rw [pad_at] at this
      exact this
    have r0 := I.r0
    show Prim (fnL (bmStep s a (bmRun s a)).r)
    have r0 : fnL (bmStep s a (bmRun s a)).r 0 ≠ 0 := r0
    unfold bmStep at r0 ⊢
    by_cases z : bmMiss s a (bmRun s a) = 0
    · rw [if_pos z]
      exact ih
    · rw [if_neg z] at r0 ⊢
      by_cases y : 2 * (bmRun s a).L ≤ a
      · rw [if_pos y] at r0 ⊢
        exact step _ _ r0
      · rw [if_neg y] at r0 ⊢
        exact step _ _ r0
theorem bm_out_at {b : BS} {k : Nat} (hk : k < b.L) : (bmOut b)[k]? = some (Int.fdiv (-(fnL b.r (k + 1))) (fnL b.r 0)) := by
  unfold bmOut
  rw [List.getElem?_map, List.getElem?_range hk]
  rfl
theorem bm_len (b : BS) : (bmOut b).length = b.L := by
  unfold bmOut
  rw [List.length_map, List.length_range]
/-- what goes_on tells is a rule of whole numbers, and as short as there is one -/
theorem goes_right {s c : Nat → Int} {M N : Nat} (R : Rule s c M) (h : 2 * M ≤ N) :
    (∀ n, (bmOut (bmRun s N)).length ≤ n → s n = sumR (fun k => (bmOut (bmRun s N)).getD k 0 * s (n - 1 - k)) (bmOut (bmRun s N)).length) ∧
    (∀ n, (bmOut (bmRun s N)).length ≤ n → (rkRun (hankel s n) (n + 1)).2 = (bmOut (bmRun s N)).length) ∧ (bmOut (bmRun s N)).length ≤ M := by
  have I := bm_inv s N
  have R' := bm_rule R h
  have pr := bm_prim s N
  have mn := I.mn
  have rl := I.rl
  generalize bmRun s N = b at *
  have f := fatou R' (fun k hk => fnL_out (by omega)) mn pr
  rw [bm_len]
  refine ⟨fun n hn => ?_, fun n hn => rk_rule R' mn hn, mn _ _ R⟩
  have e := R'.2 n hn
  unfold dt at e
  rw [Nat.add_comm b.L 1, sumR_shift] at e
  have e0 : sumR (fun k => fnL b.r k * s (n - k)) 1 = fnL b.r 0 * s n := by
    show 0 + fnL b.r 0 * s (n - 0) = _
    rw [Int.zero_add, Nat.sub_zero]
  rw [e0] at e
  have e1 : ∀ k, k < b.L → (bmOut b).getD k 0 * s (n - 1 - k) = -(fnL b.r 0) * (fnL b.r (1 + k) * s (n - (1 + k))) := fun k hk => by
    rw [List.getD_eq_getElem?_getD, bm_out_at hk, show n - 1 - k = n - (1 + k) by omega, Nat.add_comm 1 k]
    show Int.fdiv (-(fnL b.r (k + 1))) (fnL b.r 0) * _ = _
    rcases f with f | f
    · rw [f, Int.fdiv_one, Int.neg_mul, Int.neg_mul, Int.one_mul]
    · rw [f]
      have : Int.fdiv (-(fnL b.r (k + 1))) (-1) = fnL b.r (k + 1) := by
        have := Int.mul_fdiv_cancel (fnL b.r (k + 1)) (b := -1) (by decide)
        rw [Int.mul_neg, Int.mul_one] at this
        exact this
      rw [this, Int.neg_neg, Int.one_mul]
  rw [sumR_congr _ e1, sumR_mul]
  rcases f with f | f
  · rw [f] at e ⊢
    omega
  · rw [f] at e ⊢
    omega
/-! ### rules of given numbers, by reckoning -/
/-- r times the numbers so far, the last one first -/
def dotR : List Int → List Int → Int
  | [], _ => 0
  | x :: xs, ys => x * ys.headD 0 + dotR xs ys.tail
def missT (b : BS) (rev : List Int) : Int := dotR b.r rev
def mendT (r : List Int) (md : Int) (o : List Int) (ms : Int) (gap : Nat) : List Int :=
  List.zipWith (fun x y => md * x - ms * y) (r ++ List.replicate (o.length + gap - r.length) 0) (List.replicate gap 0 ++ o ++ List.replicate (r.length - (o.length + gap)) 0)
def stepT (a : Nat) (rev : List Int) (b : BS) : BS :=
  if missT b rev = 0 then ⟨b.r, b.o, b.L, b.md, b.gap + 1⟩
  else if 2 * b.L ≤ a then ⟨padL (withL (mendT b.r b.md b.o (missT b rev) b.gap)) (a + 1 - b.L + 1), b.r, a + 1 - b.L, missT b rev, 1⟩
  else ⟨padL (withL (mendT b.r b.md b.o (missT b rev) b.gap)) (b.L + 1), b.o, b.L, b.md, b.gap + 1⟩
def okT (b : BS) : Bool := b.r.all (fun x => decide (x.natAbs < 2 ^ 4000)) && b.o.all (fun x => decide (x.natAbs < 2 ^ 4000)) && decide (b.md.natAbs < 2 ^ 8000)
def runT (rev : List Int) (a : Nat) (b : BS) : List Int → Bool × BS
  | [] => (okT b, b)
  | x :: xs => if okT b && (decide (missT b (x :: rev) = 0) || decide (gcdL (mendT b.r b.md b.o (missT b (x :: rev)) b.gap) < 2 ^ 8000)) then runT (x :: rev) (a + 1) (stepT a (x :: rev) b) xs else (false, b)
def chainV : Nat → List Int → List Int
  | _, [] => []
  | _, x :: xs => (2 * x + xs.headD 0) :: chainV 0 xs
def chainS : Nat → List Int → List Int
  | 0, _ => []
  | n + 1, v => v.headD 0 :: chainS n (chainV 0 v)
def chainN (m : Nat) : List Int := chainS (2 * m) (List.replicate (m - 1) 0 ++ [1])
theorem dot_sum : ∀ (r ys : List Int), dotR r ys = sumR (fun k => fnL r k * ys.getD k 0) r.length
  | [], ys => rfl
  | x :: xs, ys => by
    show x * ys.headD 0 + dotR xs ys.tail = sumR _ (xs.length + 1)
    rw [Nat.add_comm xs.length 1, sumR_shift, dot_sum xs ys.tail]
    have e0 : sumR (fun k => fnL (x :: xs) k * ys.getD k 0) 1 = x * ys.headD 0 := by
      show 0 + x * ys.getD 0 0 = _
      rw [Int.zero_add]
      cases ys <;> rfl
    rw [e0]
    congr 1
    refine sumR_congr _ fun k _ => ?_
    rw [Nat.add_comm 1 k]
    show _ = fnL xs k * _
    congr 1
    cases ys with
    | nil => rfl
    | cons y ys => rfl
def revOf (s : Nat → Int) : Nat → List Int
  | 0 => []
  | a + 1 => s a :: revOf s a
theorem rev_at (s : Nat → Int) : ∀ (a k : Nat), k < a → (revOf s a).getD k 0 = s (a - 1 - k)
  | 0, _, h => absurd h (Nat.not_lt_zero _)
  | a + 1, 0, _ => rfl
  | a + 1, k + 1, h => by
    show (revOf s a).getD k 0 = _
    rw [rev_at s a k (by omega), show a + 1 - 1 - (k + 1) = a - 1 - k by omega]
theorem miss_fast {s : Nat → Int} {a : Nat} {b : BS} (I : BMI s a b) : missT b (s a :: revOf s a) = bmMiss s a b := by
  unfold missT bmMiss dt
  rw [dot_sum, I.rl]
  refine sumR_congr _ fun k hk => ?_
  have := I.La
  have := rev_at s (a + 1) k (by omega)
  have this : (s a :: revOf s a).getD k 0 = _ := this
  rw [this, show a + 1 - 1 - k = a - k by omega]
theorem getD_app (xs ys : List Int) (k : Nat) : (xs ++ ys).getD k 0 = if k < xs.length then xs.getD k 0 else ys.getD (k - xs.length) 0 := by
  rw [List.getD_eq_getElem?_getD, List.getD_eq_getElem?_getD, List.getD_eq_getElem?_getD, List.getElem?_append]
  by_cases h : k < xs.length
  · rw [if_pos h, if_pos h]
  · rw [if_neg h, if_neg h]
theorem getD_rep (n k : Nat) : (List.replicate n (0 : Int)).getD k 0 = 0 := by
  rw [List.getD_eq_getElem?_getD, List.getElem?_replicate]
  by_cases h : k < n
  · rw [if_pos h]; rfl
  · rw [if_neg h]; rfl
theorem getD_outI {xs : List Int} {k : Nat} (h : xs.length ≤ k) : xs.getD k 0 = 0 := by
  rw [List.getD_eq_getElem?_getD, List.getElem?_eq_none h]
  rfl
theorem mend_fast (r : List Int) (md : Int) (o : List Int) (ms : Int) (gap : Nat) : mendT r md o ms gap = mendL r md o ms gap := by
  refine List.ext_getElem? fun k => ?_
  unfold mendT mendL
  rw [List.getElem?_zipWith, List.getElem?_map]
  have lA : (r ++ List.replicate (o.length + gap - r.length) (0 : Int)).length = max r.length (o.length + gap) := by
    rw [List.length_append, List.length_replicate]
    omega
  have lB : (List.replicate gap (0 : Int) ++ o ++ List.replicate (r.length - (o.length + gap)) 0).length = max r.length (o.length + gap) := by
    rw [List.length_append, List.length_append, List.length_replicate, List.length_replicate]
    omega
  by_cases h : k < max r.length (o.length + gap)
  · rw [List.getElem?_range h, List.getElem?_eq_getElem (show k < _ by rw [lA]; exact h), List.getElem?_eq_getElem (show k < _ by rw [lB]; exact h)]
    show some _ = some _
    congr 1
    have eA : (r ++ List.replicate (o.length + gap - r.length) (0 : Int))[k]'(by rw [lA]; exact h) = fnL r k := by
      have : (r ++ List.replicate (o.length + gap - r.length) (0 : Int)).getD k 0 = fnL r k := by
        rw [getD_app, getD_rep]
        unfold fnL
        by_cases q : k < r.length
        · rw [if_pos q]
        · rw [if_neg q, getD_outI (by omega)]
      rw [← this, List.getD_eq_getElem?_getD, List.getElem?_eq_getElem (show k < _ by rw [lA]; exact h)]
      rfl
    have eB : (List.replicate gap (0 : Int) ++ o ++ List.replicate (r.length - (o.length + gap)) 0)[k]'(by rw [lB]; exact h) = if gap ≤ k then fnL o (k - gap) else 0 := by
      have : (List.replicate gap (0 : Int) ++ o ++ List.replicate (r.length - (o.length + gap)) 0).getD k 0 = if gap ≤ k then fnL o (k - gap) else 0 := by
        rw [getD_app, getD_app, getD_rep, getD_rep, List.length_append, List.length_replicate]
        unfold fnL
        by_cases q : gap ≤ k
        · rw [if_pos q, if_neg (show ¬ k < gap by omega)]
          by_cases y : k < gap + o.length
          · rw [if_pos y]
          · rw [if_neg y, getD_outI (by omega)]
        · rw [if_neg q, if_pos (show k < gap by omega), if_pos (by omega)]
      rw [← this, List.getD_eq_getElem?_getD, List.getElem?_eq_getElem (show k < _ by rw [lB]; exact h)]
      rfl
    rw [eA, eB]
    show _ = md * fnL r k - (if gap ≤ k then ms * fnL o (k - gap) else 0)
    by_cases q : gap ≤ k
    · rw [if_pos q, if_pos q]
    · rw [if_neg q, if_neg q, Int.mul_zero]
  · rw [List.getElem?_eq_none (show _ ≤ k by rw [lA]; omega), List.getElem?_eq_none (l := List.range _) (by rw [List.length_range]; omega)]
    rfl
theorem step_fast {s : Nat → Int} {a : Nat} {b : BS} (I : BMI s a b) : stepT a (s a :: revOf s a) b = bmStep s a b := by
  unfold stepT bmStep bmMend
  rw [miss_fast I, mend_fast]
/-- all that is reckoned with on the way is small enough -/
structure FineB (b : BS) : Prop where
  r : ∀ x ∈ b.r, x.natAbs < 2 ^ 8000
  o : ∀ x ∈ b.o, x.natAbs < 2 ^ 8000
  md : b.md.natAbs < 2 ^ 8000
structure FineR (s : Nat → Int) (N : Nat) : Prop where
  b : ∀ a, a ≤ N → FineB (bmRun s a)
  g : ∀ a, a < N → bmMiss s a (bmRun s a) ≠ 0 → (gcdL (mendL (bmRun s a).r (bmRun s a).md (bmRun s a).o (bmMiss s a (bmRun s a)) (bmRun s a).gap)).log2 < 9000
theorem ok_fine {b : BS} (h : okT b = true) : FineB b := by
  unfold okT at h
  obtain ⟨h1, h3⟩ := Bool.and_eq_true_iff.mp h
  obtain ⟨h1, h2⟩ := Bool.and_eq_true_iff.mp h1
  have up : ∀ x : Int, x.natAbs < 2 ^ 4000 → x.natAbs < 2 ^ 8000 := fun x hx => Nat.lt_of_lt_of_le hx (Nat.pow_le_pow_right (by decide) (by decide))
  exact ⟨fun x hx => up x (of_decide_eq_true (List.all_eq_true.mp h1 x hx)), fun x hx => up x (of_decide_eq_true (List.all_eq_true.mp h2 x hx)), of_decide_eq_true h3⟩
def tailOf (s : Nat → Int) (a : Nat) : Nat → List Int
  | 0 => []
  | n + 1 => s a :: tailOf s (a + 1) n
theorem run_fine {s : Nat → Int} : ∀ (n a : Nat), (runT (revOf s a) a (bmRun s a) (tailOf s a n)).1 = true →
    (runT (revOf s a) a (bmRun s a) (tailOf s a n)).2 = bmRun s (a + n) ∧ (∀ k, a ≤ k → k ≤ a + n → FineB (bmRun s k)) ∧
    ∀ k, a ≤ k → k < a + n → bmMiss s k (bmRun s k) ≠ 0 → (gcdL (mendL (bmRun s k).r (bmRun s k).md (bmRun s k).o (bmMiss s k (bmRun s k)) (bmRun s k).gap)).log2 < 9000
  | 0, a, h => by
    refine ⟨rfl, fun k h1 h2 => ?_, fun k h1 h2 => absurd h2 (by omega)⟩
    rw [show k = a by omega]
    exact ok_fine h
  | n + 1, a, h => by
    have I := bm_inv s a
    show (runT _ _ _ (s a :: tailOf s (a + 1) n)).2 = _ ∧ _
    have h : (runT (revOf s a) a (bmRun s a) (s a :: tailOf s (a + 1) n)).1 = true := h
    unfold runT at h ⊢
    by_cases c : (okT (bmRun s a) && (decide (missT (bmRun s a) (s a :: revOf s a) = 0) || decide (gcdL (mendT (bmRun s a).r (bmRun s a).md (bmRun s a).o (missT (bmRun s a) (s a :: revOf s a)) (bmRun s a).gap) < 2 ^ 8000))) = true
    · rw [if_pos c] at h ⊢
      rw [step_fast I] at h ⊢
      obtain ⟨h1, h2, h3⟩ := run_fine n (a + 1) h
      obtain ⟨c1, c2⟩ := Bool.and_eq_true_iff.mp c
      refine ⟨?_, fun k k1 k2 => ?_, fun k k1 k2 => ?_⟩
      · rw [show a + (n + 1) = a + 1 + n by omega]
        exact h1
      · rcases Nat.lt_or_ge a k with l | l
        · exact h2 k l (by omega)
        · rw [show k = a by omega]
          exact ok_fine c1
      · rcases Nat.lt_or_ge a k with l | l
        · exact h3 k l (by omega)
        · rw [show k = a by omega]
          intro z
          rw [miss_fast I, mend_fast] at c2
          rcases Bool.or_eq_true_iff.mp c2 with y | y
          · exact absurd (of_decide_eq_true y) z
          · have y := of_decide_eq_true y
            by_cases q : gcdL (mendL (bmRun s a).r (bmRun s a).md (bmRun s a).o (bmMiss s a (bmRun s a)) (bmRun s a).gap) = 0
            · rw [q]
              decide
            · exact Nat.lt_of_lt_of_le ((Nat.log2_lt q).mpr y) (by decide)
    · rw [if_neg c] at h
      exact absurd h Bool.false_ne_true
theorem tail_list (s : Nat → Int) : ∀ (n a : Nat) (xs : List Int), xs.length = n → (∀ k, k < n → xs.getD k 0 = s (a + k)) → tailOf s a n = xs
  | 0, a, xs, h, _ => (List.length_eq_zero_iff.mp h).symm
  | n + 1, a, [], h, _ => absurd h (by simp)
  | n + 1, a, x :: xs, h, e => by
    show s a :: tailOf s (a + 1) n = _
    rw [tail_list s n (a + 1) xs (Nat.succ.inj h) fun k hk => by
      have := e (k + 1) (by omega)
      rw [show a + 1 + k = a + (k + 1) by omega, ← this]
      rfl]
    have := e 0 (by omega)
    rw [show s a = x from this.symm]
/-- the numbers are those of a list: the rule is found by reckoning -/
def bmL (xs : List Int) : Bool × BS := runT [] 0 ⟨[1], [1], 0, 1, 1⟩ xs
theorem by_list {s : Nat → Int} {xs : List Int} (h : (bmL xs).1 = true) (e : ∀ k, k < xs.length → xs.getD k 0 = s k) : FineR s xs.length ∧ bmRun s xs.length = (bmL xs).2 := by
  have t := tail_list s xs.length 0 xs rfl fun k hk => by rw [Nat.zero_add]; exact e k hk
  have h' : (runT (revOf s 0) 0 (bmRun s 0) (tailOf s 0 xs.length)).1 = true := by rw [t]; exact h
  obtain ⟨h1, h2, h3⟩ := run_fine xs.length 0 h'
  rw [t, Nat.zero_add] at h1
  exact ⟨⟨fun a ha => h2 a (Nat.zero_le a) (by omega), fun a ha => h3 a (Nat.zero_le a) (by omega)⟩, h1.symm⟩
/-! ### how great the parts of rules get, up to six states -/
def bQ : Nat → Nat × Nat
  | 0 => (1, 1)
  | a + 1 => if a < 12 then ((bQ a).1 + (bQ a).2 + (8 * a / 5 + 6), (bQ a).1) else bQ a
theorem bQ_late : ∀ d, bQ (12 + d) = bQ 12
  | 0 => rfl
  | d + 1 => by
    show (if 12 + d < 12 then _ else bQ (12 + d)) = _
    rw [if_neg (by omega)]
    exact bQ_late d
theorem bQ_small : ∀ a, a ≤ 12 → (bQ a).1 ≤ 4000 ∧ (bQ a).2 ≤ (bQ a).1 := by decide +kernel
theorem bQ_le (a : Nat) : (bQ a).1 ≤ 4000 ∧ (bQ a).2 ≤ (bQ a).1 := by
  rcases Nat.le_total a 12 with l | l
  · exact bQ_small a l
  · rw [show a = 12 + (a - 12) by omega, bQ_late]
    exact bQ_small 12 (Nat.le_refl 12)
structure BndQ (a : Nat) (b : BS) : Prop where
  r : ∀ x ∈ b.r, x.natAbs < 2 ^ (bQ a).1
  o : ∀ x ∈ b.o, x.natAbs < 2 ^ (bQ a).2
  md : b.md.natAbs < 2 ^ ((bQ a).2 + (8 * a / 5 + 5))
theorem missQ {s : Nat → Int} {a : Nat} {b : BS} (I : BMI s a b) (h : BndQ a b) (sb : ∀ i, i ≤ 11 → (s i).natAbs < 2 ^ (8 * i / 5 + 1)) (a9 : a < 12) : (bmMiss s a b).natAbs < 2 ^ ((bQ a).1 + (8 * a / 5 + 5)) := by
  have La := I.La
  have : (bmMiss s a b).natAbs ≤ (b.L + 1) * 2 ^ ((bQ a).1 + (8 * a / 5 + 1)) := by
    refine sumR_bound _ fun k hk => Nat.le_of_lt ?_
    rw [Int.natAbs_mul, Nat.pow_add]
    exact Nat.mul_lt_mul'' (fnL_bound h.r k) (pow_lt_of (sb _ (by omega)) (by omega))
  have e : 2 ^ ((bQ a).1 + (8 * a / 5 + 5)) = 16 * 2 ^ ((bQ a).1 + (8 * a / 5 + 1)) := by
    rw [show (bQ a).1 + (8 * a / 5 + 5) = 4 + ((bQ a).1 + (8 * a / 5 + 1)) by omega, Nat.pow_add]
  rw [e]
  have p := Nat.two_pow_pos ((bQ a).1 + (8 * a / 5 + 1))
  have := Nat.mul_le_mul_right (2 ^ ((bQ a).1 + (8 * a / 5 + 1))) (show b.L + 1 ≤ 15 by omega)
  omega
theorem mendQ {b : BS} {ms : Int} {p q c : Nat} (hr : ∀ x ∈ b.r, x.natAbs < 2 ^ p) (ho : ∀ x ∈ b.o, x.natAbs < 2 ^ q) (hm : b.md.natAbs < 2 ^ (q + c)) (hs : ms.natAbs < 2 ^ (p + c)) (k : Nat) : (fnL (mendL b.r b.md b.o ms b.gap) k).natAbs < 2 ^ (p + q + (c + 1)) := by
  rw [mend_at]
  have h1 : (b.md * fnL b.r k).natAbs < 2 ^ (p + q + c) := by
    rw [Int.natAbs_mul, show p + q + c = (q + c) + p by omega, Nat.pow_add]
    exact Nat.mul_lt_mul'' hm (fnL_bound hr k)
  have h2 : (if b.gap ≤ k then ms * fnL b.o (k - b.gap) else 0).natAbs < 2 ^ (p + q + c) := by
    by_cases z : b.gap ≤ k
    · rw [if_pos z, Int.natAbs_mul, show p + q + c = (p + c) + q by omega, Nat.pow_add]
      exact Nat.mul_lt_mul'' hs (fnL_bound ho _)
    · rw [if_neg z]
      exact Nat.two_pow_pos _
  have h3 := Int.natAbs_sub_le (b.md * fnL b.r k) (if b.gap ≤ k then ms * fnL b.o (k - b.gap) else 0)
  rw [show p + q + (c + 1) = (p + q + c) + 1 by omega, Nat.pow_succ]
  omega
theorem bndQ_step {s c : Nat → Int} {a M : Nat} (I : BMI s a (bmRun s a)) (h : BndQ a (bmRun s a)) (sb : ∀ i, i ≤ 11 → (s i).natAbs < 2 ^ (8 * i / 5 + 1)) (R : Rule s c M) (M6 : M ≤ 6) : BndQ (a + 1) (bmRun s (a + 1)) := by
  show BndQ (a + 1) (bmStep s a (bmRun s a))
  have qp := (bQ_le a).2
  rcases Nat.lt_or_ge a 12 with l | l
  · have e1 : (bQ (a + 1)).1 = (bQ a).1 + (bQ a).2 + (8 * a / 5 + 6) := by show (if a < 12 then _ else _ : Nat × Nat).1 = _; rw [if_pos l]
    have e2 : (bQ (a + 1)).2 = (bQ a).1 := by show (if a < 12 then _ else _ : Nat × Nat).2 = _; rw [if_pos l]
    have mb := missQ I h sb l
    have rb := pad_bound (n := (bmRun s a).L + 1) (with_bound (mendQ h.r h.o h.md mb))
    have rb2 := pad_bound (n := a + 1 - (bmRun s a).L + 1) (with_bound (mendQ h.r h.o h.md mb))
    have w1 : ∀ x ∈ (bmRun s a).r, x.natAbs < 2 ^ (bQ (a + 1)).1 := fun x hx => pow_lt_of (h.r x hx) (by rw [e1]; omega)
    have w2 : ∀ x ∈ (bmRun s a).o, x.natAbs < 2 ^ (bQ (a + 1)).2 := fun x hx => pow_lt_of (h.o x hx) (by rw [e2]; exact qp)
    have w3 : (bmRun s a).md.natAbs < 2 ^ ((bQ (a + 1)).2 + (8 * (a + 1) / 5 + 5)) := pow_lt_of h.md (by rw [e2]; omega)
    have w4 : ∀ x ∈ (bmRun s a).r, x.natAbs < 2 ^ (bQ (a + 1)).2 := fun x hx => by rw [e2]; exact h.r x hx
    have w5 : (bmMiss s a (bmRun s a)).natAbs < 2 ^ ((bQ (a + 1)).2 + (8 * (a + 1) / 5 + 5)) := pow_lt_of mb (by rw [e2]; omega)
    unfold bmStep
    by_cases z : bmMiss s a (bmRun s a) = 0
    · rw [if_pos z]
      exact ⟨w1, w2, w3⟩
    · rw [if_neg z]
      by_cases y : 2 * (bmRun s a).L ≤ a
      · rw [if_pos y]
        exact ⟨by rw [e1]; exact rb2, w4, w5⟩
      · rw [if_neg y]
        exact ⟨by rw [e1]; exact rb, w2, w3⟩
  · have e : bQ (a + 1) = bQ a := by show (if a < 12 then _ else bQ a) = _; rw [if_neg (by omega)]
    unfold bmStep
    rw [if_pos (bm_still R (by omega))]
    refine ⟨?_, ?_, ?_⟩
    · rw [e]; exact h.r
    · rw [e]; exact h.o
    · exact pow_lt_of h.md (by rw [e]; omega)
theorem bndQ_run {s c : Nat → Int} {M : Nat} (sb : ∀ i, i ≤ 11 → (s i).natAbs < 2 ^ (8 * i / 5 + 1)) (R : Rule s c M) (M6 : M ≤ 6) : ∀ a, BndQ a (bmRun s a)
  | 0 => ⟨fun x hx => by rw [List.mem_singleton.mp hx]; decide, fun x hx => by rw [List.mem_singleton.mp hx]; decide, by show (1 : Int).natAbs < 2 ^ (1 + (8 * 0 / 5 + 5)); decide⟩
  | a + 1 => bndQ_step (bm_inv s a) (bndQ_run sb R M6 a) sb R M6
/-- what the division by the greatest common factor wants -/
theorem gcdQ {s : Nat → Int} {a : Nat} {b : BS} (I : BMI s a b) (h : BndQ a b) (sb : ∀ i, i ≤ 11 → (s i).natAbs < 2 ^ (8 * i / 5 + 1)) (a9 : a < 12) (z : bmMiss s a b ≠ 0) : gcdL (mendL b.r b.md b.o (bmMiss s a b) b.gap) ≠ 0 ∧ (gcdL (mendL b.r b.md b.o (bmMiss s a b) b.gap)).log2 < 9000 := by
  have md0 : b.md ≠ 0 := by
    rcases I.old with ⟨_, _, o3, _⟩ | ⟨_, _, _, _, _, _, _, m6, _⟩
    · rw [o3]; decide
    · exact m6
  have gap1 : 1 ≤ b.gap := by
    rcases I.old with ⟨_, _, _, o4⟩ | ⟨m, Lo, m1, m2, _⟩
    · omega
    · omega
  have n0 : fnL (mendL b.r b.md b.o (bmMiss s a b) b.gap) 0 ≠ 0 := by
    rw [mend_at, if_neg (by omega), Int.sub_zero]
    intro y
    rcases Int.mul_eq_zero.mp y with y | y
    · exact md0 y
    · exact I.r0 y
  have g0 := gcd_ne n0
  have g0 : gcdL (mendL b.r b.md b.o (bmMiss s a b) b.gap) ≠ 0 := fun y => g0 (by rw [y]; rfl)
  refine ⟨g0, ?_⟩
  have mb := mendQ h.r h.o h.md (missQ I h sb a9) 0
  have w := with_at (mendL b.r b.md b.o (bmMiss s a b) b.gap) 0
  have d : gcdL (mendL b.r b.md b.o (bmMiss s a b) b.gap) ∣ (fnL (mendL b.r b.md b.o (bmMiss s a b) b.gap) 0).natAbs := by
    rw [← w, Int.natAbs_mul, Int.natAbs_natCast]
    exact Nat.dvd_mul_right _ _
  have le := Nat.le_of_dvd (Int.natAbs_pos.mpr n0) d
  have p := bQ_le a
  have : gcdL (mendL b.r b.md b.o (bmMiss s a b) b.gap) < 2 ^ 9000 := pow_lt_of (Nat.lt_of_le_of_lt le mb) (by omega)
  exact (Nat.log2_lt g0).mpr this
theorem fineR_six {s c : Nat → Int} {M N : Nat} (sb : ∀ i, i ≤ 11 → (s i).natAbs < 2 ^ (8 * i / 5 + 1)) (R : Rule s c M) (M6 : M ≤ 6) (hN : N ≤ 12) : FineR s N where
  b := fun a ha => by
    have h := bndQ_run sb R M6 a
    have l := bQ_le a
    exact ⟨fun x hx => pow_lt_of (h.r x hx) (by omega), fun x hx => pow_lt_of (h.o x hx) (by omega), pow_lt_of h.md (by omega)⟩
  g := fun a ha z => (gcdQ (bm_inv s a) (bndQ_run sb R M6 a) sb (by omega) z).2
/-- what is divided by is never nought -/
theorem gcd_not {s : Nat → Int} {a : Nat} {b : BS} (I : BMI s a b) (ms : Int) : gcdL (mendL b.r b.md b.o ms b.gap) ≠ 0 := by
  have md0 : b.md ≠ 0 := by
    rcases I.old with ⟨_, _, o3, _⟩ | ⟨_, _, _, _, _, _, _, m6, _⟩
    · rw [o3]; decide
    · exact m6
  have gap1 : 1 ≤ b.gap := by
    rcases I.old with ⟨_, _, _, o4⟩ | ⟨m, Lo, m1, m2, _⟩
    · omega
    · omega
  have n0 : fnL (mendL b.r b.md b.o ms b.gap) 0 ≠ 0 := by
    rw [mend_at, if_neg (by omega), Int.sub_zero]
    intro y
    rcases Int.mul_eq_zero.mp y with y | y
    · exact md0 y
    · exact I.r0 y
  exact fun y => gcd_ne n0 (by rw [y]; rfl)
/-! ### shortest_rule, goes_on, where all stays small enough -/
section
variable {P : Program} {w : World} {K : PySem.W.Frag} {mg : Str → Option Value} {base : Heap}
theorem scShortF : FnScope ["numbers", "rule", "length", "older", "missed", "gap", "at", "miss", "k", "mended"] ["numbers"] (defScope sShort) := ⟨rfl, rfl, rfl, by decide +kernel, rfl, by decide +kernel, by decide +kernel⟩
def spShortF (K : PySem.W.Frag) : Sp := fun vs H Q _ => ∃ (np : Addr) (N M : Nat) (s c : Nat → Int), vs = [.ref np] ∧ H np = some (.lst ((List.range N).map fun k => V.int (s k))) ∧ N ≤ 800 ∧ (∀ i, i < N → (s i).natAbs < 2 ^ 10000) ∧ Rule s c M ∧ FineR s N ∧
  ∀ (H' : Hp) (p : Addr), Same H H' → H p = none → H' p = some (.tup ((bmOut (bmRun s N)).map V.int)) → Q (.ref p) H'
theorem ok_shortF {f fMD fWF : Addr} {fd fdMD fdWF : FuncData} (F : Fun K "shortest_rule" "shortest_rule" sShort f fd)
    (MD : FnOk P w K mg base CX0 1 fMD fdMD ["rule", "missed", "older", "miss", "gap"] (spMend K)) (FMD : Fun K "mend" "mend" sMend fMD fdMD) (bMD : Binds K fdMD ["rule", "missed", "older", "miss", "gap"] []) (gMD : mg "mend" = some (.ref fMD))
    (WF : FnOk P w K mg base CX0 1 fWF fdWF ["parts"] (spWithout K)) (FWF : Fun K "without_factor" "without_factor" sWithout fWF fdWF) (bWF : Binds K fdWF ["parts"] []) (gWF : mg "without_factor" = some (.ref fWF)) (T : Mg mg) (mSum : mg "sum" = none) : FnOk P w K mg base CX0 2 f fd ["numbers"] (spShortF K) := by
  refine F.ok scShortF (fun vs H Q E h => ?_) (fun cdv A outer s H vs Q E hr h => ?_)
  · obtain ⟨np, N, M, s, c, rfl, _⟩ := h
    rfl
  · obtain ⟨np, N, M, sq, c, rfl, hN, n8, sB, R, FR, k⟩ := h
    refine ⟨_, (pss_cons (ps_asg (pe_tup (pa_cons (pe_lstA (pa_cons pe_int pa_nil)) (pa_cons pe_int pa_nil))) (pg_tup rfl (pgs_cons (pg_name (i := 1) scShortF.nd rfl (.inr rfl)) (pgs_cons (pg_name (i := 2) scShortF.nd rfl (.inl rfl)) pgs_nil))))
      (pss_cons (ps_par3 (i := 3) (j := 4) (l := 5) rfl scShortF.nd rfl rfl rfl (by decide) (by decide) (by decide) rfl rfl rfl (pa_cons (pe_lstA (pa_cons pe_int pa_nil)) (pa_cons pe_int (pa_cons pe_int pa_nil))) (by rfl))
      (pss_cons (ps_for PassesOwn.never rfl (pi_range1 (by rfl) T.range (pa_cons (pe_callB (r := rLen K) call_len_seq (by rfl) T.len PySem.boot_len (pa_cons (pv 0) pa_nil)) pa_nil)) (pg_name (i := 6) scShortF.nd rfl (.inr rfl)) (pss_cons (ps_set (i := 7) scShortF.nd rfl (.inl rfl) (pe_callB (r := rSum K) (cr_sum rfl) (by rfl) mSum (by decide +kernel) (pa_cons (pe_lc (own := [("k", 8)]) (g := gName 8) (tt := tYes) rfl scShortF.nd (pi_range1 (by rfl) T.range (pa_cons (pe_op op_add (pv 2) pe_int) pa_nil)) (blkOk_by (N := ["numbers", "rule", "length", "older", "missed", "gap", "at", "miss", "k", "mended"]) (sc := defScope sShort) (by decide +kernel)) (fun _ _ _ _ _ => pg_name (i := 8) scShortF.nd rfl (Or.inl rfl)) (fun _ _ _ _ _ => pts_nil) (fun _ _ _ _ _ => (pe_op op_mulW (pe_ix (r := rIxL K) ix_list (pv 1) (pv 8) (fun _ _ => rfl)) (pe_ix (r := rIxL K) ix_list (pv 0) (pe_op op_sub (pv 6) (pv 8)) (fun _ _ => rfl))))) pa_nil)))
      (pss_cons (ps_if (pt_cmpR op_eq (pv 7) pe_int (nomark _)) (pss_cons (ps_aug (i := 5) scShortF.nd rfl (.inl rfl) pe_int ip_add)
      (pss_one ps_continue)) pss_nil)
      (pss_cons (ps_set (i := 9) scShortF.nd rfl (.inl rfl) (pe_call WF (hr.mono (by decide)) (by rfl) gWF FWF.kp bWF .nil pass0 (pa_cons (pe_call MD (hr.mono (by decide)) (by rfl) gMD FMD.kp bMD .nil pass0 (pa_cons (pv 1) (pa_cons (pv 4) (pa_cons (pv 3) (pa_cons (pv 7) (pa_cons (pv 5) pa_nil)))))) pa_nil)))
      (pss_cons (ps_if (pt_cmpR op_le (pe_op op_mul pe_int (pv 2)) (pv 6) (nomark _)) (pss_cons (ps_par3 (i := 3) (j := 4) (l := 5) rfl scShortF.nd rfl rfl rfl (by decide) (by decide) (by decide) rfl rfl rfl (pa_cons (pv 1) (pa_cons (pv 7) (pa_cons pe_int pa_nil))) (by rfl))
      (pss_one (ps_set (i := 2) scShortF.nd rfl (.inl rfl) (pe_op op_sub (pe_op op_add (pv 6) pe_int) (pv 2))))) (pss_one (ps_aug (i := 5) scShortF.nd rfl (.inl rfl) pe_int ip_add)))
      (pss_one (ps_set (i := 1) scShortF.nd rfl (.inr rfl) (pe_op op_catA (pv 9) (pe_op op_rep (pe_lstA (pa_cons pe_int pa_nil)) (pe_op op_sub (pe_op op_add (pv 2) pe_int) (pe_callB (r := rLen K) call_len_seq (by rfl) T.len PySem.boot_len (pa_cons (pv 9) pa_nil))))))))))))
      (pss_one (ps_ret (pe_callTy (r := rTup K) call_tuple_of (by rfl) T.tuple PyProof.Rows.boot_tuple (pa_cons (pe_lc (own := [("k", 8)]) (g := gName 8) (tt := tYes) rfl scShortF.nd (pi_range2 (by rfl) T.range (pa_cons pe_int (pa_cons (pe_op op_add (pv 2) pe_int) pa_nil))) (blkOk_by (N := ["numbers", "rule", "length", "older", "missed", "gap", "at", "miss", "k", "mended"]) (sc := defScope sShort) (by decide +kernel)) (fun _ _ _ _ _ => pg_name (i := 8) scShortF.nd rfl (Or.inl rfl)) (fun _ _ _ _ _ => pts_nil) (fun _ _ _ _ _ => (pe_op op_fdivX (pe_un un_neg (pe_ix (r := rIxL K) ix_list (pv 1) (pv 8) (fun _ _ => rfl))) (pe_ix (r := rIxL K) ix_list (pv 1) pe_int (fun _ _ => rfl))))) pa_nil))))))), ?_⟩
    refine ⟨by show 1 ≤ sizeLine; decide, fun rp H1 s1 rp0 nrp hrp => ?_⟩
    refine ⟨by show 2 ≤ sizeLine; decide, fun t0 nt0 => ?_⟩
    have st := same_new (o := .tup [.ref rp, .int 0]) nt0
    have hrp := st _ _ hrp
    refine ⟨t0, _, rfl, SqT.of upd_same, rfl, _, _, rfl, _, _, rfl, rfl, ?_⟩
    have s1 := s1.trans st
    generalize upd H1 t0 (.tup [.ref rp, .int 0]) = G1 at *
    refine ⟨by show 1 ≤ sizeLine; decide, fun op H2 s2 op0 nop hop => ?_⟩
    have hrp := s2 _ _ hrp
    have s12 := s1.trans s2
    refine ⟨_, _, _, rfl, ?_⟩
    refine ⟨_, rfl, np, _, rfl, .inl (SqL.of (s12 _ _ hN)), ?_⟩
    rw [List.length_map, List.length_range]
    refine ⟨(N : Int), rfl, by omega, by omega, ?_⟩
    refine for_range (lo := 0) (n := (N : Int).toNat) (fun a σ H' => (∃ (rp op : Addr) (y6 y7 y8 y9 : Option V), σ = [some (.ref np), some (.ref rp), some (.int ((bmRun sq a).L : Int)), some (.ref op), some (.int (bmRun sq a).md), some (.int ((bmRun sq a).gap : Int)), y6, y7, y8, y9] ∧ H' rp = some (.lst ((bmRun sq a).r.map V.int)) ∧ H' op = some (.lst ((bmRun sq a).o.map V.int))) ∧ Same H H')
      ⟨⟨rp, op, _, _, _, _, rfl, hrp, hop⟩, s12⟩ ?_ ?_
    · rintro a σ H3 ha ⟨⟨rp, op, y6, y7, y8, y9, rfl, hrp, hop⟩, sm⟩
      have aN : a < N := by omega
      have I := bm_inv sq a
      have B := FR.b a (by omega)
      have G := FR.g a aN
      have en : bmRun sq (a + 1) = bmStep sq a (bmRun sq a) := rfl
      generalize hb : bmRun sq a = b at *
      have rl := I.rl
      have La := I.La
      rw [Int.zero_add]
      refine ⟨_, rfl, _, _, rfl, rfl, _, rfl, by omega, by omega, fun D hD => ?_⟩
      refine lc_range (lo := 0) (n := ((b.L : Int) + 1).toNat) (NInv (fun k : Nat => V.int (fnL b.r k * sq (a - k))) (List.range (b.L + 1)) H3 D) (nstart hD) ?_ ?_
      · rintro j H4 hj p4
        have hj : j < b.L + 1 := by omega
        rw [Int.zero_add]
        have hr4 := p4.1 _ _ hrp
        have hn4 := p4.1 _ _ (sm _ _ hN)
        have rj : b.r[j]? = some (fnL b.r j) := by
          rw [List.getElem?_eq_getElem (by omega), fnL_at (List.getElem?_eq_getElem (by omega))]
        refine ⟨rfl, _, rfl, _, rfl, rp, _, (j : Int), V.int (fnL b.r j), rfl, rfl, SqL.of hr4, atI_nat (by rw [List.getElem?_map, rj]; rfl), ?_⟩
        refine ⟨_, rfl, _, rfl, _, rfl, _, _, rfl, rfl, np, _, ((a - j : Nat) : Int), V.int (sq (a - j)), rfl, congrArg V.int (by omega), SqL.of hn4, atI_nat (by rw [List.getElem?_map, List.getElem?_range (by omega)]; rfl), ?_⟩
        refine ⟨_, _, rfl, rfl, wide_mul (fnL_bound B.r j) (pow_lt_of (sB (a - j) (by omega)) (Nat.le_refl _)) (by decide) (by decide) (by decide), ?_⟩
        exact nturn (f := fun k : Nat => V.int (fnL b.r k * sq (a - k))) (small9 (by rw [List.length_range]; omega)) hD (List.getElem?_range hj) p4 (Same.refl _)
      · rintro H4 p4
        obtain ⟨s4, hl4⟩ := nend (by rw [List.length_range]; omega) p4
        have e0 : (List.range (b.L + 1)).map (fun k : Nat => V.int (fnL b.r k * sq (a - k))) = ((List.range (b.L + 1)).map fun k => fnL b.r k * sq (a - k)).map V.int := by rw [List.map_map]; rfl
        rw [e0] at hl4
        refine ⟨D, _, rfl, SqL.of hl4, ?_⟩
        have em : ((List.range (b.L + 1)).map fun k => fnL b.r k * sq (a - k)).sum = bmMiss sq a b := sum_range _ _
        rw [em]
        have hrp4 := s4 _ _ hrp
        have hop4 := s4 _ _ hop
        have sm4 := sm.trans s4
        generalize hms : bmMiss sq a b = ms at *
        refine ⟨_, rfl, rfl, _, rfl, ite2 (fun z => ?_) (fun z => ?_)⟩
        · have z : ms = 0 := V.int.inj (of_decide_eq_true z)
          have e2 : bmRun sq (a + 1) = ⟨b.r, b.o, b.L, b.md, b.gap + 1⟩ := by
            rw [en]
            unfold bmStep
            rw [hms, if_pos z]
          rw [e2]
          refine ⟨_, rfl, _, _, rfl, rfl, ?_⟩
          exact ⟨⟨rp, op, _, _, _, _, rfl, hrp4, hop4⟩, sm4⟩
        · have z : ms ≠ 0 := fun y => z (decide_eq_true (by rw [y]))
          have mb : ms.natAbs < 2 ^ 18010 := by
            rw [← hms]
            have h1 : (bmMiss sq a b).natAbs ≤ (b.L + 1) * 2 ^ (8000 + 10000) := by
              refine sumR_bound _ fun k hk => Nat.le_of_lt ?_
              rw [Int.natAbs_mul, Nat.pow_add]
              exact Nat.mul_lt_mul'' (fnL_bound B.r k) (sB _ (by omega))
            have h2 := Nat.mul_le_mul_right (2 ^ (8000 + 10000)) (show b.L + 1 ≤ 1000 by omega)
            refine Nat.lt_of_le_of_lt (Nat.le_trans h1 h2) ?_
            rw [show (18010 : Nat) = 10 + (8000 + 10000) from rfl, Nat.pow_add]
            exact (Nat.mul_lt_mul_right (a := 2 ^ (8000 + 10000)) (Nat.two_pow_pos _)).mpr (show 1000 < 2 ^ 10 by decide)
          have g9 := G z
          have g0 := gcd_not I ms
          have olen : b.o.length + b.gap ≤ 900 := by
            rcases I.old with ⟨o1, o2, o3, o4⟩ | ⟨m, Lo, m1, m2, m3, m4, m5, _⟩
            · rw [o2, o4]
              show 1 + (a + 1) ≤ 900
              omega
            · omega
          have ml := mend_len b ms
          refine ⟨_, rfl, _, rfl, _, rfl, _, rfl, _, rfl, rp, op, b.r, b.o, b.md, ms, b.gap, rfl, hrp4, hop4, by omega, by omega, by omega, fun x hx => ?_, fun x hx => ?_, fun H5 p5 s5 p50 hp5 => ?_⟩
          · exact wide_mul B.md (B.r x hx) (by decide) (by decide) (by decide)
          · exact wide_mul mb (B.o x hx) (by decide) (by decide) (by decide)
          refine ⟨p5, _, rfl, hp5, ?_, g0, g9, fun H6 p6 s6 p60 hp6 => ?_⟩
          · unfold mendL
            rw [List.length_map, List.length_range]
            omega
          have hp6 : H6 p6 = some (.lst ((bmMend b ms).map V.int)) := hp6
          have s46 := s5.trans s6
          have hrp6 := s46 _ _ hrp4
          have hop6 := s46 _ _ hop4
          have sm6 := sm4.trans s46
          refine ⟨_, rfl, _, _, rfl, rfl, .inl ⟨by decide, by decide⟩, _, rfl, _, _, rfl, rfl, _, rfl, ite2 (fun y => ?_) (fun y => ?_)⟩
          · have y : 2 * b.L ≤ a := by
              have := of_decide_eq_true y
              omega
            have e2 : bmRun sq (a + 1) = ⟨padL (bmMend b ms) (a + 1 - b.L + 1), b.r, a + 1 - b.L, ms, 1⟩ := by
              rw [en]
              unfold bmStep
              rw [hms, if_neg z, if_pos y]
            rw [e2]
            refine ⟨_, rfl, _, rfl, _, _, _, rfl, ?_⟩
            refine ⟨_, rfl, _, _, rfl, rfl, _, rfl, _, _, rfl, rfl, ?_⟩
            dsimp only
            rw [show (a : Int) + 1 - (b.L : Int) = ((a + 1 - b.L : Nat) : Int) by omega]
            refine ⟨_, rfl, by show 1 ≤ sizeLine; decide, fun zp H7 s7 z0 nz hz => ?_⟩
            have hp7 := s7 _ _ hp6
            refine ⟨_, rfl, _, _, rfl, rfl, _, rfl, p6, _, rfl, .inl (SqL.of hp7), _, _, rfl, rfl, ?_⟩
            rw [List.length_map]
            have zk : ((((a + 1 - b.L) : Nat) : Int) + 1 - ((bmMend b ms).length : Int)).toNat = (a + 1 - b.L) + 1 - (bmMend b ms).length := by omega
            refine ⟨zp, _, _, rfl, rfl, hz, by omega, by omega, ?_, fun q nq => ?_⟩
            · rw [zk]
              show 1 * _ ≤ sizeLine
              rw [Nat.one_mul]
              exact Nat.le_trans (show _ ≤ 1000000 by omega) (by decide)
            rw [zk]
            have s8 := same_new (o := .lst (List.replicate ((a + 1 - b.L) + 1 - (bmMend b ms).length) [V.int 0]).flatten) nq
            have hq : (upd H7 q (.lst (List.replicate ((a + 1 - b.L) + 1 - (bmMend b ms).length) [V.int 0]).flatten)) q = some (.lst ((List.replicate ((a + 1 - b.L) + 1 - (bmMend b ms).length) (0 : Int)).map V.int)) := by
              rw [upd_same, List.flatten_replicate_singleton, List.map_replicate]
            have hp8 := s8 _ _ hp7
            generalize upd H7 q (.lst (List.replicate ((a + 1 - b.L) + 1 - (bmMend b ms).length) [V.int 0]).flatten) = G8 at *
            refine ⟨p6, q, _, _, rfl, rfl, hp8, hq, ?_, fun r9 H9 s9 r90 hr9 => ?_⟩
            · rw [List.length_map, List.length_map, List.length_replicate]
              exact Nat.le_trans (show _ ≤ 1000000 by omega) (by decide)
            have s69 := s7.trans (s8.trans s9)
            rw [← List.map_append] at hr9
            exact ⟨⟨r9, rp, _, _, _, _, rfl, hr9, s69 _ _ hrp6⟩, sm6.trans s69⟩
          · have y : ¬ 2 * b.L ≤ a := fun q => y (decide_eq_true (by omega))
            have e2 : bmRun sq (a + 1) = ⟨padL (bmMend b ms) (b.L + 1), b.o, b.L, b.md, b.gap + 1⟩ := by
              rw [en]
              unfold bmStep
              rw [hms, if_neg z, if_neg y]
            rw [e2]
            refine ⟨_, rfl, _, _, rfl, rfl, ?_⟩
            refine ⟨_, rfl, by show 1 ≤ sizeLine; decide, fun zp H7 s7 z0 nz hz => ?_⟩
            have hp7 := s7 _ _ hp6
            refine ⟨_, rfl, _, _, rfl, rfl, _, rfl, p6, _, rfl, .inl (SqL.of hp7), _, _, rfl, rfl, ?_⟩
            rw [List.length_map]
            have zk : (((b.L : Nat) : Int) + 1 - ((bmMend b ms).length : Int)).toNat = b.L + 1 - (bmMend b ms).length := by omega
            refine ⟨zp, _, _, rfl, rfl, hz, by omega, by omega, ?_, fun q nq => ?_⟩
            · rw [zk]
              show 1 * _ ≤ sizeLine
              rw [Nat.one_mul]
              exact Nat.le_trans (show _ ≤ 1000000 by omega) (by decide)
            rw [zk]
            have s8 := same_new (o := .lst (List.replicate (b.L + 1 - (bmMend b ms).length) [V.int 0]).flatten) nq
            have hq : (upd H7 q (.lst (List.replicate (b.L + 1 - (bmMend b ms).length) [V.int 0]).flatten)) q = some (.lst ((List.replicate (b.L + 1 - (bmMend b ms).length) (0 : Int)).map V.int)) := by
              rw [upd_same, List.flatten_replicate_singleton, List.map_replicate]
            have hp8 := s8 _ _ hp7
            generalize upd H7 q (.lst (List.replicate (b.L + 1 - (bmMend b ms).length) [V.int 0]).flatten) = G8 at *
            refine ⟨p6, q, _, _, rfl, rfl, hp8, hq, ?_, fun r9 H9 s9 r90 hr9 => ?_⟩
            · rw [List.length_map, List.length_map, List.length_replicate]
              exact Nat.le_trans (show _ ≤ 1000000 by omega) (by decide)
            have s69 := s7.trans (s8.trans s9)
            rw [← List.map_append] at hr9
            exact ⟨⟨r9, op, _, _, _, _, rfl, hr9, s69 _ _ hop6⟩, sm6.trans s69⟩
    · rintro σ H3 ⟨⟨rp, op, y6, y7, y8, y9, rfl, hrp, hop⟩, sm⟩
      rw [Int.toNat_natCast] at hrp hop ⊢
      have I := bm_inv sq N
      have B := FR.b N (Nat.le_refl N)
      generalize hb : bmRun sq N = b at *
      have rl := I.rl
      have La := I.La
      refine ⟨_, rfl, _, _, rfl, rfl, 1, _, rfl, by omega, fun D hD => ?_⟩
      rw [show ((b.L : Int) + 1 - 1).toNat = b.L by omega]
      refine lc_range (lo := 1) (n := b.L) (NInv (fun k : Nat => V.int (Int.fdiv (-(fnL b.r (k + 1))) (fnL b.r 0))) (List.range b.L) H3 D) (nstart hD) ?_ ?_
      · rintro j H4 hj p4
        have hr4 := p4.1 _ _ hrp
        have rj : ∀ i, i < b.L + 1 → b.r[i]? = some (fnL b.r i) := fun i hi => by
          rw [List.getElem?_eq_getElem (by omega), fnL_at (List.getElem?_eq_getElem (by omega))]
        have l0 : (fnL b.r 0).natAbs.log2 < 9000 := by
          have h1 := fnL_bound B.r 0
          have h2 := Int.natAbs_pos.mpr I.r0
          exact (Nat.log2_lt (by omega)).mpr (pow_lt_of h1 (by omega))
        refine ⟨rfl, _, rfl, _, rfl, rp, _, ((j + 1 : Nat) : Int), V.int (fnL b.r (j + 1)), rfl, congrArg V.int (by omega), SqL.of hr4, atI_nat (by rw [List.getElem?_map, rj (j + 1) (by omega)]; rfl), _, rfl, _, rfl, rp, _, 0, V.int (fnL b.r 0), rfl, rfl, SqL.of hr4, atI_nat (j := 0) (by rw [List.getElem?_map, rj 0 (by omega)]; rfl), _, _, rfl, rfl, ⟨I.r0, l0⟩, ?_⟩
        exact nturn (f := fun k : Nat => V.int (Int.fdiv (-(fnL b.r (k + 1))) (fnL b.r 0))) (small9 (by rw [List.length_range]; omega)) hD (List.getElem?_range hj) p4 (Same.refl _)
      · rintro H4 p4
        obtain ⟨s4, hl4⟩ := nend (by rw [List.length_range]) p4
        have e0 : (List.range b.L).map (fun k : Nat => V.int (Int.fdiv (-(fnL b.r (k + 1))) (fnL b.r 0))) = (bmOut b).map V.int := by
          unfold bmOut
          rw [List.map_map]
          rfl
        rw [e0] at hl4
        have sm4 := sm.trans s4
        exact ⟨D, _, rfl, .inl ⟨SqL.of hl4, fun l nl => k _ l (sm4.trans (same_new nl)) (sfree sm4 nl) upd_same⟩⟩
end
section
variable {P : Program} {w : World} {K : PySem.W.Frag} {mg : Str → Option Value} {base : Heap}
theorem scGoesOnF : FnScope ["machine"] ["machine"] (defScope sGoesOn) := ⟨rfl, rfl, rfl, by decide +kernel, rfl, by decide +kernel, by decide +kernel⟩
def spGoesOnF (K : PySem.W.Frag) : Sp := fun vs H Q _ => ∃ (L M : Nat) (rs : Rows) (es : List Bool) (x : V) (B : Addr → Prop) (c : Nat → Int), vs = [x] ∧ Dt B K H x (machDt L rs es) ∧ MOk L rs es ∧ Rule (fun k => ((cntP L (fun w => acc rs es w 0) k : Nat) : Int)) c M ∧ FineR (fun k => ((cntP L (fun w => acc rs es w 0) k : Nat) : Int)) (2 * rs.length) ∧
  ∀ (H' : Hp) (p : Addr), Same H H' → H p = none → H' p = some (.tup ((bmOut (bmRun (fun k => ((cntP L (fun w => acc rs es w 0) k : Nat) : Int)) (2 * rs.length))).map V.int)) → Q (.ref p) H'
theorem ok_goesOnF {f fCN fSR : Addr} {fd fdCN fdSR : FuncData} (F : Fun K "goes_on" "goes_on" sGoesOn f fd)
    (CN : FnOk P w K mg base CX0 2 fCN fdCN ["machine", "many"] (spCounts K)) (FCN : Fun K "counts" "counts" sCounts fCN fdCN) (bCN : Binds K fdCN ["machine", "many"] []) (gCN : mg "counts" = some (.ref fCN))
    (SR : FnOk P w K mg base CX0 2 fSR fdSR ["numbers"] (spShortF K)) (FSR : Fun K "shortest_rule" "shortest_rule" sShort fSR fdSR) (bSR : Binds K fdSR ["numbers"] []) (gSR : mg "shortest_rule" = some (.ref fSR)) (T : Mg mg) : FnOk P w K mg base CX0 3 f fd ["machine"] (spGoesOnF K) := by
  refine F.ok scGoesOnF (fun vs H Q E h => ?_) (fun cdv A outer s H vs Q E hr h => ?_)
  · obtain ⟨L, M, rs, es, x, B, c, rfl, _⟩ := h
    rfl
  · obtain ⟨L, M, rs, es, x, B, c, rfl, hx, Mk, R, FR, k⟩ := h
    refine ⟨_, (pss_one (ps_ret (pe_call SR (hr.mono (by decide)) (by rfl) gSR FSR.kp bSR .nil pass0 (pa_cons (pe_call CN (hr.mono (by decide)) (by rfl) gCN FCN.kp bCN .nil pass0 (pa_cons (pv 0) (pa_cons (pe_op op_mul pe_int (pe_callB (r := rLen K) call_len_seq (by rfl) T.len PySem.boot_len (pa_cons (pe_ix (r := rIxT K) ix_tup (pv 0) pe_int (fun _ _ => rfl)) pa_nil))) pa_nil))) pa_nil)))), ?_⟩
    obtain ⟨m, pr, pe, rvs, rfl, _, MM⟩ := dt_mach hx
    have l4 := Mk.l400
    have L3 := Mk.L3
    have bd : ∀ i, cntP L (fun w => acc rs es w 0) i < 2 ^ (2 * i + 1) := fun i => by
      have h1 := cnt_le (L := L) (fun w => acc rs es w 0) i
      have h2 : L ^ i ≤ 4 ^ i := Nat.pow_le_pow_left (by omega) i
      have h3 : 4 ^ i = 2 ^ (2 * i) := by rw [show (4 : Nat) = 2 ^ 2 from rfl, ← Nat.pow_mul]
      have h4 := Nat.two_pow_pos (2 * i)
      rw [Nat.pow_succ]
      omega
    refine ⟨_, rfl, _, rfl, m, _, 1, .ref pr, rfl, rfl, .inl MM.hm, atI_nat (j := 1) rfl, pr, rvs, rfl, .inr (.inl MM.hr), _, _, rfl, rfl, .inl ⟨by decide, by decide⟩, ?_⟩
    rw [MM.hl]
    refine ⟨L, 2 * rs.length, rs, es, .ref m, B, rfl, hx, Mk, by omega, fun H1 p s1 p0 pN hp => ?_⟩
    refine ⟨p, 2 * rs.length, M, _, c, rfl, hp, by omega, fun i hi => ?_, R, FR, fun H2 q s2 q0 hq => k H2 q (s1.trans s2) (sfree s1 q0) hq⟩
    · rw [Int.natAbs_natCast]
      exact pow_lt_of (bd i) (by omega)
end
/-! ### parts, and a chain of states -/
def partsL : Nat → List Int
  | 0 => [1]
  | n + 1 => List.zipWith (fun a b => a + b) (0 :: partsL n) (partsL n ++ [0])
theorem parts_len : ∀ n, (partsL n).length = n + 1
  | 0 => rfl
  | n + 1 => by
    show (List.zipWith _ _ _).length = _
    rw [List.length_zipWith, List.length_cons, List.length_append, parts_len n]
    show min (n + 1 + 1) (n + 1 + 1) = _
    rw [Nat.min_self]
def chRow (n s : Nat) : List (Option Nat) := [some s, some s, if s + 1 < n then some (s + 1) else none]
def rsChain (n : Nat) : Rows := (List.range n).map (chRow n)
theorem chain_len (n : Nat) : (rsChain n).length = n := by
  unfold rsChain
  rw [List.length_map, List.length_range]
theorem mok_chain {n : Nat} (h2 : 2 ≤ n) (h4 : n ≤ 400) : MOk 3 (rsChain n) (esLong n) where
  l1 := by rw [chain_len]; omega
  l400 := by rw [chain_len]; exact h4
  row := fun row h => by
    obtain ⟨i, _, rfl⟩ := List.mem_map.mp h
    rfl
  tgt := fun row h v hv => by
    rw [chain_len]
    obtain ⟨i, hi, rfl⟩ := List.mem_map.mp h
    rw [List.mem_range] at hi
    unfold chRow at hv
    simp only [List.mem_cons, List.not_mem_nil, or_false] at hv
    rcases hv with z | z | z
    · cases z
      exact hi
    · cases z
      exact hi
    · by_cases q : i + 1 < n
      · rw [if_pos q] at z
        cases z
        exact q
      · rw [if_neg q] at z
        cases z
  es := by
    rw [chain_len]
    unfold esLong
    rw [List.length_append, List.length_replicate, List.length_singleton]
    omega
  L1 := by decide
  L3 := by decide
def ChInv (K : PySem.W.Frag) (n : Nat) (H : Hp) (D : Addr) (j : Nat) (H' : Hp) : Prop := Same H H' ∧ ∃ acc, H' D = some (.lst acc) ∧ acc.length = j ∧ ∀ B : Addr → Prop, TB B H → DtAll (fun b => B b ∨ b = D) K H' acc ((List.range j).map fun s => rowDt (chRow n s))
section
variable {P : Program} {w : World} {K : PySem.W.Frag} {mg : Str → Option Value} {base : Heap}
theorem scParts : FnScope ["_law_many", "_law_found", "_law_turn", "_law_one_here", "_law_other"] ["_law_many"] (defScope sParts) := ⟨rfl, rfl, rfl, by decide +kernel, rfl, by decide +kernel, by decide +kernel⟩
def spParts : Sp := fun vs H Q _ => ∃ (n : Nat), vs = [.int (n : Int)] ∧ n ≤ 400 ∧
  ∀ (H' : Hp) (p : Addr), Same H H' → H p = none → H' p = some (.lst ((partsL n).map V.int)) → Q (.ref p) H'
theorem ok_parts {f : Addr} {fd : FuncData} (F : Fun K "_law_parts" "_law_parts" sParts f fd) (T : Mg mg) : FnOk P w K mg base CX0 1 f fd ["_law_many"] spParts := by
  refine F.ok scParts (fun vs H Q E h => ?_) (fun cdv A outer s H vs Q E hr h => ?_)
  · obtain ⟨n, rfl, _⟩ := h
    rfl
  · obtain ⟨n, rfl, n4, k⟩ := h
    have hu1 := hu_of hr
    refine ⟨_, (pss_cons (ps_set (i := 1) scParts.nd rfl (.inl rfl) (pe_lstA (pa_cons pe_int pa_nil)))
      (pss_cons (ps_for PassesOwn.never rfl (pi_range1 (by rfl) T.range (pa_cons (pv 0) pa_nil)) (pg_name (i := 2) scParts.nd rfl (.inl rfl)) (pss_one (ps_setLc (i := 1) (own := [("_law_one_here", 3), ("_law_other", 4)]) (g := gTup K 2 (gCons (gName 3) (gCons (gName 4) gNil))) (tt := tYes) rfl scParts.nd rfl rfl (sw_true rfl rfl rfl (by decide +kernel)) (pi_zip (by rfl) T.zip (pa_cons (pe_op op_catA (pe_lstA (pa_cons pe_int pa_nil)) (pv 1)) (pa_cons (pe_op op_catA (pv 1) (pe_lstA (pa_cons pe_int pa_nil))) pa_nil))) (blkOk_by (N := ["_law_many", "_law_found", "_law_turn", "_law_one_here", "_law_other"]) (sc := defScope sParts) (by decide +kernel)) (fun _ _ _ _ _ => pg_tup rfl (pgs_cons (pg_name (i := 3) scParts.nd rfl (Or.inl rfl)) (pgs_cons (pg_name (i := 4) scParts.nd rfl (Or.inl rfl)) pgs_nil))) (fun _ _ _ _ _ => pts_nil) (fun _ _ _ _ _ => pe_op op_add (pv 3) (pv 4)))))
      (pss_one (ps_ret (pv 1))))), ?_⟩
    refine ⟨by show 1 ≤ sizeLine; decide, fun p0 H1 s1 p00 np0 hp0 => ?_⟩
    refine ⟨_, rfl, (n : Int), rfl, by omega, by omega, ?_⟩
    refine for_range (lo := 0) (n := (n : Int).toNat) (fun a σ H' => (∃ (lp : Addr) (y1 y3 y4 : Option V), σ = [some (.int (n : Int)), some (.ref lp), y1, y3, y4] ∧ H lp = none ∧ H' lp = some (.lst ((partsL a).map V.int))) ∧ Same H H')
      ⟨⟨p0, _, _, _, rfl, p00, hp0⟩, s1⟩ ?_ ?_
    · rintro a σ H2 ha ⟨⟨lp, y1, y3, y4, rfl, l0, hl⟩, sm⟩
      have pl := parts_len a
      have szl : ((partsL a).map V.int).length + 1 ≤ sizeLine := by
        rw [List.length_map]
        exact Nat.le_trans (show _ ≤ 1000000 by omega) (by decide)
      refine ⟨by show 1 ≤ sizeLine; decide, fun zp H3 s3 z30 nz3 hz3 => ?_⟩
      refine ⟨_, rfl, zp, lp, _, _, rfl, rfl, hz3, s3 _ _ hl, by rw [Nat.add_comm]; exact szl, fun A1 H4 s4 A10 hA1 => ?_⟩
      refine ⟨_, rfl, by show 1 ≤ sizeLine; decide, fun yp H5 s5 y50 ny5 hy5 => ?_⟩
      refine ⟨lp, yp, _, _, rfl, rfl, s5 _ _ (s4 _ _ (s3 _ _ hl)), hy5, szl, fun A2 H6 s6 A20 hA2 => ?_⟩
      have hA1 := s6 _ _ (s5 _ _ hA1)
      have s36 := (s3.trans s4).trans (s5.trans s6)
      have hA1 : H6 A1 = some (.lst (((0 : Int) :: partsL a).map V.int)) := hA1
      have hA2 : H6 A2 = some (.lst ((partsL a ++ [(0 : Int)]).map V.int)) := by
        rw [hA2, List.map_append]
        rfl
      refine ⟨A1, A2, _, _, rfl, SqL.of hA1, SqL.of hA2, fun D hD => ?_⟩
      have D0 : H D = none := (sm.trans s36).free hD
      refine lc_it (walk_zip (a := A1) (b := A2) (xs := ((0 : Int) :: partsL a).map V.int) (ys := (partsL a ++ [(0 : Int)]).map V.int) (n := a + 2) (by rw [List.length_map, List.length_map, List.length_cons, List.length_append, pl]; show a + 2 = min (a + 1 + 1) (a + 1 + 1); omega)) (fun k H' => Same H6 H' ∧ H' D = some (.lst (((partsL (a + 1)).take k).map V.int))) ⟨same_new hD, upd_same⟩ (fun k H' _ q => ⟨SqL.of (q.1 _ _ hA1), SqL.of (q.1 _ _ hA2)⟩) ?_ ?_
      · rintro k z H8 H9 hk ⟨sm8, hl8⟩ ⟨T2, va, vb, rfl, nT, rfl, ea, eb⟩
        have ea : (((0 : Int) :: partsL a).map V.int)[k]? = some va := ea
        have eb : ((partsL a ++ [(0 : Int)]).map V.int)[k]? = some vb := eb
        rw [List.getElem?_map] at ea eb
        obtain ⟨x1, hx1, rfl⟩ := Option.map_eq_some_iff.mp ea
        obtain ⟨x2, hx2, rfl⟩ := Option.map_eq_some_iff.mp eb
        have sT := same_new (o := .tup [V.int x1, V.int x2]) nT
        have hl9 := sT _ _ hl8
        have sm9 := sm8.trans sT
        refine ⟨T2, _, rfl, SqT.of upd_same, rfl, _, _, rfl, _, _, rfl, rfl, ?_⟩
        generalize upd H8 T2 (.tup [V.int x1, V.int x2]) = G9 at *
        have rx : (partsL (a + 1))[k]? = some (x1 + x2) := by
          show (List.zipWith _ _ _)[k]? = _
          rw [List.getElem?_zipWith, hx1, hx2]
        have e7 := parts_len (a + 1)
        refine ⟨rfl, _, rfl, _, rfl, _, _, rfl, rfl, ?_⟩
        refine ⟨_, hl9, small9 (by rw [List.length_map, List.length_take]; omega), fun b o e => ?_, ?_⟩
        · rw [upd_ne (ne_of_none e hD)]
          exact sm9 _ _ e
        · rw [upd_same, List.take_add_one, rx, List.map_append]
          rfl
      · rintro H8 ⟨sm8, hl8⟩
        rw [List.take_of_length_le (by rw [parts_len]; omega)] at hl8
        exact ⟨⟨D, _, _, _, rfl, D0, hl8⟩, sm.trans (s36.trans sm8)⟩
    · rintro σ H2 ⟨⟨lp, y1, y3, y4, rfl, l0, hl⟩, sm⟩
      rw [Int.toNat_natCast] at hl
      exact ⟨_, rfl, k H2 lp sm l0 hl⟩
end
section
variable {P : Program} {w : World} {K : PySem.W.Frag} {mg : Str → Option Value} {base : Heap}
theorem scChain : FnScope ["_law_many", "_law_rows", "_law_state"] ["_law_many"] (defScope sChain) := ⟨rfl, rfl, rfl, by decide +kernel, rfl, by decide +kernel, by decide +kernel⟩
def spChain (K : PySem.W.Frag) : Sp := fun vs H Q _ => ∃ (n : Nat), vs = [.int (n : Int)] ∧ 2 ≤ n ∧ n ≤ 400 ∧
  ∀ H' v, Same H H' → (∀ B, TB B H → Dt B K H' v (machDt 3 (rsChain n) (esLong n))) → Q v H'
theorem ok_chain {f : Addr} {fd : FuncData} (F : Fun K "_law_chain" "_law_chain" sChain f fd) (T : Mg mg) : FnOk P w K mg base CX0 1 f fd ["_law_many"] (spChain K) := by
  refine F.ok scChain (fun vs H Q E h => ?_) (fun cdv A outer s H vs Q E hr h => ?_)
  · obtain ⟨n, rfl, _⟩ := h
    rfl
  · obtain ⟨n, rfl, n2, n4, k⟩ := h
    refine ⟨_, (pss_cons (ps_setLc (i := 1) (own := [("_law_state", 2)]) (g := gName 2) (tt := tYes) rfl scChain.nd rfl rfl (sw_true rfl rfl rfl (by decide +kernel)) (pi_range1 (by rfl) T.range (pa_cons (pv 0) pa_nil)) (blkOk_by (N := ["_law_many", "_law_rows", "_law_state"]) (sc := defScope sChain) (by decide +kernel)) (fun _ _ _ _ _ => pg_name (i := 2) scChain.nd rfl (Or.inl rfl)) (fun _ _ _ _ _ => pts_nil) (fun _ _ _ _ _ => (pe_tup (pa_cons (pv 2) (pa_cons (pv 2) (pa_cons (pe_ifExp (pt_cmpR op_lt (pe_op op_add (pv 2) pe_int) (pv 0) (nomark _)) (pe_op op_add (pv 2) pe_int) pe_non) pa_nil))))))
      (pss_one (ps_ret (pe_tup (pa_cons pe_int (pa_cons (pe_callTy (r := rTup K) call_tuple_of (by rfl) T.tuple PyProof.Rows.boot_tuple (pa_cons (pv 1) pa_nil)) (pa_cons (pe_op op_catS (pe_op op_repS (pe_tup (pa_cons pe_bl pa_nil)) (pe_op op_sub (pv 0) pe_int)) (pe_tup (pa_cons pe_bl pa_nil))) pa_nil))))))), ?_⟩
    refine ⟨_, rfl, (n : Int), rfl, by omega, by omega, fun D nD => ?_⟩
    refine lc_range (lo := 0) (n := (n : Int).toNat) (ChInv K n H D) ⟨same_new nD, [], upd_same, rfl, fun B tb => .nil⟩ ?_ ?_
    · rintro j H1 hj ⟨sm, acc, hD1, hl, hB⟩
      have e0 : (0 : Int) + (j : Int) = (j : Int) := Int.zero_add _
      have hj : j < n := by omega
      obtain ⟨x3, hx3⟩ : ∃ x3 : V, x3 = oV (if j + 1 < n then some (j + 1) else none) := ⟨_, rfl⟩
      have go : ∀ t, H1 t = none → ∃ acc', (upd H1 t (.tup [.int (j : Int), .int (j : Int), x3])) D = some (.lst acc') ∧ acc'.length < sizeLine ∧ ChInv K n H D (j + 1) (upd (upd H1 t (.tup [.int (j : Int), .int (j : Int), x3])) D (.lst (acc' ++ [.ref t]))) := fun t nt => by
        have st := same_new (o := .tup [.int (j : Int), .int (j : Int), x3]) nt
        refine ⟨acc, st _ _ hD1, small1000 (by omega), fun b u e => ?_, acc ++ [.ref t], upd_same, by rw [List.length_append, hl]; rfl, fun B tb => ?_⟩
        · rw [upd_ne (ne_of_none e nD)]
          exact st _ _ (sm _ _ e)
        · have ntD : t ≠ D := fun z => by
            rw [← z] at hD1
            rw [nt] at hD1
            cases hD1
          refine dt_lst nD (st _ _ hD1) _ ?_
          rw [List.range_succ, List.map_append]
          have tb2 : TB (fun b => B b ∨ b = D) H1 := fun b z e => by
            rcases z with z | z
            · exact tb_same sm tb b z e
            · rw [z, hD1] at e
              cases e
          refine (same_all st (hB B tb)).append (.cons (.tup (tb_off tb2 nt) (.inl upd_same) ?_) .nil)
          rw [hx3]
          refine .cons (.int _) (.cons (.int _) (.cons ?_ .nil))
          by_cases q : j + 1 < n
          · rw [if_pos q]
            exact .int _
          · rw [if_neg q]
            exact .non
      rw [e0]
      refine ⟨rfl, _, rfl, _, rfl, _, rfl, _, _, rfl, rfl, _, rfl, _, _, rfl, rfl, _, rfl, ?_⟩
      refine ite2 (fun z => ?_) (fun z => ?_)
      · have z : (j : Int) + 1 < (n : Int) := of_decide_eq_true z
        rw [if_pos (by omega)] at hx3
        refine ⟨_, rfl, _, _, rfl, rfl, by show 3 ≤ sizeLine; decide, fun t nt => ?_⟩
        have e3 : V.int ((j : Int) + 1) = x3 := by rw [hx3]; rfl
        have g := go t nt
        rw [← e3] at g
        exact g
      · have z : ¬ (j : Int) + 1 < (n : Int) := fun y => z (decide_eq_true y)
        rw [if_neg (by omega)] at hx3
        refine ⟨by show 3 ≤ sizeLine; decide, fun t nt => ?_⟩
        have e3 : V.non = x3 := by rw [hx3]; rfl
        have g := go t nt
        rw [← e3] at g
        exact g
    · rintro H1 ⟨sm, acc, hD1, hl, hB⟩
      refine ⟨_, rfl, D, _, rfl, .inl ⟨SqL.of hD1, fun tr ntr => ?_⟩⟩
      have str := same_new (o := .tup acc) ntr
      have s5 := sm.trans str
      have h5r : Rd (upd H1 tr (.tup acc)) tr (.tup acc) := .inl upd_same
      have n5r : ∀ {B : Addr → Prop}, TB B H → ¬ B tr := fun tb => tb_off (tb_same sm tb) ntr
      generalize upd H1 tr (.tup acc) = G5 at *
      refine ⟨by show 1 ≤ sizeLine; decide, fun f1 nf1 => ?_⟩
      have s6 := same_new (o := .tup [.bl false]) nf1
      refine ⟨_, rfl, _, _, rfl, rfl, f1, (n : Int) - 1, _, rfl, rfl, .inl upd_same, List.cons_ne_nil _ _, by omega, by omega, by show 1 ≤ 1000; decide, fun q H7 s7 hq wq => ?_⟩
      rw [show (List.replicate ((n : Int) - 1).toNat [V.bl false]).flatten = (List.replicate (n - 1) false).map V.bl by rw [show ((n : Int) - 1).toNat = n - 1 by omega]; simp] at hq
      refine ⟨by show 1 ≤ sizeLine; decide, fun u nu => ?_⟩
      have s8 := same_new (o := .tup [.bl true]) nu
      refine ⟨q, u, _, _, rfl, rfl, same_rd s8 hq, .inl upd_same, sz_of (by rw [List.length_map, List.length_replicate, List.length_singleton]; omega), fun q2 H9 s9 hq2 w2 => ?_⟩
      refine ⟨by show 3 ≤ sizeLine; decide, fun z nz => ?_⟩
      have sz := same_new (o := .tup [.int 3, .ref tr, .ref q2]) nz
      have s59 := (s6.trans s7).trans ((s8.trans s9).trans sz)
      refine k _ (.ref z) (s5.trans s59) fun B tb => ?_
      have tb5 := tb_same s5 tb
      have tb6 := tb_same s6 tb5
      have tb7 := tb_same s7 tb6
      have nq := nb_of tb6 (tb_off tb5 nf1) wq
      have nq2 := nb_of2 (tb_same s8 tb7) nq (tb_off tb7 nu) w2
      have nz' := tb_off (tb_same (s8.trans s9) tb7) nz
      have hA := (hB B tb).weak (B' := B) (fun b hb => .inl hb)
      have er : (rsChain n).map rowDt = (List.range n).map fun s => rowDt (chRow n s) := by
        unfold rsChain
        rw [List.map_map]
        rfl
      rw [Int.toNat_natCast] at hA
      refine .tup nz' (.inl upd_same) (.cons (.int _) (.cons (.tup (n5r tb) (same_rd s59 h5r) ?_) (.cons (.tup nq2 (same_rd sz hq2) ?_) .nil)))
      · rw [er]
        exact same_all (str.trans s59) hA
      · have := dt_cs (B := B) (K := K) (H := upd H9 z (.tup [.int 3, .ref tr, .ref q2])) (fun x => Dt.bl x) (esLong n)
        unfold esLong at this ⊢
        rw [List.map_append] at this
        exact this
end
theorem long_len {n : Nat} {ring : Bool} (hn : 1 ≤ n) : (rsLong n ring).length = n := by
  unfold rsLong
  rw [List.length_append, List.length_map, List.length_range, List.length_singleton]
  omega
theorem mok_long {n : Nat} {ring : Bool} (h2 : 2 ≤ n) (h4 : n ≤ 400) : MOk 1 (rsLong n ring) (esLong n) where
  l1 := by rw [long_len (by omega)]; omega
  l400 := by rw [long_len (by omega)]; exact h4
  row := fun row h => by
    unfold rsLong at h
    rcases List.mem_append.mp h with h | h
    · obtain ⟨i, _, rfl⟩ := List.mem_map.mp h
      rfl
    · rw [List.mem_singleton.mp h]
      rfl
  tgt := fun row h v hv => by
    rw [long_len (by omega)]
    unfold rsLong at h
    rcases List.mem_append.mp h with h | h
    · obtain ⟨i, hi, rfl⟩ := List.mem_map.mp h
      rw [List.mem_range] at hi
      have := List.mem_singleton.mp hv
      cases this
      omega
    · rw [List.mem_singleton.mp h] at hv
      have := List.mem_singleton.mp hv
      cases ring with
      | true => cases this; omega
      | false => cases this
  es := by
    rw [long_len (by omega)]
    unfold esLong
    rw [List.length_append, List.length_replicate, List.length_singleton]
    omega
  L1 := Nat.le_refl _
  L3 := by decide
/-! ### rows, rings and chains: their words -/
theorem words_one : ∀ k, wordsN 1 k = [List.replicate k 0]
  | 0 => rfl
  | k + 1 => by
    show ((wordsN 1 k).flatMap fun w => (List.range 1).map fun c => w ++ [c]) = _
    rw [words_one k]
    show [List.replicate k 0 ++ [0]] = _
    rw [← List.replicate_succ']
theorem cnt_one (p : List Nat → Bool) (k : Nat) : cntP 1 p k = b2n (p (List.replicate k 0)) := by
  unfold cntP
  rw [words_one]
  show b2n _ + 0 = _
  rw [Nat.add_zero]
theorem long_nx {n : Nat} {ring : Bool} {s : Nat} (hs : s < n) : nx (rsLong n ring) s 0 = if s + 1 < n then some (s + 1) else if ring then some 0 else none := by
  unfold nx rsLong
  rw [List.getD_eq_getElem?_getD, List.getD_eq_getElem?_getD, List.getElem?_append, List.length_map, List.length_range]
  by_cases h : s < n - 1
  · rw [if_pos h, if_pos (by omega), List.getElem?_map, List.getElem?_range h]
    rfl
  · rw [if_neg h, if_neg (show ¬ s + 1 < n by omega), show s - (n - 1) = 0 by omega]
    rfl
theorem long_nx1 {n : Nat} {ring : Bool} {s c : Nat} (hc : 1 ≤ c) : nx (rsLong n ring) s c = none := by
  cases e : nx (rsLong n ring) s c with
  | none => rfl
  | some t =>
    obtain ⟨_, h, _⟩ := nx_lt (L := 1) (fun r hr => by
      unfold rsLong at hr
      rcases List.mem_append.mp hr with hr | hr
      · obtain ⟨i, _, rfl⟩ := List.mem_map.mp hr
        rfl
      · rw [List.mem_singleton.mp hr]
        rfl) e
    omega
theorem long_run {n : Nat} {ring : Bool} (h2 : 1 ≤ n) : ∀ k, run (rsLong n ring) (List.replicate k 0) 0 = if ring then some (k % n) else if k < n then some k else none
  | 0 => by
    show some 0 = _
    cases ring with
    | true => rw [if_pos rfl, Nat.zero_mod]
    | false => rw [if_neg Bool.false_ne_true, if_pos (by omega)]
  | k + 1 => by
    rw [List.replicate_succ', run_snoc, long_run h2 k]
    cases ring with
    | true =>
      rw [if_pos rfl, if_pos rfl]
      have lt : k % n < n := Nat.mod_lt _ h2
      show nx _ (k % n) 0 = _
      rw [long_nx lt, if_pos rfl]
      by_cases h : k % n + 1 < n
      · rw [if_pos h, Nat.add_mod, Nat.mod_eq_of_lt (show k % n + 1 % n < n by
          rcases Nat.lt_or_ge 1 n with q | q
          · rw [Nat.mod_eq_of_lt q]; exact h
          · have : n = 1 := by omega
            subst this
            omega)]
        rw [Nat.mod_eq_of_lt (show 1 < n by omega)]
      · rw [if_neg h]
        have e : k % n + 1 = n := by omega
        have := Nat.mod_add_div k n
        rw [show k + 1 = n + n * (k / n) by omega, Nat.add_mul_mod_self_left, Nat.mod_self]
    | false =>
      rw [if_neg Bool.false_ne_true, if_neg Bool.false_ne_true]
      by_cases h : k < n
      · rw [if_pos h]
        show nx _ k 0 = _
        rw [long_nx h]
        rfl
      · rw [if_neg h, if_neg (by omega)]
        rfl
theorem long_word {n : Nat} {ring : Bool} {es : List Bool} : ∀ (w : List Nat) (s : Nat), acc (rsLong n ring) es w s = true → w = List.replicate w.length 0
  | [], _, _ => rfl
  | c :: w, s, h => by
    have h : (match nx (rsLong n ring) s c with | none => false | some t => acc (rsLong n ring) es w t) = true := h
    cases e : nx (rsLong n ring) s c with
    | none => rw [e] at h; cases h
    | some t =>
      rw [e] at h
      have c0 : c = 0 := by
        rcases Nat.eq_zero_or_pos c with q | q
        · exact q
        · rw [long_nx1 q] at e
          cases e
      rw [c0, List.length_cons, List.replicate_succ]
      congr 1
      exact long_word w t h
theorem acc_of_run {rs : Rows} {es : List Bool} (w : List Nat) : acc rs es w 0 = match run rs w 0 with | none => false | some t => es.getD t false := by
  cases e : run rs w 0 with
  | none =>
    cases q : acc rs es w 0 with
    | false => rfl
    | true =>
      obtain ⟨t, ht, _⟩ := (acc_run w 0).mp q
      rw [e] at ht
      cases ht
  | some t =>
    show _ = es.getD t false
    cases q : es.getD t false with
    | true => exact (acc_run w 0).mpr ⟨t, e, q⟩
    | false =>
      cases y : acc rs es w 0 with
      | false => rfl
      | true =>
        obtain ⟨t', ht, hq⟩ := (acc_run w 0).mp y
        rw [e] at ht
        cases ht
        rw [q] at hq
        cases hq
theorem getD_appB (xs ys : List Bool) (k : Nat) : (xs ++ ys).getD k false = if k < xs.length then xs.getD k false else ys.getD (k - xs.length) false := by
  rw [List.getD_eq_getElem?_getD, List.getD_eq_getElem?_getD, List.getD_eq_getElem?_getD, List.getElem?_append]
  by_cases h : k < xs.length
  · rw [if_pos h, if_pos h]
  · rw [if_neg h, if_neg h]
theorem getD_repB (n k : Nat) : (List.replicate n false).getD k false = false := by
  rw [List.getD_eq_getElem?_getD, List.getElem?_replicate]
  by_cases h : k < n
  · rw [if_pos h]; rfl
  · rw [if_neg h]; rfl
def esNear (e : Nat) : List Bool := List.replicate (e - 2) false ++ [true, true]
theorem es_long {n s : Nat} (h : s < n) : (esLong n).getD s false = decide (s = n - 1) := by
  unfold esLong
  rw [getD_appB, getD_repB, List.length_replicate]
  by_cases q : s < n - 1
  · rw [if_pos q, decide_eq_false (by omega)]
  · rw [if_neg q, show s - (n - 1) = 0 by omega, decide_eq_true (by omega)]
    rfl
theorem es_near {e s : Nat} (h : s < e) (e2 : 2 ≤ e) : (esNear e).getD s false = decide (e - 2 ≤ s) := by
  unfold esNear
  rw [getD_appB, getD_repB, List.length_replicate]
  by_cases q : s < e - 2
  · rw [if_pos q, decide_eq_false (by omega)]
  · rw [if_neg q, decide_eq_true (by omega)]
    rcases Nat.lt_or_ge s (e - 1) with y | y
    · rw [show s - (e - 2) = 0 by omega]
      rfl
    · rw [show s - (e - 2) = 1 by omega]
      rfl
theorem row_cnt {n : Nat} (h : 2 ≤ n) (k : Nat) : cntP 1 (fun w => acc (rsLong n false) (esLong n) w 0) k = if k = n - 1 then 1 else 0 := by
  rw [cnt_one, acc_of_run, long_run (by omega), if_neg Bool.false_ne_true]
  by_cases q : k < n
  · rw [if_pos q]
    show b2n ((esLong n).getD k false) = _
    rw [es_long q]
    by_cases y : k = n - 1
    · rw [if_pos y, decide_eq_true y]; rfl
    · rw [if_neg y, decide_eq_false y]; rfl
  · rw [if_neg q, if_neg (by omega)]
    rfl
theorem ring_cnt {n : Nat} (h : 2 ≤ n) (k : Nat) : cntP 1 (fun w => acc (rsLong n true) (esLong n) w 0) k = if k % n = n - 1 then 1 else 0 := by
  rw [cnt_one, acc_of_run, long_run (by omega), if_pos rfl]
  show b2n ((esLong n).getD (k % n) false) = _
  rw [es_long (Nat.mod_lt _ (by omega))]
  by_cases y : k % n = n - 1
  · rw [if_pos y, decide_eq_true y]; rfl
  · rw [if_neg y, decide_eq_false y]; rfl
theorem near_cnt {n : Nat} (h : 2 ≤ n) (k : Nat) : cntP 1 (fun w => acc (rsLong n true) (esNear n) w 0) k = if n - 2 ≤ k % n then 1 else 0 := by
  rw [cnt_one, acc_of_run, long_run (by omega), if_pos rfl]
  show b2n ((esNear n).getD (k % n) false) = _
  rw [es_near (Nat.mod_lt _ (by omega)) h]
  by_cases y : n - 2 ≤ k % n
  · rw [if_pos y, decide_eq_true y]; rfl
  · rw [if_neg y, decide_eq_false y]; rfl
theorem mok_near {n : Nat} (h2 : 2 ≤ n) (h4 : n ≤ 400) : MOk 1 (rsLong n true) (esNear n) :=
  have M := mok_long (ring := true) h2 h4
  { l1 := M.l1, l400 := M.l400, row := M.row, tgt := M.tgt, L1 := M.L1, L3 := M.L3, es := by rw [long_len (by omega)]; unfold esNear; rw [List.length_append, List.length_replicate]; show n - 2 + 2 = n; omega }
/-! ### rows, rings and chains by reckoning -/
/-- an integer reckoned out at once -/
def natF {α : Type} (n : Nat) (k : Nat → α) : α := Nat.rec (k 0) (fun m _ => k (m + 1)) n
theorem natF_eq {α : Type} (n : Nat) (k : Nat → α) : natF n k = k n := by cases n <;> rfl
def intF {α : Type} (x : Int) (k : Int → α) : α := match x with
  | .ofNat n => natF n fun n => k (.ofNat n)
  | .negSucc n => natF n fun n => k (.negSucc n)
theorem intF_eq {α : Type} (x : Int) (k : Int → α) : intF x k = k x := by
  cases x with
  | ofNat n => exact natF_eq n fun n => k (.ofNat n)
  | negSucc n => exact natF_eq n fun n => k (.negSucc n)
def lisF {α : Type} : List Int → (List Int → α) → α
  | [], k => k []
  | x :: xs, k => intF x fun x => lisF xs fun xs => k (x :: xs)
theorem lisF_eq {α : Type} : ∀ (xs : List Int) (k : List Int → α), lisF xs k = k xs
  | [], _ => rfl
  | x :: xs, k => by
    show intF x (fun x => lisF xs fun xs => k (x :: xs)) = _
    rw [intF_eq, lisF_eq xs]
def forceB {α : Type} (b : BS) (k : BS → α) : α := lisF b.r fun r => lisF b.o fun o => natF b.L fun L => intF b.md fun md => natF b.gap fun gap => k ⟨r, o, L, md, gap⟩
theorem forceB_eq {α : Type} (b : BS) (k : BS → α) : forceB b k = k b := by
  unfold forceB
  rw [lisF_eq, lisF_eq, natF_eq, intF_eq, natF_eq]
def withF {α : Type} (xs : List Int) (k : List Int → α) : α := lisF xs fun xs => natF (gcdL xs) fun g => k (xs.map fun x => x / (g : Int))
theorem withF_eq {α : Type} (xs : List Int) (k : List Int → α) : withF xs k = k (withL xs) := by
  unfold withF
  rw [lisF_eq, natF_eq]
  rfl
def runS (rev : List Int) (a : Nat) (b : BS) : List Int → Bool × BS
  | [] => (okT b, b)
  | x :: xs => intF x fun x => intF (missT b (x :: rev)) fun ms => lisF (mendT b.r b.md b.o ms b.gap) fun md =>
    if okT b && (decide (ms = 0) || decide (gcdL md < 2 ^ 8000)) then
      (if ms = 0 then natF (a + 1) fun a' => natF (b.gap + 1) fun g' => runS (x :: rev) a' ⟨b.r, b.o, b.L, b.md, g'⟩ xs
      else withF md fun w => if 2 * b.L ≤ a then forceB ⟨padL w (a + 1 - b.L + 1), b.r, a + 1 - b.L, ms, 1⟩ fun b' => natF (a + 1) fun a' => runS (x :: rev) a' b' xs
      else forceB ⟨padL w (b.L + 1), b.o, b.L, b.md, b.gap + 1⟩ fun b' => natF (a + 1) fun a' => runS (x :: rev) a' b' xs)
    else (false, b)
theorem runS_eq : ∀ (xs rev : List Int) (a : Nat) (b : BS), runS rev a b xs = runT rev a b xs
  | [], _, _, _ => rfl
  | x :: xs, rev, a, b => by
    unfold runS runT stepT
    rw [intF_eq, intF_eq, lisF_eq]
    by_cases h : (okT b && (decide (missT b (x :: rev) = 0) || decide (gcdL (mendT b.r b.md b.o (missT b (x :: rev)) b.gap) < 2 ^ 8000))) = true
    · rw [if_pos h, if_pos h]
      by_cases z : missT b (x :: rev) = 0
      · rw [if_pos z, if_pos z, natF_eq, natF_eq]
        exact runS_eq xs _ _ _
      · rw [if_neg z, if_neg z, withF_eq]
        by_cases y : 2 * b.L ≤ a
        · rw [if_pos y, if_pos y, forceB_eq, natF_eq]
          exact runS_eq xs _ _ _
        · rw [if_neg y, if_neg y, forceB_eq, natF_eq]
          exact runS_eq xs _ _ _
    · rw [if_neg h, if_neg h]
def b00 : BS := ⟨[1], [1], 0, 1, 1⟩
def rowN (m : Nat) : List Int := List.replicate (m - 1) 0 ++ 1 :: List.replicate m 0
def ringN (m : Nat) : List Int := List.replicate (m - 1) 0 ++ 1 :: (List.replicate (m - 1) 0 ++ [1])
def nearN (e : Nat) : List Int := List.replicate (e - 2) 0 ++ 1 :: 1 :: (List.replicate (e - 2) 0 ++ [1, 1])
def okX (due xs : List Int) : Bool := lisF xs fun xs => match runS [] 0 b00 xs with
  | (t, b) => t && decide (bmOut b = due)
def dueL (m : Nat) : List Int := (List.range m).map fun a => (partsL m).getD (a + 1) 0 * 2 ^ (a + 1) * (if (a + 1) % 2 = 1 then 1 else -1)
def nearL (h : Nat) : List Int := (List.replicate (h - 1) [1, -1]).flatten ++ [1]
theorem okX_by {due xs : List Int} (h : okX due xs = true) : (bmL xs).1 = true ∧ bmOut (bmL xs).2 = due := by
  unfold okX at h
  rw [lisF_eq, runS_eq] at h
  have h : ((bmL xs).1 && decide (bmOut (bmL xs).2 = due)) = true := h
  obtain ⟨h1, h2⟩ := Bool.and_eq_true_iff.mp h
  exact ⟨h1, of_decide_eq_true h2⟩
theorem ok_rows : ∀ m, m < 41 → 2 ≤ m → okX (List.replicate m 0) (rowN m) = true ∧ okX (List.replicate (m - 1) 0 ++ [1]) (ringN m) = true := by decide +kernel
theorem ok_near : ∀ h, h < 21 → 1 ≤ h → okX (nearL h) (nearN (2 * h)) = true := by decide +kernel
theorem ok_chains : ∀ m, m < 41 → 2 ≤ m → okX (dueL m) (chainN m) = true := by decide +kernel
theorem ok_many : ∀ m, m < 41 → 2 ≤ m → (chainN m).getD m 0 = 2 * (m : Int) := by decide +kernel
/-! ### sizes and rules of rows, rings and chains -/
theorem sum_none {f : Nat → Nat} : ∀ n, (∀ k, k < n → f k = 0) → ((List.range n).map f).sum = 0
  | 0, _ => rfl
  | n + 1, h => by
    rw [List.range_succ, List.map_append, List.sum_append, sum_none n fun k hk => h k (by omega)]
    show 0 + (f n + 0) = 0
    rw [h n (Nat.lt_succ_self n)]
theorem row_size {n : Nat} (h : 2 ≤ n) : sizeO 1 (fun w => acc (rsLong n false) (esLong n) w 0) n = .int 1 := by
  unfold sizeO
  rw [if_neg (fun ⟨w, hw, e⟩ => by
    have e : acc (rsLong n false) (esLong n) w 0 = true := e
    have q := long_word w 0 e
    rw [acc_of_run, q, long_run (by omega), if_neg Bool.false_ne_true, if_neg (by omega)] at e
    cases e)]
  congr 1
  obtain ⟨m, rfl⟩ : ∃ m, n = m + 1 := ⟨n - 1, by omega⟩
  rw [List.range_succ, List.map_append, List.sum_append, sum_none m fun k hk => by
    show cntP 1 _ k = 0
    rw [row_cnt h, if_neg (by omega)]]
  show ((0 + (cntP 1 _ m + 0) : Nat) : Int) = 1
  rw [row_cnt h, if_pos (show m = m + 1 - 1 by omega)]
  rfl
theorem ring_size {n : Nat} {es : List Bool} (h : 2 ≤ n) (he : es.getD (n - 1) false = true) : sizeO 1 (fun w => acc (rsLong n true) es w 0) n = .non := by
  unfold sizeO
  refine if_pos ⟨List.replicate (n - 1 + n) 0, by rw [List.length_replicate]; omega, ?_⟩
  show acc (rsLong n true) es (List.replicate (n - 1 + n) 0) 0 = true
  rw [acc_of_run, long_run (by omega), if_pos rfl]
  show es.getD ((n - 1 + n) % n) false = true
  rw [Nat.add_mod_right, Nat.mod_eq_of_lt (by omega)]
  exact he
theorem rowN_at {m k : Nat} (h : 1 ≤ m) : (rowN m).getD k 0 = if k = m - 1 then 1 else 0 := by
  unfold rowN
  rw [getD_app, List.length_replicate, getD_rep]
  by_cases q : k < m - 1
  · rw [if_pos q, if_neg (by omega)]
  · rw [if_neg q]
    by_cases y : k = m - 1
    · rw [if_pos y, show k - (m - 1) = 0 by omega]
      rfl
    · rw [if_neg y]
      obtain ⟨d, hd⟩ : ∃ d, k - (m - 1) = d + 1 := ⟨k - (m - 1) - 1, by omega⟩
      rw [hd]
      show (List.replicate m (0 : Int)).getD d 0 = 0
      exact getD_rep m d
theorem rowN_len {m : Nat} (h : 1 ≤ m) : (rowN m).length = 2 * m := by
  unfold rowN
  rw [List.length_append, List.length_cons, List.length_replicate, List.length_replicate]
  omega
theorem row_goes {m : Nat} (h2 : 2 ≤ m) (h4 : m < 41) : FineR (fun k => ((cntP 1 (fun w => acc (rsLong m false) (esLong m) w 0) k : Nat) : Int)) (2 * m) ∧ bmOut (bmRun (fun k => ((cntP 1 (fun w => acc (rsLong m false) (esLong m) w 0) k : Nat) : Int)) (2 * m)) = List.replicate m 0 := by
  obtain ⟨a, b⟩ := okX_by (ok_rows m h4 h2).1
  obtain ⟨c, d⟩ := by_list (s := fun k => ((cntP 1 (fun w => acc (rsLong m false) (esLong m) w 0) k : Nat) : Int)) a fun k _ => by
    show _ = ((cntP 1 _ k : Nat) : Int)
    rw [row_cnt h2, rowN_at (by omega)]
    by_cases q : k = m - 1
    · rw [if_pos q, if_pos q]; rfl
    · rw [if_neg q, if_neg q]; rfl
  rw [rowN_len (by omega)] at c d
  exact ⟨c, by rw [d]; exact b⟩
theorem ringN_len {m : Nat} (h : 1 ≤ m) : (ringN m).length = 2 * m := by
  unfold ringN
  rw [List.length_append, List.length_cons, List.length_append, List.length_replicate]
  show m - 1 + (m - 1 + 1 + 1) = _
  omega
theorem ringN_at {m k : Nat} (h : 2 ≤ m) (hk : k < 2 * m) : (ringN m).getD k 0 = if k % m = m - 1 then 1 else 0 := by
  unfold ringN
  rw [getD_app, List.length_replicate, getD_rep]
  by_cases q : k < m - 1
  · rw [if_pos q, Nat.mod_eq_of_lt (by omega), if_neg (by omega)]
  · rw [if_neg q]
    by_cases y : k = m - 1
    · rw [Nat.mod_eq_of_lt (by omega), if_pos y, show k - (m - 1) = 0 by omega]
      rfl
    · obtain ⟨d, hd⟩ : ∃ d, k - (m - 1) = d + 1 := ⟨k - (m - 1) - 1, by omega⟩
      have e : k % m = d := by
        rw [show k = d + m by omega, Nat.add_mod_right, Nat.mod_eq_of_lt (by omega)]
      rw [hd, e]
      show (List.replicate (m - 1) (0 : Int) ++ [1]).getD d 0 = _
      rw [getD_app, List.length_replicate, getD_rep]
      by_cases z : d < m - 1
      · rw [if_pos z, if_neg (by omega)]
      · rw [if_neg z, if_pos (by omega), show d - (m - 1) = 0 by omega]
        rfl
theorem ring_goes {m : Nat} (h2 : 2 ≤ m) (h4 : m < 41) : FineR (fun k => ((cntP 1 (fun w => acc (rsLong m true) (esLong m) w 0) k : Nat) : Int)) (2 * m) ∧ bmOut (bmRun (fun k => ((cntP 1 (fun w => acc (rsLong m true) (esLong m) w 0) k : Nat) : Int)) (2 * m)) = List.replicate (m - 1) 0 ++ [1] := by
  obtain ⟨a, b⟩ := okX_by (ok_rows m h4 h2).2
  obtain ⟨c, d⟩ := by_list (s := fun k => ((cntP 1 (fun w => acc (rsLong m true) (esLong m) w 0) k : Nat) : Int)) a fun k hk => by
    rw [ringN_len (by omega)] at hk
    show _ = ((cntP 1 _ k : Nat) : Int)
    rw [ring_cnt h2, ringN_at h2 hk]
    by_cases q : k % m = m - 1
    · rw [if_pos q, if_pos q]; rfl
    · rw [if_neg q, if_neg q]; rfl
  rw [ringN_len (by omega)] at c d
  exact ⟨c, by rw [d]; exact b⟩
theorem nearN_len {m : Nat} (h : 2 ≤ m) : (nearN m).length = 2 * m := by
  unfold nearN
  rw [List.length_append, List.length_cons, List.length_cons, List.length_append, List.length_replicate]
  show m - 2 + (m - 2 + 2 + 1 + 1) = _
  omega
theorem two_at {d : Nat} (xs : List Int) : ((1 : Int) :: 1 :: xs).getD d 0 = if d < 2 then 1 else xs.getD (d - 2) 0 := by
  match d with
  | 0 => rfl
  | 1 => rfl
  | d + 2 => rw [if_neg (by omega)]; rfl
theorem nearN_at {m k : Nat} (h : 2 ≤ m) (hk : k < 2 * m) : (nearN m).getD k 0 = if m - 2 ≤ k % m then 1 else 0 := by
  unfold nearN
  rw [getD_app, List.length_replicate, getD_rep]
  by_cases q : k < m - 2
  · rw [if_pos q, Nat.mod_eq_of_lt (by omega), if_neg (by omega)]
  · rw [if_neg q, two_at]
    by_cases y : k < m
    · rw [Nat.mod_eq_of_lt y, if_pos (by omega), if_pos (by omega)]
    · have e : k % m = k - m := by
        rw [show k = k - m + m by omega, Nat.add_mod_right, Nat.mod_eq_of_lt (by omega)]
        omega
      rw [if_neg (by omega), e, getD_app, List.length_replicate, getD_rep]
      by_cases z : k - (m - 2) - 2 < m - 2
      · rw [if_pos z, if_neg (by omega)]
      · rw [if_neg z, if_pos (by omega), two_at, if_pos (by omega)]
theorem near_goes {h : Nat} (h2 : 1 ≤ h) (h4 : h < 21) : FineR (fun k => ((cntP 1 (fun w => acc (rsLong (2 * h) true) (esNear (2 * h)) w 0) k : Nat) : Int)) (2 * (2 * h)) ∧ bmOut (bmRun (fun k => ((cntP 1 (fun w => acc (rsLong (2 * h) true) (esNear (2 * h)) w 0) k : Nat) : Int)) (2 * (2 * h))) = nearL h := by
  obtain ⟨a, b⟩ := okX_by (ok_near h h4 h2)
  obtain ⟨c, d⟩ := by_list (s := fun k => ((cntP 1 (fun w => acc (rsLong (2 * h) true) (esNear (2 * h)) w 0) k : Nat) : Int)) a fun k hk => by
    rw [nearN_len (by omega)] at hk
    show _ = ((cntP 1 _ k : Nat) : Int)
    rw [near_cnt (by omega), nearN_at (by omega) hk]
    by_cases q : 2 * h - 2 ≤ k % (2 * h)
    · rw [if_pos q, if_pos q]; rfl
    · rw [if_neg q, if_neg q]; rfl
  rw [nearN_len (by omega)] at c d
  exact ⟨c, by rw [d]; exact b⟩
/-! chains -/
def chainIt (v : List Int) : Nat → List Int
  | 0 => v
  | k + 1 => chainV 0 (chainIt v k)
theorem chainV_at : ∀ (v : List Int) (s : Nat), (chainV 0 v)[s]? = if s < v.length then some (2 * v.getD s 0 + v.getD (s + 1) 0) else none
  | [], s => rfl
  | x :: xs, 0 => by
    rw [if_pos (by rw [List.length_cons]; omega)]
    show some (2 * x + xs.headD 0) = some (2 * x + xs.getD 0 0)
    cases xs <;> rfl
  | x :: xs, s + 1 => by
    show (chainV 0 xs)[s]? = _
    rw [chainV_at xs s]
    by_cases h : s < xs.length
    · rw [if_pos h, if_pos (by rw [List.length_cons]; omega)]
      rfl
    · rw [if_neg h, if_neg (by rw [List.length_cons]; omega)]
theorem chainV_len (v : List Int) : (chainV 0 v).length = v.length := by
  induction v with
  | nil => rfl
  | cons x xs ih => show (chainV 0 xs).length + 1 = _; rw [ih]; rfl
theorem it_len (v : List Int) : ∀ k, (chainIt v k).length = v.length
  | 0 => rfl
  | k + 1 => by
    show (chainV 0 _).length = _
    rw [chainV_len, it_len v k]
theorem chain_step {n : Nat} {v : List Int} (h : v.length = n) : ((rsChain n).map fun row => ((row.filter Option.isSome).map fun o => v.getD (o.getD 0) 0).sum) = chainV 0 v := by
  refine List.ext_getElem? fun s => ?_
  rw [chainV_at, List.getElem?_map]
  unfold rsChain
  rw [List.getElem?_map]
  by_cases q : s < n
  · rw [List.getElem?_range q, if_pos (by omega)]
    show some _ = some _
    congr 1
    show (((chRow n s).filter Option.isSome).map fun o => v.getD (o.getD 0) 0).sum = _
    rw [row_opt (f := fun t => v.getD t 0)]
    unfold chRow
    rw [List.map_cons, List.map_cons, List.map_cons, List.map_nil, List.sum_cons, List.sum_cons, List.sum_cons, List.sum_nil]
    show v.getD s 0 + (v.getD s 0 + (_ + 0)) = _
    by_cases y : s + 1 < n
    · rw [if_pos y]
      show v.getD s 0 + (v.getD s 0 + (v.getD (s + 1) 0 + 0)) = _
      omega
    · rw [if_neg y, getD_outI (xs := v) (k := s + 1) (by omega)]
      show v.getD s 0 + (v.getD s 0 + ((0 : Int) + 0)) = _
      omega
  · rw [List.getElem?_eq_none (by rw [List.length_range]; omega), if_neg (by omega)]
    rfl
theorem chain_cntV {n : Nat} (h : 2 ≤ n) : ∀ k, cntV (rsChain n) (esLong n) k = chainIt (List.replicate (n - 1) 0 ++ [1]) k
  | 0 => by
    show (esLong n).map intOf = _
    unfold esLong
    rw [List.map_append, List.map_replicate]
    rfl
  | k + 1 => by
    show ((rsChain n).map fun row => ((row.filter Option.isSome).map fun o => (cntV (rsChain n) (esLong n) k).getD (o.getD 0) 0).sum) = chainV 0 _
    rw [chain_cntV h k]
    refine chain_step ?_
    rw [it_len, List.length_append, List.length_replicate]
    show n - 1 + 1 = n
    omega
theorem chainS_at : ∀ (n : Nat) (v : List Int) (k : Nat), k < n → (chainS n v).getD k 0 = (chainIt v k).headD 0
  | 0, _, _, h => absurd h (Nat.not_lt_zero _)
  | n + 1, v, 0, _ => rfl
  | n + 1, v, k + 1, h => by
    show (chainS n (chainV 0 v)).getD k 0 = _
    rw [chainS_at n _ k (by omega)]
    have : ∀ k, chainIt (chainV 0 v) k = chainIt v (k + 1) := fun k => by
      induction k with
      | zero => rfl
      | succ k ih => show chainV 0 _ = chainV 0 _; rw [ih]
    rw [this]
theorem chainS_len : ∀ (n : Nat) (v : List Int), (chainS n v).length = n
  | 0, _ => rfl
  | n + 1, v => by show (chainS n _).length + 1 = _; rw [chainS_len n]
theorem chain_cnt {m k : Nat} (h : 2 ≤ m) (h4 : m ≤ 400) (hk : k < 2 * m) : (chainN m).getD k 0 = ((cntP 3 (fun w => acc (rsChain m) (esLong m) w 0) k : Nat) : Int) := by
  have e := cntV_at (mok_chain h h4) k 0 (by rw [chain_len]; omega)
  rw [chain_cntV h] at e
  unfold chainN
  rw [chainS_at _ _ k hk]
  generalize chainIt (List.replicate (m - 1) 0 ++ [1]) k = v at *
  cases v with
  | nil => cases e
  | cons x xs => exact Option.some.inj e
theorem chain_goes {m : Nat} (h2 : 2 ≤ m) (h4 : m < 41) : FineR (fun k => ((cntP 3 (fun w => acc (rsChain m) (esLong m) w 0) k : Nat) : Int)) (2 * m) ∧ bmOut (bmRun (fun k => ((cntP 3 (fun w => acc (rsChain m) (esLong m) w 0) k : Nat) : Int)) (2 * m)) = dueL m := by
  obtain ⟨a, b⟩ := okX_by (ok_chains m h4 h2)
  have l : (chainN m).length = 2 * m := chainS_len _ _
  obtain ⟨c, d⟩ := by_list (s := fun k => ((cntP 3 (fun w => acc (rsChain m) (esLong m) w 0) k : Nat) : Int)) a fun k hk => chain_cnt h2 (by omega) (by omega)
  rw [l] at c d
  exact ⟨c, by rw [d]; exact b⟩
theorem chain_many {m : Nat} (h2 : 2 ≤ m) (h4 : m < 41) : ((cntP 3 (fun w => acc (rsChain m) (esLong m) w 0) m : Nat) : Int) = 2 * (m : Int) := by
  rw [← chain_cnt h2 (by omega) (by omega)]
  exact ok_many m h4 h2
theorem same_dt {B : Addr → Prop} {K : PySem.W.Frag} {H H' : Hp} {v : V} {d : PyData} (s : Same H H') (h : Dt B K H v d) : Dt B K H' v d := Dt.keep (Keep.same s) d v h
theorem nodesAll_cons (x : PyData) (xs : List PyData) : nodesAll (x :: xs) = nodes x + nodesAll xs := by rw [nodesAll]
theorem smAll_iff : ∀ xs : List PyData, smAll xs = true ↔ ∀ x ∈ xs, sm x = true
  | [] => by simp [smAll]
  | x :: xs => by
    rw [smAll, Bool.and_eq_true, smAll_iff xs]
    simp
theorem sm_tup (xs : List PyData) : sm (.tuple xs) = true ↔ ∀ x ∈ xs, sm x = true := by rw [sm]; exact smAll_iff xs
theorem sm_lst (xs : List PyData) : sm (.list xs) = true ↔ ∀ x ∈ xs, sm x = true := by rw [sm]; exact smAll_iff xs
theorem depthAll_le : ∀ {xs : List PyData} {n : Nat}, PyData.depthAll xs ≤ n ↔ ∀ x ∈ xs, x.depth ≤ n
  | [], n => by simp [PyData.depthAll]
  | x :: xs, n => by
    rw [PyData.depthAll, Nat.max_le, depthAll_le (xs := xs)]
    simp
theorem depth_tup (xs : List PyData) : (PyData.tuple xs).depth = PyData.depthAll xs + 1 := by rw [PyData.depth]
theorem depth_lst (xs : List PyData) : (PyData.list xs).depth = PyData.depthAll xs + 1 := by rw [PyData.depth]
mutual
theorem sm_show : ∀ d : PyData, sm d = true → d.showable = true
  | .none, _ => by simp [PyData.showable]
  | .bool _, _ => by simp [PyData.showable]
  | .int i, h => by
    rw [sm, decide_eq_true_eq] at h
    rw [PyData.showable, decide_eq_true_eq]
    have h2 : i.natAbs < 2 ^ 100 := Nat.lt_of_le_of_lt h (by decide)
    by_cases z : i.natAbs = 0
    · rw [z]
      decide
    · exact Nat.lt_trans ((Nat.log2_lt z).mpr h2) (by decide)
  | .str _, _ => by simp [PyData.showable]
  | .list xs, h => by
    rw [PyData.showable]
    exact smAll_show xs (by rw [sm] at h; exact h)
  | .tuple xs, h => by
    rw [PyData.showable]
    exact smAll_show xs (by rw [sm] at h; exact h)
  | .dict kvs, h => by
    rw [sm] at h
    rw [List.isEmpty_iff.mp h]
    simp [PyData.showable, PyData.showableKv]
theorem smAll_show : ∀ xs : List PyData, smAll xs = true → PyData.showableAll xs = true
  | [], _ => by simp [PyData.showableAll]
  | x :: xs, h => by
    rw [smAll, Bool.and_eq_true] at h
    rw [PyData.showableAll, sm_show x h.1, smAll_show xs h.2]
    rfl
end
mutual
theorem sm_len : ∀ d : PyData, sm d = true → d.shown.length + 5 ≤ 60 * nodes d
  | .none, _ => by
    rw [PyData.shown, nodes]
    decide +kernel
  | .bool b, _ => by
    rw [PyData.shown, nodes]
    cases b <;> decide +kernel
  | .int i, h => by
    rw [sm, decide_eq_true_eq] at h
    rw [PyData.shown, nodes, PySem.ofString_length]
    have := int_text_length_le10 (a := i) (k := 31) (by decide) (Nat.lt_of_le_of_lt h (by decide))
    omega
  | .str x, h => by
    rw [sm, decide_eq_true_eq] at h
    rw [PyData.shown, nodes]
    omega
  | .list xs, h => by
    rw [PyData.shown, nodes]
    have h1 := smAll_len xs (by rw [sm] at h; exact h)
    have h2 := listText_len_le (PyData.shownAll xs)
    omega
  | .tuple xs, h => by
    rw [PyData.shown, nodes]
    have h1 := smAll_len xs (by rw [sm] at h; exact h)
    have h2 := tupleText_len_le (PyData.shownAll xs)
    omega
  | .dict kvs, h => by
    rw [sm] at h
    rw [List.isEmpty_iff.mp h, PyData.shown, PyData.shownKv, nodes]
    have h2 := dictText_len_le []
    simp only [List.map_nil, List.sum_nil, List.length_nil] at h2
    omega
theorem smAll_len : ∀ xs : List PyData, smAll xs = true → ((PyData.shownAll xs).map (·.length)).sum + 2 * (PyData.shownAll xs).length ≤ 60 * nodesAll xs
  | [], _ => by
    rw [PyData.shownAll, nodesAll]
    decide
  | x :: xs, h => by
    rw [smAll, Bool.and_eq_true] at h
    have h1 := sm_len x h.1
    have h2 := smAll_len xs h.2
    rw [PyData.shownAll, nodesAll, List.map_cons, List.sum_cons, List.length_cons]
    omega
end
theorem sm_fits {d : PyData} (h : sm d = true) (hn : nodes d ≤ 100000) : d.shown.length ≤ sizeLine := by
  have := sm_len d h
  exact Nat.le_trans (show d.shown.length ≤ 6000000 by omega) (by decide)
theorem deck_same {a c : Addr} {cells : List Int} {n : Int} {H H' : Hp} (s : Same H H') (h : DeckAt a c cells n H) : DeckAt a c cells n H' := ⟨h.1, s _ _ h.2.1, s _ _ h.2.2.1, h.2.2.2.1, h.2.2.2.2⟩
/-! ### t * 0 -/
section
open L2
theorem tuple_mul0 (l : Addr) (items : Array Value) (n : Nat) (dd : Option Addr) (sl : Array (Option Value)) (u : Tok) (c1 : (items.isEmpty || (0 : Int) == 1) = false) :
    Meets (Builtin.«tuple.__mul__» ⟨[.ref l, .int 0 u], []⟩) (fun _ R s => s.heap.get? l = some { cls := .type "tuple", dict := dd, data := .seq items n, slots := sl } ∧
      R (.ok (.ret (Value.ref s.heap.objs.size))) { s with heap := s.heap.push { cls := Value.type "tuple", data := Data.seq #[] }, toks := s.toks }) :=
  .of_wp fun prog w A R s h => by
    obtain ⟨hp, g, d, tk, os⟩ := s
    obtain ⟨hl, h⟩ := h
    have f1 := AutoSeq1.idx_int
    wp_walk using wpAny_loadPart' hl
    repeat (first
      | (refine wpAny_ite_false (decide_eq_false (by rw [c1]; exact Bool.false_ne_true)) ?_; wp_walk using wpAny_loadPart' hl))
    exact ⟨_, rfl, h⟩
/-- t * k for a small k from 0 on -/
def rRepZ (K : PySem.W.Frag) : R2 := fun x y H Q => ∃ l k xs, x = .ref l ∧ y = .int k ∧ Rd H l (.tup xs) ∧ xs ≠ [] ∧ 0 ≤ k ∧ k ≤ 1000 ∧ xs.length ≤ 1000 ∧ ∀ q H', Same H H' → Rd H' q (.tup (List.replicate k.toNat xs).flatten) → (q = l ∨ H q = none) → Q (.ref q) H'
variable {X : Cx}
theorem op_repZ : OpR X (binaryOp .Mult) (rRepZ X.K) := by
  intro pins s σ H x y v u Q I rx ry h
  obtain ⟨l, k, xs, rfl, rfl, hT, hne, h1, h2, hz, q⟩ := h
  by_cases e : k = 0
  · subst e
    cases rx
    obtain ⟨t, rfl⟩ := ry
    obtain ⟨its, r, ⟨⟨cls, dd, data, sl⟩, ho, hc, n, hd⟩, hs⟩ := I.tuple (.inl hT)
    simp only at hc hd
    subst hc hd
    have hle : its.length = xs.length := r.length.symm
    have hn : its ≠ [] := fun e => hne (by
      rw [e] at hle
      exact List.eq_nil_of_length_eq_zero hle.symm)
    have hi : its.toArray.isEmpty = false := by
      cases its with
      | nil => exact absurd rfl hn
      | cons a b => rfl
    have c1 : (its.toArray.isEmpty || (0 : Int) == 1) = false := by
      rw [hi, Bool.false_or]
      exact beq_eq_false_iff_ne.mpr (by omega)
    refine wpAny_binaryOp_repeat_ref (T := "tuple") (U := "int") (by decide) ⟨_, ho, rfl⟩ (fun s' => typeIs_int s' 0 t) noFill_tuple_mul F.fills_int_mul F.slot_int_rmul repeat_tuple F.slot_int_index.lookup
      (call_meets F.slot_int_rmul (typeIs_int s 0 t) F.entry_int_rmul (F.args_int_rmul_2 _ _) (int_rmul_tuple 0 t l its.toArray n dd sl)
        ⟨ho, rfl, ⟨_, ho, rfl⟩, call_meets F.slot_tuple_mul ⟨_, ho, rfl⟩ F.entry_tuple_mul (F.args_tuple_mul_2 _ _) (tuple_mul0 l its.toArray n dd sl t c1) ⟨ho, ?_⟩⟩)
    have hp := I.hok.fresh (Nat.le_refl _)
    refine ⟨.ref s.heap.objs.size, _, I.laid (t' := s.toks) (o := .tup []) (fun b ob q => Heap.get?_push_of_some _ q) (Nat.le_refl _) ?_, rfl, q _ _ (same_new hp) (.inl upd_same) (.inr hp)⟩
    exact ⟨Nat.zero_le _, [], .nil, IsTup.new _ _⟩
  · exact op_repS pins s σ H _ _ v u Q I rx ry ⟨l, k, xs, rfl, rfl, hT, hne, by omega, h2, hz, q⟩
end
/-! ### machines of many states, by the law -/
/-- data that shows: small integers and None, no deeper than two -/
theorem flat_show {xs : List PyData} (h : ∀ x ∈ xs, sm x = true ∧ x.depth ≤ 3 ∧ nodes x ≤ 1000) (hl : xs.length ≤ 10) : (PyData.list xs).showable = true ∧ (PyData.list xs).depth ≤ 60 ∧ (PyData.list xs).shown.length ≤ sizeLine := by
  have hs : sm (PyData.list xs) = true := (sm_lst xs).mpr fun x hx => (h x hx).1
  refine ⟨sm_show _ hs, ?_, sm_fits hs ?_⟩
  · rw [depth_lst]
    have := (depthAll_le (n := 3)).mpr fun x hx => (h x hx).2.1
    omega
  · rw [nodes]
    have : ∀ ys : List PyData, (∀ y ∈ ys, nodes y ≤ 1000) → nodesAll ys ≤ ys.length * 1000 := fun ys => by
      induction ys with
      | nil => intro _; rw [nodesAll]; exact Nat.zero_le _
      | cons y ys ih =>
        intro hy
        rw [nodesAll_cons, List.length_cons, Nat.add_mul]
        have h1 := hy y List.mem_cons_self
        have h2 := ih fun z hz => hy z (List.mem_cons_of_mem _ hz)
        omega
    have := this xs fun x hx => (h x hx).2.2
    have := Nat.mul_le_mul_right 1000 hl
    omega
def itD (xs : List Int) : PyData := .tuple (xs.map .int)
theorem itD_ok {xs : List Int} (h : ∀ x ∈ xs, x.natAbs ≤ 10 ^ 30) (hl : xs.length ≤ 100) : sm (itD xs) = true ∧ (itD xs).depth ≤ 3 ∧ nodes (itD xs) ≤ 1000 := by
  unfold itD
  refine ⟨(sm_tup _).mpr fun x hx => ?_, ?_, ?_⟩
  · obtain ⟨i, hi, rfl⟩ := List.mem_map.mp hx
    rw [sm]
    exact decide_eq_true (h i hi)
  · rw [depth_tup]
    have := (depthAll_le (n := 1) (xs := xs.map .int)).mpr fun x hx => by
      obtain ⟨i, _, rfl⟩ := List.mem_map.mp hx
      rw [PyData.depth]
      omega
    omega
  · rw [nodes]
    have : ∀ ys : List Int, nodesAll (ys.map .int) ≤ ys.length * 1 := fun ys => by
      induction ys with
      | nil => rw [List.map_nil, nodesAll]; exact Nat.zero_le _
      | cons y ys ih => rw [List.map_cons, nodesAll_cons, List.length_cons, nodes]; omega
    have := this xs
    omega
theorem int_ok {i : Int} (h : i.natAbs ≤ 10 ^ 30) : sm (.int i) = true ∧ (PyData.int i).depth ≤ 3 ∧ nodes (.int i) ≤ 1000 := by
  refine ⟨by rw [sm]; exact decide_eq_true h, by rw [PyData.depth]; omega, by rw [nodes]; omega⟩
theorem none_ok : sm .none = true ∧ PyData.none.depth ≤ 3 ∧ nodes .none ≤ 1000 := ⟨by rw [sm], by rw [PyData.depth]; omega, by rw [nodes]; omega⟩
theorem two_ok {d e : PyData} (h : sm d = true ∧ d.depth ≤ 3 ∧ nodes d ≤ 1000) (h' : sm e = true ∧ e.depth ≤ 3 ∧ nodes e ≤ 1000) : (PyData.list [d, e]).showable = true ∧ (PyData.list [d, e]).depth ≤ 60 ∧ (PyData.list [d, e]).shown.length ≤ sizeLine :=
  flat_show (fun x hx => by
    rcases List.mem_cons.mp hx with z | hx
    · rw [z]; exact h
    · rw [List.mem_singleton.mp hx]; exact h') (by show 2 ≤ 10; decide)
theorem dt_its {B : Addr → Prop} {K : PySem.W.Frag} {H : Hp} : ∀ (xs : List Int), DtAll B K H (xs.map V.int) (xs.map .int)
  | [] => .nil
  | x :: xs => .cons (.int x) (dt_its xs)
theorem dt_it {B : Addr → Prop} {K : PySem.W.Frag} {H : Hp} {p : Addr} {xs : List Int} (nb : ¬ B p) (h : H p = some (.tup (xs.map V.int))) : Dt B K H (.ref p) (itD xs) := .tup nb (.inl h) (dt_its xs)
theorem due_small : ∀ m, m < 41 → 2 ≤ m → ∀ x ∈ dueL m, x.natAbs ≤ 10 ^ 30 := by decide +kernel
theorem near_small (h : Nat) : ∀ x ∈ nearL h, x.natAbs ≤ 10 ^ 30 := fun x hx => by
  unfold nearL at hx
  rcases List.mem_append.mp hx with hx | hx
  · obtain ⟨l, hl, hx⟩ := List.mem_flatten.mp hx
    rw [(List.mem_replicate.mp hl).2] at hx
    rcases List.mem_cons.mp hx with z | hx
    · rw [z]; decide
    · rw [List.mem_singleton.mp hx]; decide
  · rw [List.mem_singleton.mp hx]; decide
theorem near_len : ∀ h, 1 ≤ h → (nearL h).length = 2 * h - 1 := fun h hh => by
  unfold nearL
  rw [List.length_append, List.length_flatten, List.map_replicate]
  show (List.replicate (h - 1) 2).sum + 1 = _
  rw [List.sum_replicate_nat]
  omega
theorem deck_tb {a c : Addr} {cells : List Int} {n : Int} {H : Hp} (dk : DeckAt a c cells n H) : TB (Bd a c) H := fun b z => by
  rcases z with z | z
  · rw [z, dk.2.1]
    exact fun y => by cases y
  · rw [z, dk.2.2.1]
    exact fun y => by cases y
theorem dt_itR {B : Addr → Prop} {K : PySem.W.Frag} {H : Hp} {p : Addr} {xs : List Int} (nb : ¬ B p) (h : Rd H p (.tup (xs.map V.int))) : Dt B K H (.ref p) (itD xs) := .tup nb h (dt_its xs)
theorem parts_small : ∀ m, m < 41 → ∀ x ∈ partsL m, x.natAbs < 2 ^ 100 := by decide +kernel
theorem due_at {m i : Nat} (h : i < m) : (dueL m)[i]? = some ((partsL m).getD (i + 1) 0 * 2 ^ (i + 1) * (if (i + 1) % 2 = 1 then 1 else -1)) := by
  unfold dueL
  rw [List.getElem?_map, List.getElem?_range h]
  rfl
theorem due_len (m : Nat) : (dueL m).length = m := by
  unfold dueL
  rw [List.length_map, List.length_range]
section
variable {P : Program} {w : World} {K : PySem.W.Frag} {mg : Str → Option Value} {base : Heap}
theorem scLongR : FnScope ["_law_deck_here", "_law_great", "_law_many", "_law_row", "_law_ring", "_law_even", "_law_near", "_law_parts_here", "_law_due", "_law_at"] ["_law_deck_here"] (defScope sLongR) := ⟨rfl, rfl, rfl, by decide +kernel, rfl, by decide +kernel, by decide +kernel⟩
def spLongR : Sp := fun vs H Q _ => ∃ (a c : Addr) (cells : List Int) (n : Int), vs = [.ref a] ∧ DeckAt a c cells n H ∧ 0 ≤ n ∧ n ≤ 900000 ∧
  ∀ (H' : Hp) (cells' : List Int) (n' : Int), DeckAt a c cells' n' H' → n ≤ n' → n' ≤ n + 100 → Q (.bl true) H'
theorem ok_longR {f fDR fON fLG fPT fCH fSZ fGO fCO : Addr} {fd fdDR fdON fdLG fdPT fdCH fdSZ fdGO fdCO : FuncData} (F : Fun K "_law_long_right" "_law_long_right" sLongR f fd)
    (DR : FnOk P w K mg base CX0 1 fDR fdDR ["_law_deck_here", "_law_many"] spDraw) (FDR : Fun K "_law_draw" "_law_draw" sDraw fDR fdDR) (bDR : Binds K fdDR ["_law_deck_here", "_law_many"] []) (gDR : mg "_law_draw" = some (.ref fDR))
    (ON : FnOk P w K mg base CX0 2 fON fdON ["_law_deck_here", "_law_items"] (spOne K)) (FON : Fun K "_law_one" "_law_one" sOne fON fdON) (bON : Binds K fdON ["_law_deck_here", "_law_items"] []) (gON : mg "_law_one" = some (.ref fON))
    (LG : FnOk P w K mg base CX0 1 fLG fdLG ["_law_many", "_law_is_ring"] (spLong K)) (FLG : Fun K "_law_long" "_law_long" sLong fLG fdLG) (bLG : Binds K fdLG ["_law_many", "_law_is_ring"] []) (gLG : mg "_law_long" = some (.ref fLG))
    (PT : FnOk P w K mg base CX0 1 fPT fdPT ["_law_many"] spParts) (FPT : Fun K "_law_parts" "_law_parts" sParts fPT fdPT) (bPT : Binds K fdPT ["_law_many"] []) (gPT : mg "_law_parts" = some (.ref fPT))
    (CH : FnOk P w K mg base CX0 1 fCH fdCH ["_law_many"] (spChain K)) (FCH : Fun K "_law_chain" "_law_chain" sChain fCH fdCH) (bCH : Binds K fdCH ["_law_many"] []) (gCH : mg "_law_chain" = some (.ref fCH))
    (SZ : FnOk P w K mg base CX0 3 fSZ fdSZ ["machine"] (spSize K)) (FSZ : Fun K "size" "size" sSize fSZ fdSZ) (bSZ : Binds K fdSZ ["machine"] []) (gSZ : mg "size" = some (.ref fSZ))
    (GO : FnOk P w K mg base CX0 3 fGO fdGO ["machine"] (spGoesOnF K)) (FGO : Fun K "goes_on" "goes_on" sGoesOn fGO fdGO) (bGO : Binds K fdGO ["machine"] []) (gGO : mg "goes_on" = some (.ref fGO))
    (CO : FnOk P w K mg base CX0 3 fCO fdCO ["machine", "length"] (spCount K)) (FCO : Fun K "count" "count" sCount fCO fdCO) (bCO : Binds K fdCO ["machine", "length"] []) (gCO : mg "count" = some (.ref fCO)) (T : Mg mg) : GRun P w K mg base 5 f fd ["_law_deck_here"] spLongR := by
  refine grun F scLongR (fun cdv A outer s H vs Q hG0 hr h => ?_)
  obtain ⟨a, c, cells, n, rfl, dk, n0, n9, k⟩ := h
  have hG : (A.deeper (envOfC "_law_long_right" (defScope sLongR) s.heap.objs.size f cdv)).guards = some [] := hG0
  have hu := hr.units
  have hu0 := hr.units0
  refine ⟨_, (pss_cons (ps_set (i := 1) scLongR.nd rfl (.inl rfl) (pe_call ON (hr.mono (by decide)) (by rfl) gON FON.kp bON .nil pass0 (pa_cons (pv 0) (pa_cons (pe_lstA (pa_cons pe_int (pa_cons pe_int (pa_cons (pe_op op_add pe_int (pe_call DR (hr.mono (by decide)) (by rfl) gDR FDR.kp bDR .nil pass0 (pa_cons (pv 0) (pa_cons pe_int pa_nil)))) pa_nil)))) pa_nil))))
      (pss_cons (ps_set (i := 2) scLongR.nd rfl (.inl rfl) (pe_call ON (hr.mono (by decide)) (by rfl) gON FON.kp bON .nil pass0 (pa_cons (pv 0) (pa_cons (pe_lstA (pa_cons pe_int (pa_cons pe_int (pa_cons (pe_op op_add pe_int (pe_call DR (hr.mono (by decide)) (by rfl) gDR FDR.kp bDR .nil pass0 (pa_cons (pv 0) (pa_cons pe_int pa_nil)))) pa_nil)))) pa_nil))))
      (pss_cons (ps_if (pt_cmpR op_ne (pe_callB (call_reprD hG hu) (by rfl) T.repr (by decide +kernel) (pa_cons (pe_lstA (pa_cons (pe_call SZ (hr.mono (by decide)) (by rfl) gSZ FSZ.kp bSZ .nil pass0 (pa_cons (pe_call LG (hr.mono (by decide)) (by rfl) gLG FLG.kp bLG .nil pass0 (pa_cons (pv 1) (pa_cons pe_bl pa_nil))) pa_nil)) (pa_cons (pe_call SZ (hr.mono (by decide)) (by rfl) gSZ FSZ.kp bSZ .nil pass0 (pa_cons (pe_call LG (hr.mono (by decide)) (by rfl) gLG FLG.kp bLG .nil pass0 (pa_cons (pv 1) (pa_cons pe_bl pa_nil))) pa_nil)) pa_nil))) pa_nil)) (pe_callB (call_reprD hG hu) (by rfl) T.repr (by decide +kernel) (pa_cons (pe_lstA (pa_cons pe_int (pa_cons pe_non pa_nil))) pa_nil)) (nomark _)) (pss_one (ps_ret pe_bl)) pss_nil)
      (pss_cons (ps_par3 (i := 3) (j := 4) (l := 5) rfl scLongR.nd rfl rfl rfl (by decide) (by decide) (by decide) rfl rfl rfl (pa_cons (pe_call LG (hr.mono (by decide)) (by rfl) gLG FLG.kp bLG .nil pass0 (pa_cons (pv 2) (pa_cons pe_bl pa_nil))) (pa_cons (pe_call LG (hr.mono (by decide)) (by rfl) gLG FLG.kp bLG .nil pass0 (pa_cons (pv 2) (pa_cons pe_bl pa_nil))) (pa_cons (pe_op op_mul (pe_op op_fdiv (pv 2) pe_int) pe_int) pa_nil))) (by rfl))
      (pss_cons (ps_if (pt_cmpR op_ne (pe_callB (call_reprD hG hu) (by rfl) T.repr (by decide +kernel) (pa_cons (pe_lstA (pa_cons (pe_call GO (hr.mono (by decide)) (by rfl) gGO FGO.kp bGO .nil pass0 (pa_cons (pv 3) pa_nil)) (pa_cons (pe_call GO (hr.mono (by decide)) (by rfl) gGO FGO.kp bGO .nil pass0 (pa_cons (pv 4) pa_nil)) pa_nil))) pa_nil)) (pe_callB (call_reprD hG hu) (by rfl) T.repr (by decide +kernel) (pa_cons (pe_lstA (pa_cons (pe_op op_repZ (pe_tup (pa_cons pe_int pa_nil)) (pv 2)) (pa_cons (pe_op op_catS (pe_op op_repZ (pe_tup (pa_cons pe_int pa_nil)) (pe_op op_sub (pv 2) pe_int)) (pe_tup (pa_cons pe_int pa_nil))) pa_nil))) pa_nil)) (nomark _)) (pss_one (ps_ret pe_bl)) pss_nil)
      (pss_cons (ps_set (i := 6) scLongR.nd rfl (.inl rfl) (pe_tup (pa_cons pe_int (pa_cons (pe_ix (r := rIxT K) ix_tup (pe_call LG (hr.mono (by decide)) (by rfl) gLG FLG.kp bLG .nil pass0 (pa_cons (pv 5) (pa_cons pe_bl pa_nil))) pe_int (fun _ _ => rfl)) (pa_cons (pe_op op_catS (pe_op op_repZ (pe_tup (pa_cons pe_bl pa_nil)) (pe_op op_sub (pv 5) pe_int)) (pe_tup (pa_cons pe_bl (pa_cons pe_bl pa_nil)))) pa_nil)))))
      (pss_cons (ps_if (pt_cmpR op_ne (pe_callB (call_reprD hG hu) (by rfl) T.repr (by decide +kernel) (pa_cons (pe_lstA (pa_cons (pe_call SZ (hr.mono (by decide)) (by rfl) gSZ FSZ.kp bSZ .nil pass0 (pa_cons (pv 6) pa_nil)) (pa_cons (pe_call GO (hr.mono (by decide)) (by rfl) gGO FGO.kp bGO .nil pass0 (pa_cons (pv 6) pa_nil)) pa_nil))) pa_nil)) (pe_callB (call_reprD hG hu) (by rfl) T.repr (by decide +kernel) (pa_cons (pe_lstA (pa_cons pe_non (pa_cons (pe_op op_catS (pe_op op_repZ (pe_tup (pa_cons pe_int (pa_cons (pe_un un_neg pe_int) pa_nil))) (pe_op op_sub (pe_op op_fdiv (pv 5) pe_int) pe_int)) (pe_tup (pa_cons pe_int pa_nil))) pa_nil))) pa_nil)) (nomark _)) (pss_one (ps_ret pe_bl)) pss_nil)
      (pss_cons (ps_par (i := 7) (j := 8) rfl scLongR.nd rfl rfl (by decide) rfl rfl (pa_cons (pe_call PT (hr.mono (by decide)) (by rfl) gPT FPT.kp bPT .nil pass0 (pa_cons (pv 2) pa_nil)) (pa_cons (pe_lstA pa_nil) pa_nil)) (by rfl))
      (pss_cons (ps_for PassesOwn.never rfl (pi_range2 (by rfl) T.range (pa_cons pe_int (pa_cons (pe_op op_add (pv 2) pe_int) pa_nil))) (pg_name (i := 9) scLongR.nd rfl (.inl rfl)) (pss_one (ps_expr (pe_bm PySem.F.plainAttrs_list PySem.F.slot_list_append PySem.F.type_list_append mt_append (pv 8) (pa_cons (pe_op op_mulW (pe_op op_mulW (pe_ix (r := rIxL K) ix_list (pv 7) (pv 9) (fun _ _ => rfl)) (pe_op op_oneShl pe_int (pv 9))) (pe_ifExp (pt_cmpR op_eq (pe_op op_mod (pv 9) pe_int) pe_int (nomark _)) pe_int (pe_un un_neg pe_int))) pa_nil)))))
      (pss_one (ps_ret (pe_cmpR op_eq (pe_callB (call_reprD hG hu) (by rfl) T.repr (by decide +kernel) (pa_cons (pe_lstA (pa_cons (pe_call GO (hr.mono (by decide)) (by rfl) gGO FGO.kp bGO .nil pass0 (pa_cons (pe_call CH (hr.mono (by decide)) (by rfl) gCH FCH.kp bCH .nil pass0 (pa_cons (pv 2) pa_nil)) pa_nil)) (pa_cons (pe_call CO (hr.mono (by decide)) (by rfl) gCO FCO.kp bCO .nil pass0 (pa_cons (pe_call CH (hr.mono (by decide)) (by rfl) gCH FCH.kp bCH .nil pass0 (pa_cons (pv 2) pa_nil)) (pa_cons (pv 2) pa_nil))) pa_nil))) pa_nil)) (pe_callB (call_reprD hG hu) (by rfl) T.repr (by decide +kernel) (pa_cons (pe_lstA (pa_cons (pe_callTy (r := rTup K) call_tuple_of (by rfl) T.tuple PyProof.Rows.boot_tuple (pa_cons (pv 8) pa_nil)) (pa_cons (pe_op op_mul pe_int (pv 2)) pa_nil))) pa_nil)) (nomark _))))))))))))), ?_⟩
  refine ⟨_, rfl, _, rfl, a, c, cells, n, 399, rfl, dk, by decide, by decide, n0, by omega, fun H1 cells1 r r0 r1 dk1 k1 => ?_⟩
  refine ⟨_, _, rfl, rfl, by show 3 ≤ sizeLine; decide, fun l H2 s2 l0 _ hl => ?_⟩
  have dk2 := deck_same s2 dk1
  refine ⟨a, c, l, cells1, n + 1, _, rfl, dk2, by omega, by omega, SqL.of hl, deck_off dk1 l0, List.cons_ne_nil _ _, by show 3 ≤ 1000; decide, fun H3 cells3 x hx dk3 k3 => ?_⟩
  obtain ⟨N, eN, N2, N400⟩ : ∃ N : Nat, x = .int (N : Int) ∧ 2 ≤ N ∧ N ≤ 400 := by
    rcases List.mem_cons.mp hx with z | hx
    · exact ⟨400, z, by decide, by decide⟩
    rcases List.mem_cons.mp hx with z | hx
    · exact ⟨399, z, by decide, by decide⟩
    · refine ⟨(2 + r).toNat, ?_, by omega, by omega⟩
      rw [List.mem_singleton.mp hx, Int.toNat_of_nonneg (by omega)]
  subst eN
  clear hx
  refine ⟨_, rfl, _, rfl, a, c, cells3, _, 39, rfl, dk3, by decide, by decide, by omega, by omega, fun H4 cells4 r' r'0 r'1 dk4 k4 => ?_⟩
  refine ⟨_, _, rfl, rfl, by show 3 ≤ sizeLine; decide, fun l' H5 s5 l'0 _ hl' => ?_⟩
  have dk5 := deck_same s5 dk4
  refine ⟨a, c, l', cells4, _, _, rfl, dk5, by omega, by omega, SqL.of hl', deck_off dk4 l'0, List.cons_ne_nil _ _, by show 3 ≤ 1000; decide, fun H6 cells6 x' hx' dk6 k6 => ?_⟩
  obtain ⟨m, eM, m2, m40⟩ : ∃ m : Nat, x' = .int (m : Int) ∧ 2 ≤ m ∧ m < 41 := by
    rcases List.mem_cons.mp hx' with z | hx'
    · exact ⟨40, z, by decide, by decide⟩
    rcases List.mem_cons.mp hx' with z | hx'
    · exact ⟨31, z, by decide, by decide⟩
    · refine ⟨(2 + r').toNat, ?_, by omega, by omega⟩
      rw [List.mem_singleton.mp hx', Int.toNat_of_nonneg (by omega)]
  subst eM
  clear hx'
  have Mr := mok_long (ring := false) N2 N400
  have Mg_ := mok_long (ring := true) N2 N400
  refine ⟨_, rfl, N, false, rfl, N2, N400, fun H7 vr s7 hr7 => ?_⟩
  have dk7 := deck_same s7 dk6
  refine ⟨1, _, _, vr, Bd a c, rfl, hr7 (Bd a c) (deck_tb dk6), Mr, fun H8 s8 => ?_⟩
  rw [long_len (by omega), row_size N2]
  have dk8 := deck_same s8 dk7
  refine ⟨_, rfl, N, true, rfl, N2, N400, fun H9 vg s9 hr9 => ?_⟩
  have dk9 := deck_same s9 dk8
  refine ⟨1, _, _, vg, Bd a c, rfl, hr9 (Bd a c) (deck_tb dk8), Mg_, fun H10 s10 => ?_⟩
  rw [long_len (by omega), ring_size N2 (by rw [es_long (by omega)]; exact decide_eq_true rfl)]
  have dk10 := deck_same s10 dk9
  refine ⟨by show 2 ≤ sizeLine; decide, fun l1 H11 s11 l10 ns1 hl1 => ?_⟩
  have dk11 := deck_same s11 dk10
  obtain ⟨h1, h2, h3⟩ := two_ok (int_ok (i := 1) (by decide)) none_ok
  refine ⟨_, .list [.int 1, .none], Bd a c, rfl, .lst (deck_off dk10 l10) ns1 (.inl hl1) (.cons (.int _) (.cons .non .nil)), h1, h2, h3, ?_⟩
  refine ⟨by show 2 ≤ sizeLine; decide, fun l2 H12 s12 l20 ns2 hl2 => ?_⟩
  have dk12 := deck_same s12 dk11
  refine ⟨_, .list [.int 1, .none], Bd a c, rfl, .lst (deck_off dk11 l20) ns2 (.inl hl2) (.cons (.int _) (.cons .non .nil)), h1, h2, h3, ?_⟩
  generalize (PyData.list [.int 1, .none]).shown = S1
  refine ⟨rfl, _, rfl, ite2 (fun z => ?_) (fun _ => ?_)⟩
  · exact absurd rfl (of_decide_eq_false (not_cases z))
  clear hr7 hr9 Mr Mg_ h1 h2 h3 hl hl' hl1 hl2
  refine ⟨_, rfl, m, false, rfl, m2, by omega, fun H13 vw s13 hw => ?_⟩
  have dk13 := deck_same s13 dk12
  have w13 := hw (Bd a c) (deck_tb dk12)
  refine ⟨_, rfl, m, true, rfl, m2, by omega, fun H14 vi s14 hi => ?_⟩
  have dk14 := deck_same s14 dk13
  have i14 := hi (Bd a c) (deck_tb dk13)
  have w14 := same_dt s14 w13
  clear hw hi
  obtain ⟨h, hh⟩ : ∃ h : Nat, h = m / 2 := ⟨_, rfl⟩
  have eh : (m : Int) / 2 * 2 = ((2 * h : Nat) : Int) := by omega
  have h1 : 1 ≤ h := by omega
  have h21 : h < 21 := by omega
  refine ⟨_, rfl, _, _, rfl, rfl, ⟨by decide, by decide⟩, _, _, rfl, rfl, .inl ⟨by omega, by omega⟩, _, _, _, rfl, ?_⟩
  dsimp only
  rw [eh]
  have Mw := mok_long (ring := false) m2 (show m ≤ 400 by omega)
  have Mi := mok_long (ring := true) m2 (show m ≤ 400 by omega)
  obtain ⟨cw, Lw, _, Rw⟩ := counts_rule Mw
  obtain ⟨ci, Li, _, Ri⟩ := counts_rule Mi
  obtain ⟨fw, ow⟩ := row_goes m2 m40
  obtain ⟨fi, oi⟩ := ring_goes m2 m40
  refine ⟨_, rfl, 1, Lw, _, _, vw, Bd a c, cw, rfl, w14, Mw, Rw, by rw [long_len (by omega)]; exact fw, fun H15 p15 s15 p150 hp15 => ?_⟩
  rw [long_len (by omega), ow] at hp15
  have dk15 := deck_same s15 dk14
  have i15 := same_dt s15 i14
  refine ⟨_, rfl, 1, Li, _, _, vi, Bd a c, ci, rfl, i15, Mi, Ri, by rw [long_len (by omega)]; exact fi, fun H16 p16 s16 p160 hp16 => ?_⟩
  rw [long_len (by omega), oi] at hp16
  have dk16 := deck_same s16 dk15
  have d15 : Dt (Bd a c) K H16 (.ref p15) (itD (List.replicate m 0)) := same_dt s16 (dt_it (deck_off dk14 p150) hp15)
  have d16 : Dt (Bd a c) K H16 (.ref p16) (itD (List.replicate (m - 1) 0 ++ [1])) := dt_it (deck_off dk15 p160) hp16
  refine ⟨by show 2 ≤ sizeLine; decide, fun l1 H17 s17 l10 ns1 hl1 => ?_⟩
  have dk17 := deck_same s17 dk16
  obtain ⟨a1, a2, a3⟩ := two_ok (itD_ok (xs := List.replicate m 0) (fun x hx => by rw [(List.mem_replicate.mp hx).2]; decide) (by rw [List.length_replicate]; omega))
    (itD_ok (xs := List.replicate (m - 1) 0 ++ [1]) (fun x hx => by
      rcases List.mem_append.mp hx with hx | hx
      · rw [(List.mem_replicate.mp hx).2]; decide
      · rw [List.mem_singleton.mp hx]; decide) (by rw [List.length_append, List.length_replicate]; show m - 1 + 1 ≤ 100; omega))
  refine ⟨_, .list [itD (List.replicate m 0), itD (List.replicate (m - 1) 0 ++ [1])], Bd a c, rfl, .lst (deck_off dk16 l10) ns1 (.inl hl1) (.cons (same_dt s17 d15) (.cons (same_dt s17 d16) .nil)), a1, a2, a3, ?_⟩
  refine ⟨by show 1 ≤ sizeLine; decide, fun f1 nf1 => ?_⟩
  have s18 := same_new (o := .tup [.int 0]) nf1
  have dk18 := deck_same s18 dk17
  have nf1B := deck_off dk17 nf1
  have gf1 : Rd (upd H17 f1 (.tup [.int 0])) f1 (.tup [.int 0]) := .inl upd_same
  generalize upd H17 f1 (.tup [.int 0]) = H18 at *
  refine ⟨_, rfl, f1, (m : Int), _, rfl, rfl, gf1, List.cons_ne_nil _ _, by omega, by omega, by show 1 ≤ 1000; decide, fun q1 H19 s19 hq1 wq1 => ?_⟩
  have dk19 := deck_same s19 dk18
  have nq1 := nb_of (deck_tb dk18) nf1B wq1
  rw [show (List.replicate (m : Int).toNat [V.int 0]).flatten = (List.replicate m (0 : Int)).map V.int by rw [Int.toNat_natCast]; simp] at hq1
  refine ⟨by show 1 ≤ sizeLine; decide, fun f2 nf2 => ?_⟩
  have s20 := same_new (o := .tup [.int 0]) nf2
  have dk20 := deck_same s20 dk19
  have nf2B := deck_off dk19 nf2
  have gf2 : Rd (upd H19 f2 (.tup [.int 0])) f2 (.tup [.int 0]) := .inl upd_same
  generalize upd H19 f2 (.tup [.int 0]) = H20 at *
  refine ⟨_, rfl, _, _, rfl, rfl, f2, (m : Int) - 1, _, rfl, rfl, gf2, List.cons_ne_nil _ _, by omega, by omega, by show 1 ≤ 1000; decide, fun q2 H21 s21 hq2 wq2 => ?_⟩
  have dk21 := deck_same s21 dk20
  have nq2 := nb_of (deck_tb dk20) nf2B wq2
  rw [show (List.replicate ((m : Int) - 1).toNat [V.int 0]).flatten = (List.replicate (m - 1) (0 : Int)).map V.int by rw [show ((m : Int) - 1).toNat = m - 1 by omega]; simp] at hq2
  refine ⟨by show 1 ≤ sizeLine; decide, fun f3 nf3 => ?_⟩
  have s22 := same_new (o := .tup [.int 1]) nf3
  have dk22 := deck_same s22 dk21
  have nf3B := deck_off dk21 nf3
  have gf3 : Rd (upd H21 f3 (.tup [.int 1])) f3 (.tup [.int 1]) := .inl upd_same
  have hq2 := same_rd s22 hq2
  generalize upd H21 f3 (.tup [.int 1]) = H22 at *
  refine ⟨q2, f3, _, _, rfl, rfl, hq2, gf3, sz_of (by rw [List.length_map, List.length_replicate, List.length_singleton]; omega), fun q3 H23 s23 hq3 wq3 => ?_⟩
  have dk23 := deck_same s23 dk22
  have nq3 := nb_of2 (deck_tb dk22) nq2 nf3B wq3
  have hq3 : Rd H23 q3 (.tup ((List.replicate (m - 1) (0 : Int) ++ [1]).map V.int)) := by rw [List.map_append]; exact hq3
  have hq1 := same_rd s23 (same_rd s22 (same_rd s21 (same_rd s20 hq1)))
  refine ⟨by show 2 ≤ sizeLine; decide, fun l2 H24 s24 l20 ns2 hl2 => ?_⟩
  have dk24 := deck_same s24 dk23
  refine ⟨_, .list [itD (List.replicate m 0), itD (List.replicate (m - 1) 0 ++ [1])], Bd a c, rfl, .lst (deck_off dk23 l20) ns2 (.inl hl2) (.cons (same_dt s24 (dt_itR nq1 hq1)) (.cons (same_dt s24 (dt_itR nq3 hq3)) .nil)), a1, a2, a3, ?_⟩
  generalize (PyData.list [itD (List.replicate m 0), itD (List.replicate (m - 1) 0 ++ [1])]).shown = S2
  refine ⟨rfl, _, rfl, ite2 (fun z => ?_) (fun _ => ?_)⟩
  · exact absurd rfl (of_decide_eq_false (not_cases z))
  clear a1 a2 a3 hl1 hl2 gf1 gf2 gf3 hq1 hq2 hq3 wq1 wq2 wq3 d15 d16 hp15 hp16 w14 i14 i15 fw fi ow oi Rw Ri Mw Mi
  have e2 : 2 ≤ 2 * h := by omega
  refine ⟨_, rfl, 2 * h, true, rfl, e2, by omega, fun H25 vl s25 hvl => ?_⟩
  have dk25 := deck_same s25 dk24
  obtain ⟨ml, xl, rfl, nml, hml, hal, _⟩ := (hvl (Bd a c) (deck_tb dk24)).tup_rd
  cases hal with
  | cons hal1 hal =>
  cases hal with
  | cons hal2 hal =>
  cases hal with
  | cons hal3 hal =>
  cases hal
  rename_i vb vc vd
  refine ⟨ml, _, 1, _, rfl, rfl, .inl hml, atI_nat (j := 1) rfl, ?_⟩
  refine ⟨by show 1 ≤ sizeLine; decide, fun f1 nf1 => ?_⟩
  have s26 := same_new (o := .tup [.bl false]) nf1
  have dk26 := deck_same s26 dk25
  have nf1B := deck_off dk25 nf1
  have gf1 : Rd (upd H25 f1 (.tup [.bl false])) f1 (.tup [.bl false]) := .inl upd_same
  generalize upd H25 f1 (.tup [.bl false]) = H26 at *
  refine ⟨_, rfl, _, _, rfl, rfl, f1, ((2 * h : Nat) : Int) - 2, _, rfl, rfl, gf1, List.cons_ne_nil _ _, by omega, by omega, by show 1 ≤ 1000; decide, fun q1 H27 s27 hq1 wq1 => ?_⟩
  have dk27 := deck_same s27 dk26
  have nq1 := nb_of (deck_tb dk26) nf1B wq1
  rw [show (List.replicate (((2 * h : Nat) : Int) - 2).toNat [V.bl false]).flatten = (List.replicate (2 * h - 2) false).map V.bl by rw [show (((2 * h : Nat) : Int) - 2).toNat = 2 * h - 2 by omega]; simp] at hq1
  refine ⟨by show 2 ≤ sizeLine; decide, fun f2 nf2 => ?_⟩
  have s28 := same_new (o := .tup [.bl true, .bl true]) nf2
  have dk28 := deck_same s28 dk27
  have nf2B := deck_off dk27 nf2
  have gf2 : Rd (upd H27 f2 (.tup [.bl true, .bl true])) f2 (.tup [.bl true, .bl true]) := .inl upd_same
  have hq1 := same_rd s28 hq1
  generalize upd H27 f2 (.tup [.bl true, .bl true]) = H28 at *
  refine ⟨q1, f2, _, _, rfl, rfl, hq1, gf2, sz_of (by rw [List.length_map, List.length_replicate, List.length_cons, List.length_singleton]; omega), fun q3 H29 s29 hq3 wq3 => ?_⟩
  have dk29 := deck_same s29 dk28
  have nq3 := nb_of2 (deck_tb dk28) nq1 nf2B wq3
  have hq3 : Rd H29 q3 (.tup ((esNear (2 * h)).map V.bl)) := by
    unfold esNear
    rw [List.map_append]
    exact hq3
  refine ⟨by show 3 ≤ sizeLine; decide, fun nt nnt => ?_⟩
  have s30 := same_new (o := .tup [.int 1, vb, .ref q3]) nnt
  have dk30 := deck_same s30 dk29
  have gnt : Rd (upd H29 nt (.tup [.int 1, vb, .ref q3])) nt (.tup [.int 1, vb, .ref q3]) := .inl upd_same
  have ndt : Dt (Bd a c) K (upd H29 nt (.tup [.int 1, vb, .ref q3])) (.ref nt) (machDt 1 (rsLong (2 * h) true) (esNear (2 * h))) := by
    refine .tup (deck_off dk29 nnt) gnt (.cons (.int _) (.cons (same_dt s30 (same_dt s29 (same_dt s28 (same_dt s27 (same_dt s26 hal2))))) (.cons (.tup nq3 (same_rd s30 hq3) ?_) .nil)))
    have := dt_cs (B := Bd a c) (K := K) (H := upd H29 nt (.tup [.int 1, vb, .ref q3])) (fun x => Dt.bl x) (esNear (2 * h))
    exact this
  generalize upd H29 nt (.tup [.int 1, vb, .ref q3]) = H30 at *
  clear hal1 hal2 hal3 hml hq1 hq3 gf1 gf2 wq1 wq3 hvl gnt
  have Mn := mok_near e2 (show 2 * h ≤ 400 by omega)
  obtain ⟨cn, Ln, _, Rn⟩ := counts_rule Mn
  obtain ⟨fn, on⟩ := near_goes h1 h21
  refine ⟨_, rfl, 1, _, _, .ref nt, Bd a c, rfl, ndt, Mn, fun H31 s31 => ?_⟩
  rw [long_len (by omega), ring_size e2 (by rw [es_near (by omega) e2]; exact decide_eq_true (by omega))]
  have dk31 := deck_same s31 dk30
  refine ⟨_, rfl, 1, Ln, _, _, .ref nt, Bd a c, cn, rfl, same_dt s31 ndt, Mn, Rn, by rw [long_len (by omega)]; exact fn, fun H32 p32 s32 p320 hp32 => ?_⟩
  rw [long_len (by omega), on] at hp32
  have dk32 := deck_same s32 dk31
  have d32 : Dt (Bd a c) K H32 (.ref p32) (itD (nearL h)) := dt_it (deck_off dk31 p320) hp32
  refine ⟨by show 2 ≤ sizeLine; decide, fun l1 H33 s33 l10 ns1 hl1 => ?_⟩
  have dk33 := deck_same s33 dk32
  have nl := near_len h h1
  obtain ⟨a1, a2, a3⟩ := two_ok none_ok (itD_ok (xs := nearL h) (near_small h) (by omega))
  refine ⟨_, .list [.none, itD (nearL h)], Bd a c, rfl, .lst (deck_off dk32 l10) ns1 (.inl hl1) (.cons .non (.cons (same_dt s33 d32) .nil)), a1, a2, a3, ?_⟩
  refine ⟨_, rfl, by show 2 ≤ sizeLine; decide, fun f1 nf1 => ?_⟩
  have s34 := same_new (o := .tup [.int 1, .int (-1)]) nf1
  have dk34 := deck_same s34 dk33
  have nf1B := deck_off dk33 nf1
  have gf1 : Rd (upd H33 f1 (.tup [.int 1, .int (-1)])) f1 (.tup [.int 1, .int (-1)]) := .inl upd_same
  generalize upd H33 f1 (.tup [.int 1, .int (-1)]) = H34 at *
  refine ⟨_, rfl, _, _, rfl, rfl, ⟨by decide, by decide⟩, _, _, rfl, rfl, f1, ((2 * h : Nat) : Int) / 2 - 1, _, rfl, rfl, gf1, List.cons_ne_nil _ _, by omega, by omega, by show 2 ≤ 1000; decide, fun q1 H35 s35 hq1 wq1 => ?_⟩
  have dk35 := deck_same s35 dk34
  have nq1 := nb_of (deck_tb dk34) nf1B wq1
  rw [show (List.replicate (((2 * h : Nat) : Int) / 2 - 1).toNat [V.int 1, V.int (-1)]).flatten = ((List.replicate (h - 1) [(1 : Int), -1]).flatten).map V.int by rw [show (((2 * h : Nat) : Int) / 2 - 1).toNat = h - 1 by omega, List.map_flatten, List.map_replicate]; rfl] at hq1
  refine ⟨by show 1 ≤ sizeLine; decide, fun f2 nf2 => ?_⟩
  have s36 := same_new (o := .tup [.int 1]) nf2
  have dk36 := deck_same s36 dk35
  have nf2B := deck_off dk35 nf2
  have gf2 : Rd (upd H35 f2 (.tup [.int 1])) f2 (.tup [.int 1]) := .inl upd_same
  have hq1 := same_rd s36 hq1
  generalize upd H35 f2 (.tup [.int 1]) = H36 at *
  have nl2 : ((List.replicate (h - 1) [(1 : Int), -1]).flatten).length + 1 = 2 * h - 1 := by
    rw [← nl]
    unfold nearL
    rw [List.length_append]
    rfl
  refine ⟨q1, f2, _, _, rfl, rfl, hq1, gf2, sz_of (by rw [List.length_map, List.length_singleton]; omega), fun q3 H37 s37 hq3 wq3 => ?_⟩
  have dk37 := deck_same s37 dk36
  have nq3 := nb_of2 (deck_tb dk36) nq1 nf2B wq3
  have hq3 : Rd H37 q3 (.tup ((nearL h).map V.int)) := by
    unfold nearL
    rw [List.map_append]
    exact hq3
  refine ⟨by show 2 ≤ sizeLine; decide, fun l2 H38 s38 l20 ns2 hl2 => ?_⟩
  have dk38 := deck_same s38 dk37
  refine ⟨_, .list [.none, itD (nearL h)], Bd a c, rfl, .lst (deck_off dk37 l20) ns2 (.inl hl2) (.cons .non (.cons (same_dt s38 (dt_itR nq3 hq3)) .nil)), a1, a2, a3, ?_⟩
  generalize (PyData.list [.none, itD (nearL h)]).shown = S3
  refine ⟨rfl, _, rfl, ite2 (fun z => ?_) (fun _ => ?_)⟩
  · exact absurd rfl (of_decide_eq_false (not_cases z))
  clear a1 a2 a3 hl1 hl2 gf1 gf2 hq1 hq3 wq1 wq3 d32 hp32 ndt fn on Rn Mn nl nl2
  refine ⟨_, rfl, m, rfl, by omega, fun H39 pp s39 pp0 hpp => ?_⟩
  have dk39 := deck_same s39 dk38
  refine ⟨by show 0 ≤ sizeLine; decide, fun dl H40 s40 dl0 nsd hdl => ⟨_, _, rfl, ?_⟩⟩
  have npd : pp ≠ dl := fun z => by rw [← z, hpp] at dl0; cases dl0
  have hpp := s40 _ _ hpp
  refine ⟨_, rfl, _, _, rfl, rfl, 1, (m : Int) + 1, rfl, by omega, ?_⟩
  rw [show ((m : Int) + 1 - 1).toNat = m by omega]
  refine for_range (lo := 1) (n := m) (fun i σ H' => (∃ y9 : Option V, σ = [some (.ref a), some (.int (N : Int)), some (.int (m : Int)), some vw, some vi, some (.int ((2 * h : Nat) : Int)), some (.ref nt), some (.ref pp), some (.ref dl), y9]) ∧ Same H39 H' ∧ H' pp = some (.lst ((partsL m).map V.int)) ∧ H' dl = some (.lst (((dueL m).take i).map V.int)))
    ⟨⟨_, rfl⟩, s40, hpp, hdl⟩ ?_ ?_
  · rintro i σ H' hi ⟨⟨y9, rfl⟩, sm, hp, hd⟩
    have e1 : (1 : Int) + (i : Int) = ((i + 1 : Nat) : Int) := by omega
    rw [e1]
    have pl := parts_len m
    obtain ⟨px, hpx⟩ : ∃ px, (partsL m)[i + 1]? = some px := ⟨_, List.getElem?_eq_getElem (by omega)⟩
    have pb := parts_small m m40 px (List.mem_of_getElem? hpx)
    have pg : (partsL m).getD (i + 1) 0 = px := by rw [List.getD_eq_getElem?_getD, hpx]; rfl
    have ei := due_at hi
    rw [pg] at ei
    have b2 : ((2 : Int) ^ (i + 1)).natAbs < 2 ^ 41 := by
      rw [Int.natAbs_pow]
      exact Nat.pow_lt_pow_right (by decide) (by omega)
    have b3 : (px * 2 ^ (i + 1)).natAbs < 2 ^ 141 := by
      rw [Int.natAbs_mul, show (141 : Nat) = 100 + 41 from rfl, Nat.pow_add]
      exact Nat.mul_lt_mul'' pb b2
    refine ⟨_, rfl, .inl ⟨rfl, _, SqL.of hd⟩, ?_⟩
    refine ⟨_, rfl, _, rfl, pp, _, ((i + 1 : Nat) : Int), V.int px, rfl, rfl, SqL.of hp, atI_nat (by rw [List.getElem?_map, hpx]; rfl), _, rfl, i + 1, rfl, rfl, by omega, _, _, rfl, rfl, wide_mul pb b2 (by decide) (by decide) (by decide), ?_⟩
    have dl_ := due_len m
    have fin : ∀ z : Int, (if (i + 1) % 2 = 1 then (1 : Int) else -1) = z → ∃ (b : Addr) (xs : List V) (y : V), V.ref dl = V.ref b ∧ [V.int (px * 2 ^ (i + 1) * z)] = [y] ∧ H' b = some (.lst xs) ∧ xs.length < sizeLine ∧ ((∃ y9' : Option V, [some (.ref a), some (.int (N : Int)), some (.int (m : Int)), some vw, some vi, some (.int ((2 * h : Nat) : Int)), some (.ref nt), some (.ref pp), some (.ref dl), some (V.int ((i + 1 : Nat) : Int))] = [some (.ref a), some (.int (N : Int)), some (.int (m : Int)), some vw, some vi, some (.int ((2 * h : Nat) : Int)), some (.ref nt), some (.ref pp), some (.ref dl), y9']) ∧ Same H39 (upd H' b (.lst (xs ++ [y]))) ∧ (upd H' b (.lst (xs ++ [y]))) pp = some (.lst ((partsL m).map V.int)) ∧ (upd H' b (.lst (xs ++ [y]))) dl = some (.lst (((dueL m).take (i + 1)).map V.int))) := fun z hz => by
      rw [hz] at ei
      refine ⟨dl, _, _, rfl, rfl, hd, small9 (by rw [List.length_map, List.length_take]; omega), ⟨_, rfl⟩, fun b o e => ?_, by rw [upd_ne npd]; exact hp, ?_⟩
      · rw [upd_ne (ne_of_none e dl0)]
        exact sm _ _ e
      · rw [upd_same, List.take_add_one, ei, List.map_append]
        rfl
    have em : ((i + 1 : Nat) : Int) % 2 = (((i + 1) % 2 : Nat) : Int) := (Int.natCast_emod _ _).symm
    refine ⟨_, rfl, _, _, rfl, rfl, show (0 : Int) < 2 by decide, rfl, _, rfl, ite2 (fun z => ?_) (fun z => ?_)⟩
    · have z : V.int (((i + 1 : Nat) : Int) % 2) = V.int 1 := of_decide_eq_true z
      have z := V.int.inj z
      rw [em] at z
      have f := fin 1 (if_pos (by omega))
      exact ⟨_, _, rfl, rfl, wide_mul b3 (show (1 : Int).natAbs < 2 ^ 1 by decide) (by decide) (by decide) (by decide), f⟩
    · have z : ¬ V.int (((i + 1 : Nat) : Int) % 2) = V.int 1 := fun y => z (decide_eq_true y)
      have z : ¬ (i + 1) % 2 = 1 := fun y => z (by rw [em, y]; rfl)
      have f := fin (-1) (if_neg z)
      exact ⟨_, rfl, _, _, rfl, rfl, wide_mul b3 (show (-1 : Int).natAbs < 2 ^ 1 by decide) (by decide) (by decide) (by decide), f⟩
  · rintro σ H' ⟨⟨y9, rfl⟩, sm, hp, hd⟩
    have dk40 := deck_same sm dk39
    rw [List.take_of_length_le (by rw [due_len]; exact Nat.le_refl m)] at hd
    have Mc := mok_chain m2 (show m ≤ 400 by omega)
    obtain ⟨cc, Lc, _, Rc⟩ := counts_rule Mc
    obtain ⟨fc, oc⟩ := chain_goes m2 m40
    have cm := chain_many m2 m40
    refine ⟨_, rfl, m, rfl, m2, by omega, fun H41 vc s41 hvc => ?_⟩
    have dk41 := deck_same s41 dk40
    refine ⟨3, Lc, _, _, vc, Bd a c, cc, rfl, hvc (Bd a c) (deck_tb dk40), Mc, Rc, by rw [chain_len]; exact fc, fun H42 p42 s42 p420 hp42 => ?_⟩
    rw [chain_len, oc] at hp42
    have dk42 := deck_same s42 dk41
    refine ⟨_, rfl, m, rfl, m2, by omega, fun H43 vd s43 hvd => ?_⟩
    have dk43 := deck_same s43 dk42
    refine ⟨_, rfl, 3, m, _, _, vd, Bd a c, rfl, hvd (Bd a c) (deck_tb dk42), Mc, by omega, fun H44 s44 => ?_⟩
    rw [cm]
    have dk44 := deck_same s44 dk43
    have d42 : Dt (Bd a c) K H44 (.ref p42) (itD (dueL m)) := same_dt s44 (same_dt s43 (dt_it (deck_off dk41 p420) hp42))
    refine ⟨by show 2 ≤ sizeLine; decide, fun l1 H45 s45 l10 ns1 hl1 => ?_⟩
    have dk45 := deck_same s45 dk44
    obtain ⟨a1, a2, a3⟩ := two_ok (itD_ok (xs := dueL m) (due_small m m40 m2) (by rw [due_len]; omega)) (int_ok (i := 2 * (m : Int)) (Nat.le_trans (show (2 * (m : Int)).natAbs ≤ 100 by omega) (by decide)))
    refine ⟨_, .list [itD (dueL m), .int (2 * (m : Int))], Bd a c, rfl, .lst (deck_off dk44 l10) ns1 (.inl hl1) (.cons (same_dt s45 d42) (.cons (.int _) .nil)), a1, a2, a3, ?_⟩
    have hd45 := s45 _ _ (s44 _ _ (s43 _ _ (s42 _ _ (s41 _ _ hd))))
    refine ⟨_, rfl, dl, _, rfl, .inl ⟨SqL.of hd45, fun tr ntr => ?_⟩⟩
    have s46 := same_new (o := .tup ((dueL m).map V.int)) ntr
    have dk46 := deck_same s46 dk45
    have dtr : Dt (Bd a c) K (upd H45 tr (.tup ((dueL m).map V.int))) (.ref tr) (itD (dueL m)) := dt_it (deck_off dk45 ntr) upd_same
    generalize upd H45 tr (.tup ((dueL m).map V.int)) = H46 at *
    refine ⟨_, rfl, _, _, rfl, rfl, .inl ⟨by omega, by omega⟩, by show 2 ≤ sizeLine; decide, fun l2 H47 s47 l20 ns2 hl2 => ?_⟩
    have dk47 := deck_same s47 dk46
    refine ⟨_, .list [itD (dueL m), .int (2 * (m : Int))], Bd a c, rfl, .lst (deck_off dk46 l20) ns2 (.inl hl2) (.cons (same_dt s47 dtr) (.cons (.int _) .nil)), a1, a2, a3, ?_⟩
    generalize (PyData.list [itD (dueL m), .int (2 * (m : Int))]).shown = S4
    refine ⟨rfl, ?_⟩
    rw [show decide (V.str S4 = V.str S4) = true from decide_eq_true rfl]
    exact k H47 _ _ dk47 (by omega) (by omega)
end
/-! ### how great the last rule gets, up to six states -/
def chkB : Nat → Nat → Nat → Nat → Nat → Nat → Bool
  | 0, _, _, p, _, _ => decide (p ≤ 1900)
  | f + 1, a, L, p, q, d => chkB f (a + 1) L p q d &&
    (if 2 * L ≤ a then (if a + 1 - L ≤ 6 then chkB f (a + 1) (a + 1 - L) (max (d + p) (p + (8 * a / 5 + 1) + (if L = 0 then 0 else 3) + q) + 1) p (p + (8 * a / 5 + 1) + (if L = 0 then 0 else 3)) else true)
    else chkB f (a + 1) L (max (d + p) (p + (8 * a / 5 + 1) + (if L = 0 then 0 else 3) + q) + 1) q d)
theorem chk_all : ∀ f, f < 13 → chkB f 0 0 1 1 1 = true := by decide +kernel
theorem mendX {b : BS} {ms : Int} {p q d e : Nat} (hr : ∀ x ∈ b.r, x.natAbs < 2 ^ p) (ho : ∀ x ∈ b.o, x.natAbs < 2 ^ q) (hm : b.md.natAbs < 2 ^ d) (hs : ms.natAbs < 2 ^ e) (k : Nat) : (fnL (mendL b.r b.md b.o ms b.gap) k).natAbs < 2 ^ (max (d + p) (e + q) + 1) := by
  rw [mend_at]
  have h1 : (b.md * fnL b.r k).natAbs < 2 ^ (max (d + p) (e + q)) := by
    refine pow_lt_of (a := d + p) ?_ (Nat.le_max_left _ _)
    rw [Int.natAbs_mul, Nat.pow_add]
    exact Nat.mul_lt_mul'' hm (fnL_bound hr k)
  have h2 : (if b.gap ≤ k then ms * fnL b.o (k - b.gap) else 0).natAbs < 2 ^ (max (d + p) (e + q)) := by
    by_cases z : b.gap ≤ k
    · rw [if_pos z]
      refine pow_lt_of (a := e + q) ?_ (Nat.le_max_right _ _)
      rw [Int.natAbs_mul, Nat.pow_add]
      exact Nat.mul_lt_mul'' hs (fnL_bound ho _)
    · rw [if_neg z]
      exact Nat.two_pow_pos _
  have h3 := Int.natAbs_sub_le (b.md * fnL b.r k) (if b.gap ≤ k then ms * fnL b.o (k - b.gap) else 0)
  rw [Nat.pow_succ]
  omega
theorem missX {s : Nat → Int} {a p : Nat} {b : BS} (I : BMI s a b) (hr : ∀ x ∈ b.r, x.natAbs < 2 ^ p) (sb : ∀ i, i ≤ 11 → (s i).natAbs < 2 ^ (8 * i / 5 + 1)) (a9 : a < 12) (L6 : b.L ≤ 6) : (bmMiss s a b).natAbs < 2 ^ (p + (8 * a / 5 + 1) + (if b.L = 0 then 0 else 3)) := by
  have La := I.La
  have h1 : ∀ k, k < b.L + 1 → (fnL b.r k * s (a - k)).natAbs < 2 ^ (p + (8 * a / 5 + 1)) := fun k hk => by
    rw [Int.natAbs_mul, Nat.pow_add]
    exact Nat.mul_lt_mul'' (fnL_bound hr k) (pow_lt_of (sb _ (by omega)) (by omega))
  by_cases z : b.L = 0
  · rw [if_pos z, Nat.add_zero]
    have := h1 0 (by omega)
    unfold bmMiss dt
    rw [z]
    show (0 + fnL b.r 0 * s (a - 0)).natAbs < _
    rw [Int.zero_add]
    exact this
  · rw [if_neg z]
    have : (bmMiss s a b).natAbs ≤ (b.L + 1) * 2 ^ (p + (8 * a / 5 + 1)) := sumR_bound _ fun k hk => Nat.le_of_lt (h1 k hk)
    rw [show p + (8 * a / 5 + 1) + 3 = 3 + (p + (8 * a / 5 + 1)) by omega, Nat.pow_add]
    have pp := Nat.two_pow_pos (p + (8 * a / 5 + 1))
    have := Nat.mul_le_mul_right (2 ^ (p + (8 * a / 5 + 1))) (show b.L + 1 ≤ 7 by omega)
    omega
theorem chk_run {s c : Nat → Int} {M : Nat} (R : Rule s c M) (M6 : M ≤ 6) (sb : ∀ i, i ≤ 11 → (s i).natAbs < 2 ^ (8 * i / 5 + 1)) : ∀ (f a p q d : Nat), chkB f a (bmRun s a).L p q d = true → (∀ x ∈ (bmRun s a).r, x.natAbs < 2 ^ p) → (∀ x ∈ (bmRun s a).o, x.natAbs < 2 ^ q) → (bmRun s a).md.natAbs < 2 ^ d → a + f ≤ 12 →
    ∀ x ∈ (bmRun s (a + f)).r, x.natAbs < 2 ^ 1900
  | 0, a, p, q, d, h, hr, _, _, _ => fun x hx => pow_lt_of (hr x hx) (of_decide_eq_true h)
  | f + 1, a, p, q, d, h, hr, ho, hm, ha => by
    have I := bm_inv s a
    have I1 := bm_inv s (a + 1)
    have L6 : (bmRun s a).L ≤ 6 := Nat.le_trans (I.mn c M R) M6
    have L61 : (bmRun s (a + 1)).L ≤ 6 := Nat.le_trans (I1.mn c M R) M6
    have mb := missX I hr sb (by omega) L6
    have e1 : bmRun s (a + 1) = bmStep s a (bmRun s a) := rfl
    have go : ∀ p' q' d', chkB f (a + 1) (bmRun s (a + 1)).L p' q' d' = true → (∀ x ∈ (bmRun s (a + 1)).r, x.natAbs < 2 ^ p') → (∀ x ∈ (bmRun s (a + 1)).o, x.natAbs < 2 ^ q') → (bmRun s (a + 1)).md.natAbs < 2 ^ d' → ∀ x ∈ (bmRun s (a + (f + 1))).r, x.natAbs < 2 ^ 1900 := fun p' q' d' h1 h2 h3 h4 => by
      have := chk_run R M6 sb f (a + 1) p' q' d' h1 h2 h3 h4 (by omega)
      rw [show a + 1 + f = a + (f + 1) by omega] at this
      exact this
    unfold chkB at h
    obtain ⟨c1, c2⟩ := Bool.and_eq_true_iff.mp h
    have rb := fun n => pad_bound (n := n) (with_bound (mendX hr ho hm mb))
    rw [e1] at go L61
    unfold bmStep at go L61
    by_cases z : bmMiss s a (bmRun s a) = 0
    · rw [if_pos z] at go
      exact go p q d c1 hr ho hm
    · rw [if_neg z] at go L61
      by_cases y : 2 * (bmRun s a).L ≤ a
      · rw [if_pos y] at go L61 c2
        have L61 : a + 1 - (bmRun s a).L ≤ 6 := L61
        rw [if_pos L61] at c2
        exact go _ _ _ c2 (rb _) hr mb
      · rw [if_neg y] at go c2
        exact go _ _ _ c2 (rb _) ho hm
theorem last_small {s c : Nat → Int} {M N : Nat} (R : Rule s c M) (M6 : M ≤ 6) (sb : ∀ i, i ≤ 11 → (s i).natAbs < 2 ^ (8 * i / 5 + 1)) (hN : N ≤ 12) (h : 2 * M ≤ N) : ∀ x ∈ bmOut (bmRun s N), x.natAbs < 2 ^ 1900 := by
  have hr := chk_run R M6 sb N 0 1 1 1 (chk_all N (by omega)) (fun x hx => by rw [List.mem_singleton.mp hx]; decide) (fun x hx => by rw [List.mem_singleton.mp hx]; decide) (by show (1 : Int).natAbs < 2 ^ 1; decide) (by omega)
  rw [Nat.zero_add] at hr
  have I := bm_inv s N
  have R' := bm_rule R h
  have pr := bm_prim s N
  have mn := I.mn
  have rl := I.rl
  generalize bmRun s N = b at *
  have f := fatou R' (fun k hk => fnL_out (by omega)) mn pr
  intro x hx
  obtain ⟨k, hk, rfl⟩ := List.mem_map.mp hx
  have := fnL_bound hr (k + 1)
  rcases f with f | f
  · rw [f, Int.fdiv_one, Int.natAbs_neg]
    exact this
  · rw [f]
    have e : Int.fdiv (-(fnL b.r (k + 1))) (-1) = fnL b.r (k + 1) := by
      have := Int.mul_fdiv_cancel (fnL b.r (k + 1)) (b := -1) (by decide)
      rw [Int.mul_neg, Int.mul_one] at this
      exact this
    rw [e]
    exact this
/-! what shows of great integers -/
theorem big_all : ∀ {xs : List Int}, (∀ x ∈ xs, x.natAbs < 2 ^ 1900) → PyData.showableAll (xs.map .int) = true
  | [], _ => by rw [List.map_nil, PyData.showableAll]
  | x :: xs, h => by
    rw [List.map_cons, PyData.showableAll, big_all fun y hy => h y (List.mem_cons_of_mem _ hy), PyData.showable, Bool.and_true, decide_eq_true_eq]
    have h2 := h x List.mem_cons_self
    by_cases z : x.natAbs = 0
    · rw [z]
      decide
    · exact Nat.lt_trans ((Nat.log2_lt z).mpr h2) (by decide)
theorem big_sum : ∀ {xs : List Int}, (∀ x ∈ xs, x.natAbs < 2 ^ 1900) → ((PyData.shownAll (xs.map .int)).map (·.length)).sum ≤ 601 * xs.length ∧ (PyData.shownAll (xs.map .int)).length = xs.length
  | [], _ => by rw [List.map_nil, PyData.shownAll]; exact ⟨Nat.le_refl _, rfl⟩
  | x :: xs, h => by
    obtain ⟨h1, h2⟩ := big_sum fun y hy => h y (List.mem_cons_of_mem _ hy)
    rw [List.map_cons, PyData.shownAll, List.map_cons, List.sum_cons, List.length_cons, List.length_cons, h2]
    refine ⟨?_, rfl⟩
    have : (PyData.int x).shown.length ≤ 601 := by
      rw [PyData.shown, PySem.ofString_length]
      have := int_text_length_le10 (a := x) (k := 600) (by decide) (Nat.lt_of_lt_of_le (h x List.mem_cons_self) (by decide +kernel))
      omega
    show (PyData.int x).shown.length + _ ≤ _
    omega
theorem big_show {xs : List Int} (h : ∀ x ∈ xs, x.natAbs < 2 ^ 1900) (hl : xs.length ≤ 20) : (itD xs).showable = true ∧ (itD xs).depth ≤ 60 ∧ (itD xs).shown.length ≤ sizeLine := by
  unfold itD
  refine ⟨by rw [PyData.showable]; exact big_all h, ?_, ?_⟩
  · rw [depth_tup]
    have := (depthAll_le (n := 1) (xs := xs.map .int)).mpr fun x hx => by
      obtain ⟨i, _, rfl⟩ := List.mem_map.mp hx
      rw [PyData.depth]
      omega
    omega
  · rw [PyData.shown]
    obtain ⟨h1, h2⟩ := big_sum h
    have h3 := tupleText_len_le (PyData.shownAll (xs.map .int))
    exact sz_of (by omega)
def tyN : PyData → String
  | .none => "NoneType"
  | .bool _ => "bool"
  | .int _ => "int"
  | .str _ => "str"
  | .list _ => "list"
  | .tuple _ => "tuple"
  | .dict _ => "dict"
theorem tyD {B : Addr → Prop} {K : PySem.W.Frag} {H : Hp} {v : V} {d : PyData} (h : Dt B K H v d) : TyX K H v (.type (tyN d)) := by
  cases h with
  | non => exact .base .non
  | bl b => exact .base (.bl b)
  | int i => exact .base (.int i)
  | str x => exact .base (.str x)
  | lst nb ne hs ha =>
    rcases hs with hs | ⟨o, hs⟩
    · exact .base (.lst hs)
    · exact .base (.frz hs)
  | tup nb hs ha =>
    rcases hs with hs | ⟨o, hs⟩
    · exact .base (.tup hs)
    · exact .fTuple hs
  | emp nb e => exact .base (.dK e)
def isInt : PyData → Bool
  | .int _ => true
  | .bool _ => true
  | _ => false
def isTup : PyData → Bool
  | .tuple _ => true
  | _ => false
theorem kitI {K : PySem.W.Frag} (d : PyData) : PySem.W.kitOne K (.type (tyN d)) (.type "int") = some (isInt d) := by
  cases d with
  | none => exact kit_ty (show kitB "NoneType" "int" = some false by decide +kernel)
  | bool _ => exact kit_ty (show kitB "bool" "int" = some true by decide +kernel)
  | int _ => exact kit_ty (show kitB "int" "int" = some true by decide +kernel)
  | str _ => exact kit_ty (show kitB "str" "int" = some false by decide +kernel)
  | list _ => exact kit_ty (show kitB "list" "int" = some false by decide +kernel)
  | tuple _ => exact kit_ty (show kitB "tuple" "int" = some false by decide +kernel)
  | dict _ => exact kit_ty (show kitB "dict" "int" = some false by decide +kernel)
theorem kitB' {K : PySem.W.Frag} (d : PyData) : PySem.W.kitOne K (.type (tyN d)) (.type "bool") = some (isBool d) := by
  cases d with
  | none => exact kit_ty (show kitB "NoneType" "bool" = some false by decide +kernel)
  | bool _ => exact kit_ty (show kitB "bool" "bool" = some true by decide +kernel)
  | int _ => exact kit_ty (show kitB "int" "bool" = some false by decide +kernel)
  | str _ => exact kit_ty (show kitB "str" "bool" = some false by decide +kernel)
  | list _ => exact kit_ty (show kitB "list" "bool" = some false by decide +kernel)
  | tuple _ => exact kit_ty (show kitB "tuple" "bool" = some false by decide +kernel)
  | dict _ => exact kit_ty (show kitB "dict" "bool" = some false by decide +kernel)
theorem kitT {K : PySem.W.Frag} (d : PyData) : PySem.W.kitOne K (.type (tyN d)) (.type "tuple") = some (isTup d) := by
  cases d with
  | none => exact kit_ty (show kitB "NoneType" "tuple" = some false by decide +kernel)
  | bool _ => exact kit_ty (show kitB "bool" "tuple" = some false by decide +kernel)
  | int _ => exact kit_ty (show kitB "int" "tuple" = some false by decide +kernel)
  | str _ => exact kit_ty (show kitB "str" "tuple" = some false by decide +kernel)
  | list _ => exact kit_ty (show kitB "list" "tuple" = some false by decide +kernel)
  | tuple _ => exact kit_ty (show kitB "tuple" "tuple" = some true by decide +kernel)
  | dict _ => exact kit_ty (show kitB "dict" "tuple" = some false by decide +kernel)
section
variable {prog : Program} {w : World} {A : Around} {E : Value → Shared → Prop} {s : Shared}
end
def iEnumT (K : PySem.W.Frag) (ta : TA) : L2.TI := fun σ H R => ta σ H fun vs H1 => ∃ a xs, vs = [.ref a] ∧ SqT K H1 a xs ∧ R (ItT K a) H1
theorem pi_enumT {X : Cx} {e : Expr} {ta : TA} {p pos tpos : Pos} {elts : List Expr} {kk : Nat} (g : Gl X "enumerate") (m : X.mg "enumerate" = none) (ha : PA X [e] ta) (hs : starEach [e] X.env = [(false, eval e X.env)] := by rfl) :
    L2.PI X (.Tuple elts kk tpos) (.Call (.Name "enumerate" p) [e] [] pos) (iEnumT X.K ta) := by
  refine ⟨fun pins s σ H R I h => Call_ (ld_blt I g m boot_enumerate (PyProof.Rows.callWith_type1 (thn (ha.run pos pins s σ H _ I h) fun us s1 w => ?_) hs rfl))⟩
  obtain ⟨vs, H1, I1, r1, a, xs, rfl, hq, k⟩ := w
  cases r1 with
  | cons r rr =>
    cases rr
    cases r
    obtain ⟨its, rv, pl, _⟩ := I1.tuple hq
    refine call_enum_tup (show s1.heap.IsTuple a its.toArray from pl) fun h2 he hit hk => wpAny_pyIter_enum he ?_
    have I2 : L2.Inv X pins σ H1 { s1 with heap := h2 } := I1.kept (t' := s1.toks) hk
    refine ⟨s1.heap.objs.size + 1, [s1.heap.objs.size + 1, s1.heap.objs.size], _, _, H1, rfl, I2, turn_enumT a _ s1.heap.objs.size, ⟨⟨.none, he⟩, hit, Nat.succ_ne_self _⟩, fun b hb => ?_, k⟩
    have le : s1.heap.objs.size ≤ b := by
      rcases List.mem_cons.mp hb with z | z
      · rw [z]
        exact Nat.le_add_right _ _
      · exact Nat.le_of_eq (List.mem_singleton.mp z).symm
    exact I1.fpOk le (I1.hok.fresh le)
/-! ### the law -/
theorem stN {i : Nat} {v : V} {σ : L2.St} {H : Hp} {te : TE} {g : L2.TG} {u : TS} {D : Ends} (h : te (σ.set i (some v)) H fun x H1 => g x (σ.set i (some v)) H1 (u D)) : gName i v σ H ({ D with nx := tSeq (tAsg te g) u D } : Ends).nx := h
theorem stB {σ : L2.St} {H : Hp} {te : TE} {g : L2.TG} {u : TS} {D : Ends} (h : te σ H fun x H1 => g x σ H1 (u D)) : ({ D with nx := tSeq (tAsg te g) u D } : Ends).nx σ H := h
theorem joinE {t : TE} {σ : L2.St} {H : Hp} {Q : VK} (R : VK) (h : (∀ v H', R v H' → Q v H') → t σ H Q) (k : ∀ v H', R v H' → Q v H') : t σ H Q := h k
theorem cut_take' (xs : List V) (j : Nat) (h : j ≤ xs.length) : cutV xs none (some (j : Int)) = xs.take j := by
  unfold cutV
  rw [HT.sIx_none, HT.sIx_nat, List.drop_zero, Nat.sub_zero, Nat.min_eq_left h]
theorem cut_mid (xs : List V) (i j : Nat) (h : i ≤ j) (h2 : j ≤ xs.length) : cutV xs (some (i : Int)) (some (j : Int)) = (xs.drop i).take (j - i) := by
  unfold cutV
  rw [HT.sIx_nat, HT.sIx_nat, Nat.min_eq_left h2, Nat.min_eq_left (by omega)]
theorem sum_cast (f : Nat → Nat) : ∀ xs : List Nat, (((xs.map f).sum : Nat) : Int) = (xs.map fun k => ((f k : Nat) : Int)).sum
  | [] => rfl
  | x :: xs => by
    rw [List.map_cons, List.map_cons, List.sum_cons, List.sum_cons, ← sum_cast f xs]
    rfl
theorem cnt_six {L : Nat} {p : List Nat → Bool} (L3 : L ≤ 3) (k : Nat) : cntP L p k ≤ 3 ^ k := Nat.le_trans (cnt_le p k) (Nat.pow_le_pow_left L3 k)
theorem size_data {L : Nat} {p : List Nat → Bool} {N : Nat} (L3 : L ≤ 3) (h : N ≤ 6) : ∃ sd : PyData, (∀ (B : Addr → Prop) (K : PySem.W.Frag) (H : Hp), Dt B K H (sizeO L p N) sd) ∧ (sm sd = true ∧ sd.depth ≤ 3 ∧ nodes sd ≤ 1000) := by
  unfold sizeO
  by_cases q : ∃ w, N ≤ w.length ∧ p w = true
  · rw [if_pos q]
    exact ⟨.none, fun _ _ _ => .non, none_ok⟩
  · rw [if_neg q]
    refine ⟨.int _, fun _ _ _ => .int _, int_ok ?_⟩
    rw [Int.natAbs_natCast]
    have : ∀ n, n ≤ 6 → ((List.range n).map fun k => cntP L p k).sum ≤ n * 729 := fun n => by
      induction n with
      | zero => intro _; exact Nat.le_refl _
      | succ n ih =>
        intro hn
        rw [List.range_succ, List.map_append, List.sum_append]
        have h1 := ih (by omega)
        have h2 : cntP L p n ≤ 729 := Nat.le_trans (cnt_six L3 n) (Nat.le_trans (Nat.pow_le_pow_right (by decide) (show n ≤ 6 by omega)) (by decide))
        show _ + (cntP L p n + 0) ≤ _
        omega
    exact Nat.le_trans (this N h) (Nat.le_trans (show N * 729 ≤ 10000 by omega) (by decide))
theorem pow_bits : ∀ i, i ≤ 11 → 3 ^ i < 2 ^ (8 * i / 5 + 1) := by decide
theorem six_sb {L : Nat} {p : List Nat → Bool} (L3 : L ≤ 3) : ∀ i, i ≤ 11 → (((cntP L p i : Nat) : Int)).natAbs < 2 ^ (8 * i / 5 + 1) := fun i hi => by
  rw [Int.natAbs_natCast]
  exact Nat.lt_of_le_of_lt (cnt_six L3 i) (pow_bits i hi)
def rsA : Rows := [[some 1], [none]]
def rsB : Rows := [[some 0, some 1], [some 0, none]]
def rsC : Rows := [[some 0]]
theorem mokA : MOk 1 rsA [true, true] where
  l1 := by decide
  l400 := by decide
  row := by decide
  tgt := fun row h v hv => by
    unfold rsA at h
    simp only [List.mem_cons, List.not_mem_nil, or_false] at h
    rcases h with rfl | rfl
    · cases List.mem_singleton.mp hv
      decide
    · cases List.mem_singleton.mp hv
  es := rfl
  L1 := by decide
  L3 := by decide
theorem mokB : MOk 2 rsB [true, true] where
  l1 := by decide
  l400 := by decide
  row := by decide
  tgt := fun row h v hv => by
    unfold rsB at h
    simp only [List.mem_cons, List.not_mem_nil, or_false] at h
    rcases h with rfl | rfl
    · simp only [List.mem_cons, List.not_mem_nil, or_false, Option.some.injEq] at hv
      show v < 2
      omega
    · simp only [List.mem_cons, List.not_mem_nil, or_false, Option.some.injEq, reduceCtorEq] at hv
      show v < 2
      omega
  es := rfl
  L1 := by decide
  L3 := by decide
theorem mokC : MOk 1 rsC [false] where
  l1 := by decide
  l400 := by decide
  row := by decide
  tgt := fun row h v hv => by
    unfold rsC at h
    rw [List.mem_singleton.mp h] at hv
    cases List.mem_singleton.mp hv
    decide
  es := rfl
  L1 := by decide
  L3 := by decide
theorem goA : FineR (fun k => ((cntP 1 (fun w => acc rsA [true, true] w 0) k : Nat) : Int)) 4 ∧ bmOut (bmRun (fun k => ((cntP 1 (fun w => acc rsA [true, true] w 0) k : Nat) : Int)) 4) = [0, 0] := by
  obtain ⟨a, b⟩ := okX_by (due := [0, 0]) (xs := [1, 1, 0, 0]) (by decide +kernel)
  obtain ⟨c, d⟩ := by_list (s := fun k => ((cntP 1 (fun w => acc rsA [true, true] w 0) k : Nat) : Int)) a (by decide +kernel)
  exact ⟨c, (congrArg bmOut d).trans b⟩
theorem goB : FineR (fun k => ((cntP 2 (fun w => acc rsB [true, true] w 0) k : Nat) : Int)) 4 ∧ bmOut (bmRun (fun k => ((cntP 2 (fun w => acc rsB [true, true] w 0) k : Nat) : Int)) 4) = [1, 1] := by
  obtain ⟨a, b⟩ := okX_by (due := [1, 1]) (xs := [1, 2, 3, 5]) (by decide +kernel)
  obtain ⟨c, d⟩ := by_list (s := fun k => ((cntP 2 (fun w => acc rsB [true, true] w 0) k : Nat) : Int)) a (by decide +kernel)
  exact ⟨c, (congrArg bmOut d).trans b⟩
theorem goC : FineR (fun k => ((cntP 1 (fun w => acc rsC [false] w 0) k : Nat) : Int)) 2 ∧ bmOut (bmRun (fun k => ((cntP 1 (fun w => acc rsC [false] w 0) k : Nat) : Int)) 2) = [] := by
  obtain ⟨a, b⟩ := okX_by (due := []) (xs := [0, 0]) (by decide +kernel)
  obtain ⟨c, d⟩ := by_list (s := fun k => ((cntP 1 (fun w => acc rsC [false] w 0) k : Nat) : Int)) a (by decide +kernel)
  exact ⟨c, (congrArg bmOut d).trans b⟩
theorem cntB : cntP 2 (fun w => acc rsB [true, true] w 0) 5 = 13 := by decide +kernel
def dueD : PyData := .list [itD [0, 0], itD [1, 1], itD [], .int 13]
theorem due_eqv : PyData.eqv dueD dueD = true := by decide +kernel
theorem due_shaped : SeqAt.shaped dueD = true := by decide +kernel
theorem dp_it {K : PySem.W.Frag} {H : Hp} {p : Addr} {xs : List Int} (h : H p = some (.tup (xs.map V.int))) : Dp K H (.ref p) (itD xs) := by
  refine .tup (SqT.of h) ?_
  have : ∀ xs : List Int, DpAll K H (xs.map V.int) (xs.map .int) := fun xs => by
    induction xs with
    | nil => exact .nil
    | cons x xs ih => exact .cons (.int x) ih
  exact this xs
theorem dp_due {K : PySem.W.Frag} {H : Hp} {l p q r : Addr} (hl : H l = some (.lst [.ref p, .ref q, .ref r, .int 13])) (hp : H p = some (.tup (([0, 0] : List Int).map V.int))) (hq : H q = some (.tup (([1, 1] : List Int).map V.int))) (hr : H r = some (.tup (([] : List Int).map V.int))) : Dp K H (.ref l) dueD :=
  .lst (SqL.of hl) (.cons (dp_it hp) (.cons (dp_it hq) (.cons (dp_it hr) (.cons (.int 13) .nil))))
section
variable {P : Program} {w : World} {K : PySem.W.Frag} {mg : Str → Option Value} {base : Heap}
theorem scLaw : FnScope ["_law_script", "_law_deck_here", "_law_turn", "_law_machine_here", "_law_many", "_law_counts_here", "_law_due", "_law_found", "_law_rows", "_law_at", "_law_times", "_law_length", "_law_short", "_law_kind"] ["_law_script"] (defScope sLaw) := ⟨rfl, rfl, rfl, by decide +kernel, rfl, by decide +kernel, by decide +kernel⟩
def spLaw (K : PySem.W.Frag) : Sp := fun vs H Q _ => ∃ (l : Addr) (ns : List Int), vs = [.ref l] ∧ SqL K H l (ns.map V.int) ∧ ns.length ≤ 63 ∧ ∀ H', Q (.bl true) H'
theorem ok_law {f fDK fDR fMC fCL fRK fFI fLR fSZ fGO fCO : Addr} {fd fdDK fdDR fdMC fdCL fdRK fdFI fdLR fdSZ fdGO fdCO : FuncData} (F : Fun K "law" "law" sLaw f fd)
    (DK : FnOk P w K mg base CX0 1 fDK fdDK ["_law_script"] (spDeck K)) (FDK : Fun K "_law_deck" "_law_deck" sDeck fDK fdDK) (bDK : Binds K fdDK ["_law_script"] []) (gDK : mg "_law_deck" = some (.ref fDK))
    (DR : FnOk P w K mg base CX0 1 fDR fdDR ["_law_deck_here", "_law_many"] spDraw) (FDR : Fun K "_law_draw" "_law_draw" sDraw fDR fdDR) (bDR : Binds K fdDR ["_law_deck_here", "_law_many"] []) (gDR : mg "_law_draw" = some (.ref fDR))
    (MC : FnOk P w K mg base CX0 3 fMC fdMC ["_law_deck_here", "_law_letters", "_law_most"] (spMach K)) (FMC : Fun K "_law_machine" "_law_machine" sMach fMC fdMC) (bMC : Binds K fdMC ["_law_deck_here", "_law_letters", "_law_most"] []) (gMC : mg "_law_machine" = some (.ref fMC))
    (CL : FnOk P w K mg base CX0 1 fCL fdCL ["_law_machine_here", "_law_length"] (spCntL K)) (FCL : Fun K "_law_counts" "_law_counts" sCntL fCL fdCL) (bCL : Binds K fdCL ["_law_machine_here", "_law_length"] []) (gCL : mg "_law_counts" = some (.ref fCL))
    (RK : FnOk P w K mg base CX0 1 fRK fdRK ["_law_rows"] (spRank K)) (FRK : Fun K "_law_rank" "_law_rank" sRank fRK fdRK) (bRK : Binds K fdRK ["_law_rows"] []) (gRK : mg "_law_rank" = some (.ref fRK))
    (FI : FnOk P w K mg base CX0 3 fFI fdFI ["_law_machine_here"] (spFin K)) (FFI : Fun K "_law_is_finite" "_law_is_finite" sFin fFI fdFI) (bFI : Binds K fdFI ["_law_machine_here"] []) (gFI : mg "_law_is_finite" = some (.ref fFI))
    (LR : GRun P w K mg base 5 fLR fdLR ["_law_deck_here"] spLongR) (FLR : Fun K "_law_long_right" "_law_long_right" sLongR fLR fdLR) (bLR : Binds K fdLR ["_law_deck_here"] []) (gLR : mg "_law_long_right" = some (.ref fLR))
    (SZ : FnOk P w K mg base CX0 3 fSZ fdSZ ["machine"] (spSize K)) (FSZ : Fun K "size" "size" sSize fSZ fdSZ) (bSZ : Binds K fdSZ ["machine"] []) (gSZ : mg "size" = some (.ref fSZ))
    (GO : FnOk P w K mg base CX0 3 fGO fdGO ["machine"] (spGoesOnF K)) (FGO : Fun K "goes_on" "goes_on" sGoesOn fGO fdGO) (bGO : Binds K fdGO ["machine"] []) (gGO : mg "goes_on" = some (.ref fGO))
    (CO : FnOk P w K mg base CX0 3 fCO fdCO ["machine", "length"] (spCount K)) (FCO : Fun K "count" "count" sCount fCO fdCO) (bCO : Binds K fdCO ["machine", "length"] []) (gCO : mg "count" = some (.ref fCO)) (T : Mg mg) (mSum : mg "sum" = none) : GRun P w K mg base 7 f fd ["_law_script"] (spLaw K) := by
  refine grun F scLaw (fun cdv A outer s H vs Q hG0 hr h => ?_)
  obtain ⟨l, ns, rfl, hS, hlen, k⟩ := h
  have hG : (A.deeper (envOfC "law" (defScope sLaw) s.heap.objs.size f cdv)).guards = some [] := hG0
  have hu := hr.units
  have hu0 := hr.units0
  refine ⟨_, (pss_cons (ps_set (i := 1) scLaw.nd rfl (.inl rfl) (pe_call DK (hr.mono (by decide)) (by rfl) gDK FDK.kp bDK .nil pass0 (pa_cons (pv 0) pa_nil)))
      (pss_cons (ps_if (pt_not (pt_val (pe_callG LR hG (hr.mono (by decide)) (by rfl) gLR FLR.kp bLR (pa_cons (pv 1) pa_nil)))) (pss_one (ps_ret pe_bl)) pss_nil)
      (pss_cons (ps_for PassesOwn.never rfl (pi_range1 (by rfl) T.range (pa_cons pe_int pa_nil)) (pg_name (i := 2) scLaw.nd rfl (.inl rfl)) (pss_cons (ps_set (i := 3) scLaw.nd rfl (.inl rfl) (pe_call MC (hr.mono (by decide)) (by rfl) gMC FMC.kp bMC .nil pass0 (pa_cons (pv 1) (pa_cons (pe_op op_add pe_int (pe_call DR (hr.mono (by decide)) (by rfl) gDR FDR.kp bDR .nil pass0 (pa_cons (pv 1) (pa_cons pe_int pa_nil)))) (pa_cons pe_int pa_nil)))))
      (pss_cons (ps_set (i := 4) scLaw.nd rfl (.inr rfl) (pe_callB (r := rLen K) call_len_seq (by rfl) T.len PySem.boot_len (pa_cons (pe_ix (r := rIxT K) ix_tup (pv 3) pe_int (fun _ _ => rfl)) pa_nil)))
      (pss_cons (ps_set (i := 5) scLaw.nd rfl (.inr rfl) (pe_call CL (hr.mono (by decide)) (by rfl) gCL FCL.kp bCL .nil pass0 (pa_cons (pv 3) (pa_cons (pe_op op_add (pe_op op_mul pe_int (pv 4)) pe_int) pa_nil))))
      (pss_cons (ps_set (i := 6) scLaw.nd rfl (.inl rfl) (pe_ifExp (pt_val (pe_call FI (hr.mono (by decide)) (by rfl) gFI FFI.kp bFI .nil pass0 (pa_cons (pv 3) pa_nil))) (pe_callB (r := rSum K) (cr_sum rfl) (by rfl) mSum (by decide +kernel) (pa_cons (pe_slice (r := rSlL K) sl_list (pv 5) po_none (po_some (pv 4))) pa_nil)) pe_non))
      (pss_cons (ps_if (pt_cmpR op_ne (pe_callB (call_reprD hG hu) (by rfl) T.repr (by decide +kernel) (pa_cons (pe_lstA (pa_cons (pe_call SZ (hr.mono (by decide)) (by rfl) gSZ FSZ.kp bSZ .nil pass0 (pa_cons (pv 3) pa_nil)) (pa_cons (pe_call SZ (hr.mono (by decide)) (by rfl) gSZ FSZ.kp bSZ .nil pass0 (pa_cons (pv 3) pa_nil)) pa_nil))) pa_nil)) (pe_callB (call_reprD hG hu) (by rfl) T.repr (by decide +kernel) (pa_cons (pe_lstA (pa_cons (pv 6) (pa_cons (pv 6) pa_nil))) pa_nil)) (nomark _)) (pss_one (ps_ret pe_bl)) pss_nil)
      (pss_cons (ps_set (i := 7) scLaw.nd rfl (.inl rfl) (pe_call GO (hr.mono (by decide)) (by rfl) gGO FGO.kp bGO .nil pass0 (pa_cons (pv 3) pa_nil)))
      (pss_cons (ps_setLc (i := 8) (own := [("_law_at", 9)]) (g := gName 9) (tt := tYes) rfl scLaw.nd rfl rfl (sw_true rfl rfl rfl (by decide +kernel)) (pi_range1 (by rfl) T.range (pa_cons (pe_op op_add (pv 4) pe_int) pa_nil)) (blkOk_by (N := ["_law_script", "_law_deck_here", "_law_turn", "_law_machine_here", "_law_many", "_law_counts_here", "_law_due", "_law_found", "_law_rows", "_law_at", "_law_times", "_law_length", "_law_short", "_law_kind"]) (sc := defScope sLaw) (by decide +kernel)) (fun _ _ _ _ _ => pg_name (i := 9) scLaw.nd rfl (Or.inl rfl)) (fun _ _ _ _ _ => pts_nil) (fun _ _ _ _ _ => (pe_slice (r := rSlL K) sl_list (pv 5) (po_some (pv 9)) (po_some (pe_op op_add (pe_op op_add (pv 9) (pv 4)) pe_int)))))
      (pss_cons (ps_if (PW.pt (pw_or (pt_not (pt_val (pe_callB (r := rIsi K) call_isi (by rfl) T.isi PyProof.Rows.boot_isinstance (pa_cons (pv 7) (pa_cons (pe_bltn (v := .ty "tuple") (by rfl) T.tuple PyProof.Rows.boot_tuple rfl) pa_nil))))) (pw_or (pt_cmpR op_ne (pe_callB (r := rLen K) call_len_seq (by rfl) T.len PySem.boot_len (pa_cons (pv 7) pa_nil)) (pe_call RK (hr.mono (by decide)) (by rfl) gRK FRK.kp bRK .nil pass0 (pa_cons (pv 8) pa_nil)) (nomark _)) (pw_or1 (pt_cmpR op_ne (pe_callB (call_reprD hG hu) (by rfl) T.repr (by decide +kernel) (pa_cons (pe_call GO (hr.mono (by decide)) (by rfl) gGO FGO.kp bGO .nil pass0 (pa_cons (pv 3) pa_nil)) pa_nil)) (pe_callB (call_reprD hG hu) (by rfl) T.repr (by decide +kernel) (pa_cons (pv 7) pa_nil)) (nomark _)))))) (pss_one (ps_ret pe_bl)) pss_nil)
      (pss_cons (ps_if (pt_cmpR (op_neNilL hu0) (pe_lc (own := [("_law_times", 10)]) (g := gName 10) rfl scLaw.nd (pi_tup (pv 7)) (blkOk_by (N := ["_law_script", "_law_deck_here", "_law_turn", "_law_machine_here", "_law_many", "_law_counts_here", "_law_due", "_law_found", "_law_rows", "_law_at", "_law_times", "_law_length", "_law_short", "_law_kind"]) (sc := defScope sLaw) (by decide +kernel)) (fun _ _ _ _ _ => pg_name (i := 10) scLaw.nd rfl (Or.inl rfl)) (fun _ _ _ _ _ => pts_one (PW.pt (pw_or (pt_not (pt_val (pe_callB (r := rIsi K) call_isi (by rfl) T.isi PyProof.Rows.boot_isinstance (pa_cons (pv 10) (pa_cons (pe_bltn (v := .ty "int") (by rfl) T.int (by decide +kernel) rfl) pa_nil))))) (pw_or1 (pt_val (pe_callB (r := rIsi K) call_isi (by rfl) T.isi PyProof.Rows.boot_isinstance (pa_cons (pv 10) (pa_cons (pe_bltn (v := .ty "bool") (by rfl) T.bool PyProof.Rows.boot_bool rfl) pa_nil)))))))) (fun _ _ _ _ _ => (pv 10))) (pe_lstA pa_nil) (nomark _)) (pss_one (ps_ret pe_bl)) pss_nil)
      (pss_one (ps_for PassesOwn.never rfl (pi_range2 (by rfl) T.range (pa_cons (pe_callB (r := rLen K) call_len_seq (by rfl) T.len PySem.boot_len (pa_cons (pv 7) pa_nil)) (pa_cons (pe_callB (r := rLen K) call_len_seq (by rfl) T.len PySem.boot_len (pa_cons (pv 5) pa_nil)) pa_nil))) (pg_name (i := 11) scLaw.nd rfl (.inr rfl)) (pss_one (ps_if (pt_cmpR op_ne (pe_ix (r := rIxL K) ix_list (pv 5) (pv 11) (fun _ _ => rfl)) (pe_callB (r := rSum K) (cr_sum rfl) (by rfl) mSum (by decide +kernel) (pa_cons (pe_lc (own := [("_law_at", 9), ("_law_times", 10)]) (g := gTup K 2 (gCons (gName 9) (gCons (gName 10) gNil))) (tt := tYes) rfl scLaw.nd (pi_enumT (by rfl) T.enum (pa_cons (pv 7) pa_nil)) (blkOk_by (N := ["_law_script", "_law_deck_here", "_law_turn", "_law_machine_here", "_law_many", "_law_counts_here", "_law_due", "_law_found", "_law_rows", "_law_at", "_law_times", "_law_length", "_law_short", "_law_kind"]) (sc := defScope sLaw) (by decide +kernel)) (fun _ _ _ _ _ => pg_tup rfl (pgs_cons (pg_name (i := 9) scLaw.nd rfl (Or.inl rfl)) (pgs_cons (pg_name (i := 10) scLaw.nd rfl (Or.inl rfl)) pgs_nil))) (fun _ _ _ _ _ => pts_nil) (fun _ _ _ _ _ => (pe_op op_mulW (pv 10) (pe_ix (r := rIxL K) ix_list (pv 5) (pe_op op_sub (pe_op op_sub (pv 11) pe_int) (pv 9)) (fun _ _ => rfl))))) pa_nil)) (nomark _)) (pss_one (ps_ret pe_bl)) pss_nil))))))))))))))
      (pss_cons (ps_set (i := 12) scLaw.nd rfl (.inl rfl) (pe_tup (pa_cons pe_int (pa_cons (pe_tup (pa_cons (pe_tup (pa_cons pe_int pa_nil)) (pa_cons (pe_tup (pa_cons pe_non pa_nil)) pa_nil))) (pa_cons (pe_tup (pa_cons pe_bl (pa_cons pe_bl pa_nil))) pa_nil)))))
      (pss_cons (ps_set (i := 13) scLaw.nd rfl (.inl rfl) (pe_tup (pa_cons pe_int (pa_cons (pe_tup (pa_cons (pe_tup (pa_cons pe_int (pa_cons pe_int pa_nil))) (pa_cons (pe_tup (pa_cons pe_int (pa_cons pe_non pa_nil))) pa_nil))) (pa_cons (pe_tup (pa_cons pe_bl (pa_cons pe_bl pa_nil))) pa_nil)))))
      (pss_one (ps_ret (pe_cmpR (op_eqD hr.units) (pe_lstA (pa_cons (pe_call GO (hr.mono (by decide)) (by rfl) gGO FGO.kp bGO .nil pass0 (pa_cons (pv 12) pa_nil)) (pa_cons (pe_call GO (hr.mono (by decide)) (by rfl) gGO FGO.kp bGO .nil pass0 (pa_cons (pv 13) pa_nil)) (pa_cons (pe_call GO (hr.mono (by decide)) (by rfl) gGO FGO.kp bGO .nil pass0 (pa_cons (pe_tup (pa_cons pe_int (pa_cons (pe_tup (pa_cons (pe_tup (pa_cons pe_int pa_nil)) pa_nil)) (pa_cons (pe_tup (pa_cons pe_bl pa_nil)) pa_nil)))) pa_nil)) (pa_cons (pe_call CO (hr.mono (by decide)) (by rfl) gCO FCO.kp bCO .nil pass0 (pa_cons (pv 13) (pa_cons pe_int pa_nil))) pa_nil))))) (pe_lstA (pa_cons (pe_tup (pa_cons pe_int (pa_cons pe_int pa_nil))) (pa_cons (pe_tup (pa_cons pe_int (pa_cons pe_int pa_nil))) (pa_cons (pe_tup pa_nil) (pa_cons pe_int pa_nil))))) (nomark _))))))))), ?_⟩
  refine ⟨_, rfl, l, ns, rfl, hS, hlen, fun H1 a c cells0 s1 na nc dk0 => ?_⟩
  refine ⟨_, rfl, rfl, a, c, cells0, 0, rfl, dk0, by decide, by decide, fun H2 cells2 n2 dk2 b1 b2 => ⟨_, rfl, ?_⟩⟩
  refine ⟨9, rfl, by decide, by decide, for_range (lo := 0) (n := 9) (fun i σ H' => (∃ y2 y3 y4 y5 y6 y7 y8 y9 y10 y11 y12 y13 : Option V, σ = [some (.ref l), some (.ref a), y2, y3, y4, y5, y6, y7, y8, y9, y10, y11, y12, y13]) ∧ ∃ (cells : List Int) (n : Int), DeckAt a c cells n H' ∧ 0 ≤ n ∧ n ≤ 200 + 200 * i)
    ⟨⟨_, _, _, _, _, _, _, _, _, _, _, _, rfl⟩, cells2, n2, dk2, by omega, by omega⟩ ?_ ?_⟩
  · rintro i σ H2 hi ⟨⟨y2, y3, y4, y5, y6, y7, y8, y9, y10, y11, y12, y13, rfl⟩, cells, n, dk, n0, nb⟩
    refine ⟨_, rfl, _, rfl, a, c, cells, n, 3, rfl, dk, by decide, by decide, n0, by omega, fun H3 cells3 r r0 r3 dk3 k3 => ?_⟩
    obtain ⟨L, hL⟩ : ∃ L : Nat, (L : Int) = 1 + r := ⟨(1 + r).toNat, by omega⟩
    refine ⟨1, r, rfl, rfl, a, c, cells3, n + 1, 1 + r, 6, rfl, dk3, by omega, by omega, by omega, by omega, by decide, by decide, fun H4 cells4 n4 vm rs0 es0 dk4 m1 m2 k4 hM => ?_⟩
    rw [← hL] at hM
    obtain ⟨rows, bs, hdm, M, l6⟩ := mach_of hM (by omega) (by omega) (by decide)
    clear hM
    obtain ⟨m, pr, pe, rvs, rfl, nm, MM⟩ := dt_mach hdm
    have l6 : rows.length ≤ 6 := by omega
    have l1 := M.l1
    obtain ⟨N, hN⟩ : ∃ N : Nat, N = rows.length := ⟨_, rfl⟩
    refine ⟨_, rfl, m, _, 1, .ref pr, rfl, rfl, .inl MM.hm, atI_nat (j := 1) rfl, pr, rvs, rfl, .inr (.inl MM.hr), ?_⟩
    rw [MM.hl, ← hN]
    refine ⟨_, rfl, _, rfl, _, _, rfl, rfl, .inl ⟨by omega, by omega⟩, _, _, rfl, rfl, ?_⟩
    refine ⟨L, 4 * N + 6, rows, bs, .ref m, Bd a c, rfl, hdm, M, by omega, fun H5 cp s5 cp0 hcp => ?_⟩
    have dk5 := deck_same s5 dk4
    have hdm5 := same_dt s5 hdm
    obtain ⟨sq, hsq⟩ : ∃ sq : Nat → Int, sq = fun k => ((cntP L (fun w => acc rows bs w 0) k : Nat) : Int) := ⟨_, rfl⟩
    have hcp : H5 cp = some (.lst ((List.range (4 * N + 6)).map fun k => V.int (sq k))) := by rw [hsq]; exact hcp
    refine stN ?_
    refine joinE (t := tIf _ _ _) (fun v H' => Same H5 H' ∧ v = sizeO L (fun w => acc rows bs w 0) N) (fun kk => ?_) ?_
    · refine ⟨_, rfl, L, rows, bs, .ref m, Bd a c, rfl, hdm5, M, l6, fun H6 b s6 hb => ?_⟩
      refine ⟨b, rfl, ite2 (fun z => ?_) (fun z => ?_)⟩
      · have fin := hb.mp z
        refine ⟨_, rfl, _, rfl, _, rfl, cp, _, rfl, SqL.of (s6 _ _ hcp), fun p np => ?_⟩
        have e1 : cutV ((List.range (4 * N + 6)).map fun k => V.int (sq k)) none (some (N : Int)) = ((List.range N).map sq).map V.int := by
          rw [cut_take' _ N (by rw [List.length_map, List.length_range]; omega), ← List.map_take, List.take_range, Nat.min_eq_left (by omega), List.map_map]
          rfl
        rw [e1]
        refine ⟨p, _, rfl, SqL.of upd_same, kk _ _ ⟨s6.trans (same_new np), ?_⟩⟩
        unfold sizeO
        rw [if_neg (by rw [hN]; exact fin), sum_cast, hsq]
      · have inf : ∃ w, rows.length ≤ w.length ∧ acc rows bs w 0 = true := Classical.byContradiction fun y => z (hb.mpr y)
        refine kk _ _ ⟨s6, ?_⟩
        unfold sizeO
        rw [if_pos (by rw [hN]; exact inf)]
    · rintro due H6 ⟨s6, hdue⟩
      have dk6 := deck_same s6 dk5
      have hdm6 := same_dt s6 hdm5
      obtain ⟨sd, dsd, okd⟩ := size_data (p := fun w => acc rows bs w 0) M.L3 (show N ≤ 6 by omega)
      rw [← hdue] at dsd
      refine ⟨_, rfl, L, rows, bs, .ref m, Bd a c, rfl, hdm6, M, fun H7 s7 => ?_⟩
      rw [← hN, ← hdue]
      have dk7 := deck_same s7 dk6
      have hdm7 := same_dt s7 hdm6
      refine ⟨_, rfl, L, rows, bs, .ref m, Bd a c, rfl, hdm7, M, fun H8 s8 => ?_⟩
      rw [← hN, ← hdue]
      have dk8 := deck_same s8 dk7
      have hdm8 := same_dt s8 hdm7
      obtain ⟨a1, a2, a3⟩ := two_ok okd okd
      refine ⟨by show 2 ≤ sizeLine; decide, fun l1 H9 s9 l10 ns1 hl1 => ?_⟩
      have dk9 := deck_same s9 dk8
      refine ⟨_, .list [sd, sd], Bd a c, rfl, .lst (deck_off dk8 l10) ns1 (.inl hl1) (.cons (dsd _ _ _) (.cons (dsd _ _ _) .nil)), a1, a2, a3, ?_⟩
      refine ⟨_, rfl, _, rfl, by show 2 ≤ sizeLine; decide, fun l2 H10 s10 l20 ns2 hl2 => ?_⟩
      have dk10 := deck_same s10 dk9
      refine ⟨_, .list [sd, sd], Bd a c, rfl, .lst (deck_off dk9 l20) ns2 (.inl hl2) (.cons (dsd _ _ _) (.cons (dsd _ _ _) .nil)), a1, a2, a3, ?_⟩
      have s510 := s6.trans ((s7.trans s8).trans (s9.trans s10))
      have hdm10 := same_dt s10 (same_dt s9 hdm8)
      have hcp10 := s510 _ _ hcp
      generalize (PyData.list [sd, sd]).shown = S1
      refine ⟨rfl, _, rfl, ite2 (fun z => ?_) (fun _ => ?_)⟩
      · exact absurd rfl (of_decide_eq_false (not_cases z))
      clear a1 a2 a3 hl1 hl2
      obtain ⟨cR, Mr, hMr, R⟩ := counts_rule M
      have sb := six_sb (p := fun w => acc rows bs w 0) M.L3
      have FR := fineR_six (N := 2 * rows.length) sb R (by omega) (by omega)
      have GR := goes_right R (show 2 * Mr ≤ 2 * rows.length by omega)
      have LS := last_small R (by omega) sb (show 2 * rows.length ≤ 12 by omega) (by omega)
      refine ⟨_, rfl, L, Mr, rows, bs, .ref m, Bd a c, cR, rfl, hdm10, M, R, FR, fun H11 fp s11 fp0 hfp => ?_⟩
      rw [← hsq] at hfp R FR GR LS
      have dk11 := deck_same s11 dk10
      have hdm11 := same_dt s11 hdm10
      have hcp11 := s11 _ _ hcp10
      obtain ⟨fo, hfo⟩ : ∃ fo, fo = bmOut (bmRun sq (2 * rows.length)) := ⟨_, rfl⟩
      rw [← hfo] at hfp GR LS
      obtain ⟨G1, G2, G3⟩ := GR
      have fN : fo.length ≤ N := by omega
      have dfo := dt_it (B := Bd a c) (K := K) (deck_off dk10 fp0) hfp
      refine ⟨_, rfl, _, _, rfl, rfl, (N : Int) + 1, rfl, by omega, by omega, fun D hD => ?_⟩
      rw [show ((N : Int) + 1).toNat = N + 1 by omega]
      refine lc_range (lo := 0) (n := N + 1) (fun j H' => Same H11 H' ∧ ∃ as : List Addr, H' D = some (.lst (as.map V.ref)) ∧ as.length = j ∧ (∀ x ∈ as, x ≠ D) ∧ ∀ (j' : Nat) (x : Addr), as[j']? = some x → H' x = some (.lst (((List.range (N + 1)).map fun k => sq (j' + k)).map V.int)))
        ⟨same_new hD, [], upd_same, rfl, fun x hx => absurd hx List.not_mem_nil, fun j' x e => by cases e⟩ ?_ ?_
      · rintro j H12 hj ⟨sm, as, hD1, al, an, aa⟩
        rw [Int.zero_add]
        have hcp12 := sm _ _ hcp11
        refine ⟨rfl, _, rfl, _, rfl, _, rfl, _, rfl, _, rfl, _, _, rfl, rfl, _, _, rfl, rfl, _, rfl, cp, _, rfl, SqL.of hcp12, fun p np => ?_⟩
        have ej : (j : Int) + (N : Int) + 1 = ((j + N + 1 : Nat) : Int) := rfl
        have e1 : cutV ((List.range (4 * N + 6)).map fun k => V.int (sq k)) (some (j : Int)) (some ((j : Int) + (N : Int) + 1)) = ((List.range (N + 1)).map fun k => sq (j + k)).map V.int := by
          rw [ej, cut_mid _ j (j + N + 1) (by omega) (by rw [List.length_map, List.length_range]; omega), show j + N + 1 - j = N + 1 by omega]
          refine List.ext_getElem? fun q => ?_
          rw [List.map_map, List.getElem?_map, List.getElem?_take]
          by_cases h : q < N + 1
          · rw [if_pos h, List.getElem?_drop, List.getElem?_map, List.getElem?_range (show j + q < 4 * N + 6 by omega), List.getElem?_range h]
            rfl
          · rw [if_neg h, List.getElem?_eq_none (by rw [List.length_range]; omega)]
            rfl
        rw [e1]
        have nd : p ≠ D := fun z => by rw [z, hD1] at np; cases np
        refine ⟨_, by rw [upd_ne nd.symm]; exact hD1, small9 (by rw [List.length_map]; omega), fun b o e => ?_, as ++ [p], by rw [upd_same, List.map_append]; rfl, by rw [List.length_append, al]; rfl, fun x hx => ?_, fun j' x hx => ?_⟩
        · rw [upd_ne (ne_of_none e hD)]
          have := sm _ _ e
          rw [upd_ne (ne_of_none this np)]
          exact this
        · rcases List.mem_append.mp hx with hx | hx
          · exact an x hx
          · rw [List.mem_singleton.mp hx]
            exact nd
        · rw [List.getElem?_append] at hx
          by_cases h : j' < as.length
          · rw [if_pos h] at hx
            have h1 := aa j' x hx
            rw [upd_ne (an x (List.mem_of_getElem? hx)), upd_ne (ne_of_none h1 np)]
            exact h1
          · rw [if_neg h] at hx
            have jl := (List.getElem?_eq_some_iff.mp hx).1
            have jl : j' - as.length < 1 := jl
            have e2 : j' = j := by omega
            subst e2
            rw [al, Nat.sub_self] at hx
            cases hx
            rw [upd_ne nd, upd_same]
      · rintro H12 ⟨sm, as, hD1, al, an, aa⟩
        have dk12 := deck_same sm dk11
        have hdm12 := same_dt sm hdm11
        have dfo12 := same_dt sm dfo
        have hfp12 := sm _ _ hfp
        have hcp12 := sm _ _ hcp11
        have hl : (hankel sq N).length = N + 1 := by
          unfold hankel
          rw [List.length_map, List.length_range]
        refine ⟨.ref fp, rfl, .ref fp, .ty "tuple", _, _, _, rfl, .ty _, tyD dfo12, kitT (itD fo), _, rfl, ?_⟩
        refine ite2 (fun z => absurd z Bool.false_ne_true) (fun _ => ?_)
        have il : IL H12 as (hankel sq N) := ⟨by rw [al, hl], fun j x hx => by
          have jl := (List.getElem?_eq_some_iff.mp hx).1
          refine ⟨(List.range (N + 1)).map fun k => sq (j + k), ?_, aa j x hx⟩
          unfold hankel
          rw [List.getElem?_map, List.getElem?_range (by omega)]
          rfl⟩
        have rk := G2 N (by omega)
        refine ⟨_, rfl, fp, _, rfl, .inr (.inl (.inl hfp12)), _, rfl, D, as, hankel sq N, rfl, hD1, il, by rw [hl]; omega, fun r hr => ?_, fun r hr x hx => ?_, fun H13 s13 => ?_⟩
        · obtain ⟨j, _, rfl⟩ := List.mem_map.mp hr
          rw [List.length_map, List.length_range, hl]
        · obtain ⟨j, hj, rfl⟩ := List.mem_map.mp hr
          obtain ⟨k', hk, rfl⟩ := List.mem_map.mp hx
          rw [List.mem_range] at hj hk
          rw [hsq]
          show (((cntP L (fun w => acc rows bs w 0) (j + k') : Nat) : Int)).natAbs < 2 ^ 60
          rw [Int.natAbs_natCast]
          exact Nat.lt_of_le_of_lt (Nat.le_trans (cnt_six M.L3 _) (Nat.pow_le_pow_right (by decide) (show j + k' ≤ 12 by omega))) (by decide)
        rw [hl, rk]
        have dk13 := deck_same s13 dk12
        have hdm13 := same_dt s13 hdm12
        have dfo13 := same_dt s13 dfo12
        have hfp13 := s13 _ _ hfp12
        have hcp13 := s13 _ _ hcp12
        rw [List.length_map]
        refine ⟨rfl, _, rfl, ite2 (fun z => ?_) (fun _ => ?_)⟩
        · exact absurd rfl (of_decide_eq_false (not_cases z))
        refine ⟨_, rfl, L, Mr, rows, bs, .ref m, Bd a c, cR, rfl, hdm13, M, by rw [← hsq]; exact R, by rw [← hsq]; exact FR, fun H14 gp s14 gp0 hgp => ?_⟩
        rw [← hsq, ← hfo] at hgp
        have dk14 := deck_same s14 dk13
        have dgp := dt_it (B := Bd a c) (K := K) (deck_off dk13 gp0) hgp
        have dfo14 := same_dt s14 dfo13
        have hfp14 := s14 _ _ hfp13
        have hcp14 := s14 _ _ hcp13
        obtain ⟨a1, a2, a3⟩ := big_show LS (by omega)
        refine ⟨.ref gp, itD fo, Bd a c, rfl, dgp, a1, a2, a3, ?_⟩
        refine ⟨_, rfl, .ref fp, itD fo, Bd a c, rfl, dfo14, a1, a2, a3, ?_⟩
        generalize (itD fo).shown = S2
        refine ⟨rfl, _, rfl, ite2 (fun z => ?_) (fun _ => ?_)⟩
        · exact absurd rfl (of_decide_eq_false (not_cases z))
        clear a1 a2 a3
        refine ⟨_, rfl, fp, rfl, ⟨_, .inl (.inl hfp14)⟩, fun D2 hD2 => ?_⟩
        refine lc_tup (K := K) (a := fp) (xs := fo.map V.int) (KInv (fun _ : Int => false) V.int fo H14 D2) (kstart hD2) (fun i H' _ p => .inl (.inl (p.1 _ _ hfp14))) ?_ ?_
        · rintro j z H15 hz p1
          rw [List.getElem?_map] at hz
          obtain ⟨x, hx, rfl⟩ := Option.map_eq_some_iff.mp hz
          refine ⟨rfl, .int x, rfl, .int x, .ty "int", _, _, _, rfl, .ty _, tyD (.int (B := Bd a c) x), kitI (.int x), _, rfl, ?_⟩
          refine ite2 (fun z => absurd z Bool.false_ne_true) (fun _ => ?_)
          refine ⟨.int x, rfl, .int x, .ty "bool", _, _, _, rfl, .ty _, tyD (.int (B := Bd a c) x), kitB' (.int x), _, rfl, ?_⟩
          exact kno (t := fun _ : Int => false) hx rfl p1 (Same.refl _)
        · rintro H15 p1
          obtain ⟨s15, hl15⟩ := kend (List.length_map _) p1
          have e0 : (fo.filter fun _ : Int => false).map V.int = [] := by
            rw [List.filter_eq_nil_iff.mpr fun x _ z => absurd z Bool.false_ne_true]
            rfl
          rw [e0] at hl15
          refine ⟨by show 0 ≤ sizeLine; decide, fun e0 H16 s16 e00 ne0 he0 => ?_⟩
          have hl16 := s16 _ _ hl15
          have s1416 := s15.trans s16
          have dk16 := deck_same s1416 dk14
          have hfp16 := s1416 _ _ hfp14
          have hcp16 := s1416 _ _ hcp14
          refine ⟨D2, e0, _, rfl, rfl, SqL.of hl16, SqL.of he0, _, rfl, ite2 (fun z => absurd z Bool.false_ne_true) (fun _ => ?_)⟩
          refine ⟨_, rfl, fp, _, rfl, .inr (.inl (.inl hfp16)), _, rfl, cp, _, rfl, .inl (SqL.of hcp16), ?_⟩
          rw [List.length_map, List.length_map, List.length_range]
          refine ⟨(fo.length : Int), ((4 * N + 6 : Nat) : Int), rfl, by omega, ?_⟩
          rw [show (((4 * N + 6 : Nat) : Int) - (fo.length : Int)).toNat = 4 * N + 6 - fo.length by omega]
          have sqb : ∀ k, k < 4 * N + 6 → (sq k).natAbs < 2 ^ 60 := fun k hk => by
            rw [hsq]
            show (((cntP L (fun w => acc rows bs w 0) k : Nat) : Int)).natAbs < 2 ^ 60
            rw [Int.natAbs_natCast]
            exact Nat.lt_of_le_of_lt (Nat.le_trans (cnt_six M.L3 _) (Nat.pow_le_pow_right (by decide) (show k ≤ 30 by omega))) (by decide)
          refine for_range (lo := (fo.length : Int)) (n := 4 * N + 6 - fo.length) (fun j σ H' => (∃ y9 y10 y11 y12 y13 : Option V, σ = [some (.ref l), some (.ref a), some (.int (0 + (i : Int))), some (.ref m), some (.int (N : Int)), some (.ref cp), some due, some (.ref fp), some (.ref D), y9, y10, y11, y12, y13]) ∧ Same H16 H')
            ⟨⟨_, _, _, _, _, rfl⟩, Same.refl _⟩ ?_ ?_
          · rintro j σ H17 hj ⟨⟨y9', y10', y11', y12', y13', rfl⟩, sm17⟩
            obtain ⟨len, hlen'⟩ : ∃ len, len = fo.length + j := ⟨_, rfl⟩
            have elen : (fo.length : Int) + (j : Int) = (len : Int) := by omega
            rw [elen]
            have hcp17 := sm17 _ _ hcp16
            have hfp17 := sm17 _ _ hfp16
            have lt : len < 4 * N + 6 := by omega
            refine ⟨_, rfl, _, rfl, cp, _, (len : Int), V.int (sq len), rfl, rfl, SqL.of hcp17, atI_nat (by rw [List.getElem?_map, List.getElem?_range lt]; rfl), ?_⟩
            refine ⟨_, rfl, fp, _, rfl, .inl (.inl hfp17), fun D3 hD3 => ?_⟩
            refine lc_it (walk_enumT (K := K) (a := fp) (xs := fo.map V.int)) (fun k H' => Same H17 H' ∧ H' D3 = some (.lst (((List.range k).map fun k => fo.getD k 0 * sq (len - 1 - k)).map V.int))) ⟨same_new hD3, upd_same⟩ (fun k H' _ q => .inl (.inl (q.1 _ _ hfp17))) ?_ ?_
            · rintro k z H18 H19 hk ⟨sm18, hl18⟩ ⟨T2, va, vb, rfl, nT, rfl, ea, eb⟩
              have ea : some (V.int (k : Int)) = some va := ea
              cases ea
              have eb : (fo.map V.int)[k]? = some vb := eb
              rw [List.getElem?_map] at eb
              obtain ⟨x, hx, rfl⟩ := Option.map_eq_some_iff.mp eb
              rw [List.length_map] at hk
              have sT := same_new (o := .tup [V.int (k : Int), V.int x]) nT
              have hcp19 := sT _ _ (sm18 _ _ hcp17)
              have hl19 := sT _ _ hl18
              have sm19 := sm18.trans sT
              refine ⟨T2, _, rfl, SqT.of upd_same, rfl, _, _, rfl, _, _, rfl, rfl, ?_⟩
              generalize upd H18 T2 (.tup [V.int (k : Int), V.int x]) = G19 at *
              have xg : fo.getD k 0 = x := by rw [List.getD_eq_getElem?_getD, hx]; rfl
              refine ⟨rfl, _, rfl, _, rfl, _, rfl, _, _, rfl, rfl, _, rfl, _, _, rfl, rfl, ?_⟩
              have ix : (len : Int) - 1 - (k : Int) = ((len - 1 - k : Nat) : Int) := by omega
              refine ⟨cp, _, ((len - 1 - k : Nat) : Int), V.int (sq (len - 1 - k)), rfl, congrArg V.int ix, SqL.of hcp19, atI_nat (by rw [List.getElem?_map, List.getElem?_range (show len - 1 - k < 4 * N + 6 by omega)]; rfl), ?_⟩
              refine ⟨_, _, rfl, rfl, wide_mul (LS x (List.mem_of_getElem? hx)) (sqb _ (by omega)) (by decide) (by decide) (by decide), ?_⟩
              refine ⟨_, hl19, small9 (by rw [List.length_map, List.length_map, List.length_range]; omega), fun b o e => ?_, ?_⟩
              · rw [upd_ne (ne_of_none e hD3)]
                exact sm19 _ _ e
              · rw [upd_same, List.range_succ, List.map_append, List.map_append]
                show some (HO.lst (_ ++ [V.int (x * sq (len - 1 - k))])) = some (HO.lst (_ ++ [V.int (fo.getD k 0 * sq (len - 1 - k))]))
                rw [xg]
            · rintro H18 ⟨sm18, hl18⟩
              rw [List.length_map] at hl18
              refine ⟨D3, _, rfl, SqL.of hl18, ?_⟩
              have g1 : sq len = sumR (fun k => fo.getD k 0 * sq (len - 1 - k)) fo.length := by
                have g := G1 len (by omega)
                rw [hsq]
                exact g
              rw [sum_range, ← g1]
              refine ⟨rfl, _, rfl, ite2 (fun z => ?_) (fun _ => ?_)⟩
              · exact absurd rfl (of_decide_eq_false (not_cases z))
              exact ⟨⟨_, _, _, _, _, rfl⟩, sm17.trans sm18⟩
          · rintro σ H17 ⟨⟨y9', y10', y11', y12', y13', rfl⟩, sm17⟩
            exact ⟨⟨_, _, _, _, _, _, _, _, _, _, _, _, rfl⟩, cells4, n4, deck_same sm17 dk16, by omega, by omega⟩
  · rintro σ H2 ⟨⟨y2, y3, y4, y5, y6, y7, y8, y9, y10, y11, y12, y13, rfl⟩, cells, n, dk, n0, nb⟩
    refine ⟨by show 1 ≤ sizeLine; decide, fun t1 nt1 => ?_⟩
    have q0 := same_new (o := .tup [.int 1]) nt1
    have bt1 := deck_off dk nt1
    have gt1 : Rd (upd H2 t1 (.tup [.int 1])) t1 (.tup [.int 1]) := .inl upd_same
    have et1 : (upd H2 t1 (.tup [.int 1])) t1 = some (.tup [.int 1]) := upd_same
    have dj0 := deck_same q0 dk
    generalize upd H2 t1 (.tup [.int 1]) = J0 at *
    refine ⟨by show 1 ≤ sizeLine; decide, fun t2 nt2 => ?_⟩
    have q1 := same_new (o := .tup [.non]) nt2
    have bt2 := deck_off dj0 nt2
    have gt2 : Rd (upd J0 t2 (.tup [.non])) t2 (.tup [.non]) := .inl upd_same
    have et2 : (upd J0 t2 (.tup [.non])) t2 = some (.tup [.non]) := upd_same
    have dj1 := deck_same q1 dj0
    generalize upd J0 t2 (.tup [.non]) = J1 at *
    refine ⟨by show 2 ≤ sizeLine; decide, fun t3 nt3 => ?_⟩
    have q2 := same_new (o := .tup [.ref t1, .ref t2]) nt3
    have bt3 := deck_off dj1 nt3
    have gt3 : Rd (upd J1 t3 (.tup [.ref t1, .ref t2])) t3 (.tup [.ref t1, .ref t2]) := .inl upd_same
    have et3 : (upd J1 t3 (.tup [.ref t1, .ref t2])) t3 = some (.tup [.ref t1, .ref t2]) := upd_same
    have dj2 := deck_same q2 dj1
    generalize upd J1 t3 (.tup [.ref t1, .ref t2]) = J2 at *
    refine ⟨by show 2 ≤ sizeLine; decide, fun t4 nt4 => ?_⟩
    have q3 := same_new (o := .tup [.bl true, .bl true]) nt4
    have bt4 := deck_off dj2 nt4
    have gt4 : Rd (upd J2 t4 (.tup [.bl true, .bl true])) t4 (.tup [.bl true, .bl true]) := .inl upd_same
    have et4 : (upd J2 t4 (.tup [.bl true, .bl true])) t4 = some (.tup [.bl true, .bl true]) := upd_same
    have dj3 := deck_same q3 dj2
    generalize upd J2 t4 (.tup [.bl true, .bl true]) = J3 at *
    refine ⟨by show 3 ≤ sizeLine; decide, fun t5 nt5 => ?_⟩
    have q4 := same_new (o := .tup [.int 1, .ref t3, .ref t4]) nt5
    have bt5 := deck_off dj3 nt5
    have gt5 : Rd (upd J3 t5 (.tup [.int 1, .ref t3, .ref t4])) t5 (.tup [.int 1, .ref t3, .ref t4]) := .inl upd_same
    have et5 : (upd J3 t5 (.tup [.int 1, .ref t3, .ref t4])) t5 = some (.tup [.int 1, .ref t3, .ref t4]) := upd_same
    have dj4 := deck_same q4 dj3
    generalize upd J3 t5 (.tup [.int 1, .ref t3, .ref t4]) = J4 at *
    have dA : Dt (Bd a c) K J4 (.ref t5) (machDt 1 rsA [true, true]) := .tup bt5 gt5 (.cons (.int _) (.cons (.tup bt3 (same_rd (q3.trans q4) gt3) (.cons (.tup bt1 (same_rd (((q1.trans q2).trans q3).trans q4) gt1) (.cons (.int _) .nil)) (.cons (.tup bt2 (same_rd ((q2.trans q3).trans q4) gt2) (.cons .non .nil)) .nil))) (.cons (.tup bt4 (same_rd q4 gt4) (.cons (.bl _) (.cons (.bl _) .nil))) .nil)))
    refine ⟨by show 2 ≤ sizeLine; decide, fun u1 nu1 => ?_⟩
    have q5 := same_new (o := .tup [.int 0, .int 1]) nu1
    have bu1 := deck_off dj4 nu1
    have gu1 : Rd (upd J4 u1 (.tup [.int 0, .int 1])) u1 (.tup [.int 0, .int 1]) := .inl upd_same
    have eu1 : (upd J4 u1 (.tup [.int 0, .int 1])) u1 = some (.tup [.int 0, .int 1]) := upd_same
    have dj5 := deck_same q5 dj4
    generalize upd J4 u1 (.tup [.int 0, .int 1]) = J5 at *
    refine ⟨by show 2 ≤ sizeLine; decide, fun u2 nu2 => ?_⟩
    have q6 := same_new (o := .tup [.int 0, .non]) nu2
    have bu2 := deck_off dj5 nu2
    have gu2 : Rd (upd J5 u2 (.tup [.int 0, .non])) u2 (.tup [.int 0, .non]) := .inl upd_same
    have eu2 : (upd J5 u2 (.tup [.int 0, .non])) u2 = some (.tup [.int 0, .non]) := upd_same
    have dj6 := deck_same q6 dj5
    generalize upd J5 u2 (.tup [.int 0, .non]) = J6 at *
    refine ⟨by show 2 ≤ sizeLine; decide, fun u3 nu3 => ?_⟩
    have q7 := same_new (o := .tup [.ref u1, .ref u2]) nu3
    have bu3 := deck_off dj6 nu3
    have gu3 : Rd (upd J6 u3 (.tup [.ref u1, .ref u2])) u3 (.tup [.ref u1, .ref u2]) := .inl upd_same
    have eu3 : (upd J6 u3 (.tup [.ref u1, .ref u2])) u3 = some (.tup [.ref u1, .ref u2]) := upd_same
    have dj7 := deck_same q7 dj6
    generalize upd J6 u3 (.tup [.ref u1, .ref u2]) = J7 at *
    refine ⟨by show 2 ≤ sizeLine; decide, fun u4 nu4 => ?_⟩
    have q8 := same_new (o := .tup [.bl true, .bl true]) nu4
    have bu4 := deck_off dj7 nu4
    have gu4 : Rd (upd J7 u4 (.tup [.bl true, .bl true])) u4 (.tup [.bl true, .bl true]) := .inl upd_same
    have eu4 : (upd J7 u4 (.tup [.bl true, .bl true])) u4 = some (.tup [.bl true, .bl true]) := upd_same
    have dj8 := deck_same q8 dj7
    generalize upd J7 u4 (.tup [.bl true, .bl true]) = J8 at *
    refine ⟨by show 3 ≤ sizeLine; decide, fun u5 nu5 => ?_⟩
    have q9 := same_new (o := .tup [.int 2, .ref u3, .ref u4]) nu5
    have bu5 := deck_off dj8 nu5
    have gu5 : Rd (upd J8 u5 (.tup [.int 2, .ref u3, .ref u4])) u5 (.tup [.int 2, .ref u3, .ref u4]) := .inl upd_same
    have eu5 : (upd J8 u5 (.tup [.int 2, .ref u3, .ref u4])) u5 = some (.tup [.int 2, .ref u3, .ref u4]) := upd_same
    have dj9 := deck_same q9 dj8
    generalize upd J8 u5 (.tup [.int 2, .ref u3, .ref u4]) = J9 at *
    have dB : Dt (Bd a c) K J9 (.ref u5) (machDt 2 rsB [true, true]) := .tup bu5 gu5 (.cons (.int _) (.cons (.tup bu3 (same_rd (q8.trans q9) gu3) (.cons (.tup bu1 (same_rd (((q6.trans q7).trans q8).trans q9) gu1) (.cons (.int _) (.cons (.int _) .nil))) (.cons (.tup bu2 (same_rd ((q7.trans q8).trans q9) gu2) (.cons (.int _) (.cons .non .nil))) .nil))) (.cons (.tup bu4 (same_rd q9 gu4) (.cons (.bl _) (.cons (.bl _) .nil))) .nil)))
    obtain ⟨cA, LA, _, RA⟩ := counts_rule mokA
    obtain ⟨cB, LB, _, RB⟩ := counts_rule mokB
    obtain ⟨cC, LC, _, RC⟩ := counts_rule mokC
    refine ⟨_, rfl, 1, LA, _, _, .ref t5, Bd a c, cA, rfl, (same_dt ((((q5.trans q6).trans q7).trans q8).trans q9) dA), mokA, RA, goA.1, fun K1 p1 qq1 p10 hp1 => ?_⟩
    rw [show 2 * List.length rsA = 4 from rfl, goA.2] at hp1
    have q10 : Same J9 K1 := qq1
    have dj10 := deck_same q10 dj9
    refine ⟨_, rfl, 2, LB, _, _, .ref u5, Bd a c, cB, rfl, (same_dt q10 dB), mokB, RB, goB.1, fun K2 p2 qq2 p20 hp2 => ?_⟩
    rw [show 2 * List.length rsB = 4 from rfl, goB.2] at hp2
    have q11 : Same K1 K2 := qq2
    have dj11 := deck_same q11 dj10
    refine ⟨by show 1 ≤ sizeLine; decide, fun w1 nw1 => ?_⟩
    have q12 := same_new (o := .tup [.int 0]) nw1
    have bw1 := deck_off dj11 nw1
    have gw1 : Rd (upd K2 w1 (.tup [.int 0])) w1 (.tup [.int 0]) := .inl upd_same
    have ew1 : (upd K2 w1 (.tup [.int 0])) w1 = some (.tup [.int 0]) := upd_same
    have dj12 := deck_same q12 dj11
    generalize upd K2 w1 (.tup [.int 0]) = J12 at *
    refine ⟨by show 1 ≤ sizeLine; decide, fun w2 nw2 => ?_⟩
    have q13 := same_new (o := .tup [.ref w1]) nw2
    have bw2 := deck_off dj12 nw2
    have gw2 : Rd (upd J12 w2 (.tup [.ref w1])) w2 (.tup [.ref w1]) := .inl upd_same
    have ew2 : (upd J12 w2 (.tup [.ref w1])) w2 = some (.tup [.ref w1]) := upd_same
    have dj13 := deck_same q13 dj12
    generalize upd J12 w2 (.tup [.ref w1]) = J13 at *
    refine ⟨by show 1 ≤ sizeLine; decide, fun w3 nw3 => ?_⟩
    have q14 := same_new (o := .tup [.bl false]) nw3
    have bw3 := deck_off dj13 nw3
    have gw3 : Rd (upd J13 w3 (.tup [.bl false])) w3 (.tup [.bl false]) := .inl upd_same
    have ew3 : (upd J13 w3 (.tup [.bl false])) w3 = some (.tup [.bl false]) := upd_same
    have dj14 := deck_same q14 dj13
    generalize upd J13 w3 (.tup [.bl false]) = J14 at *
    refine ⟨by show 3 ≤ sizeLine; decide, fun w4 nw4 => ?_⟩
    have q15 := same_new (o := .tup [.int 1, .ref w2, .ref w3]) nw4
    have bw4 := deck_off dj14 nw4
    have gw4 : Rd (upd J14 w4 (.tup [.int 1, .ref w2, .ref w3])) w4 (.tup [.int 1, .ref w2, .ref w3]) := .inl upd_same
    have ew4 : (upd J14 w4 (.tup [.int 1, .ref w2, .ref w3])) w4 = some (.tup [.int 1, .ref w2, .ref w3]) := upd_same
    have dj15 := deck_same q15 dj14
    generalize upd J14 w4 (.tup [.int 1, .ref w2, .ref w3]) = J15 at *
    have dC : Dt (Bd a c) K J15 (.ref w4) (machDt 1 rsC [false]) := .tup bw4 gw4 (.cons (.int _) (.cons (.tup bw2 (same_rd (q14.trans q15) gw2) (.cons (.tup bw1 (same_rd ((q13.trans q14).trans q15) gw1) (.cons (.int _) .nil)) .nil)) (.cons (.tup bw3 (same_rd q15 gw3) (.cons (.bl _) .nil)) .nil)))
    refine ⟨1, LC, _, _, .ref w4, Bd a c, cC, rfl, dC, mokC, RC, goC.1, fun K3 p3 qq3 p30 hp3 => ?_⟩
    rw [show 2 * List.length rsC = 2 from rfl, goC.2] at hp3
    have q16 : Same J15 K3 := qq3
    have dj16 := deck_same q16 dj15
    refine ⟨_, rfl, 2, 5, _, _, .ref u5, Bd a c, rfl, (same_dt ((((((q10.trans q11).trans q12).trans q13).trans q14).trans q15).trans q16) dB), mokB, by decide, fun K4 qq4 => ?_⟩
    have q17 : Same K3 K4 := qq4
    have dj17 := deck_same q17 dj16
    rw [cntB]
    refine ⟨by show 4 ≤ sizeLine; decide, fun l1 K5 qq5 l10 ns1 hl1 => ?_⟩
    have q18 : Same K4 K5 := qq5
    have dj18 := deck_same q18 dj17
    have hp1 := ((((((((q11.trans q12).trans q13).trans q14).trans q15).trans q16).trans q17).trans q18) _ _ hp1)
    have hp2 := (((((((q12.trans q13).trans q14).trans q15).trans q16).trans q17).trans q18) _ _ hp2)
    have hp3 := ((q17.trans q18) _ _ hp3)
    refine ⟨by show 2 ≤ sizeLine; decide, fun e1 ne1 => ?_⟩
    have q19 := same_new (o := .tup [.int 0, .int 0]) ne1
    have be1 := deck_off dj18 ne1
    have ge1 : Rd (upd K5 e1 (.tup [.int 0, .int 0])) e1 (.tup [.int 0, .int 0]) := .inl upd_same
    have ee1 : (upd K5 e1 (.tup [.int 0, .int 0])) e1 = some (.tup [.int 0, .int 0]) := upd_same
    have dj19 := deck_same q19 dj18
    generalize upd K5 e1 (.tup [.int 0, .int 0]) = J19 at *
    refine ⟨by show 2 ≤ sizeLine; decide, fun e2 ne2 => ?_⟩
    have q20 := same_new (o := .tup [.int 1, .int 1]) ne2
    have be2 := deck_off dj19 ne2
    have ge2 : Rd (upd J19 e2 (.tup [.int 1, .int 1])) e2 (.tup [.int 1, .int 1]) := .inl upd_same
    have ee2 : (upd J19 e2 (.tup [.int 1, .int 1])) e2 = some (.tup [.int 1, .int 1]) := upd_same
    have dj20 := deck_same q20 dj19
    generalize upd J19 e2 (.tup [.int 1, .int 1]) = J20 at *
    refine ⟨by show 0 ≤ sizeLine; decide, fun e3 ne3 => ?_⟩
    have q21 := same_new (o := .tup []) ne3
    have be3 := deck_off dj20 ne3
    have ge3 : Rd (upd J20 e3 (.tup [])) e3 (.tup []) := .inl upd_same
    have ee3 : (upd J20 e3 (.tup [])) e3 = some (.tup []) := upd_same
    have dj21 := deck_same q21 dj20
    generalize upd J20 e3 (.tup []) = J21 at *
    refine ⟨by show 4 ≤ sizeLine; decide, fun l2 K6 qq6 l20 ns2 hl2 => ?_⟩
    have q22 : Same J21 K6 := qq6
    have dj22 := deck_same q22 dj21
    refine ⟨dueD, dueD, dp_due ((((q19.trans q20).trans q21).trans q22) _ _ hl1) ((((q19.trans q20).trans q21).trans q22) _ _ hp1) ((((q19.trans q20).trans q21).trans q22) _ _ hp2) ((((q19.trans q20).trans q21).trans q22) _ _ hp3), dp_due hl2 (((q20.trans q21).trans q22) _ _ ee1) ((q21.trans q22) _ _ ee2) (q22 _ _ ee3), due_shaped, due_shaped, ?_⟩
    rw [due_eqv]
    exact k _
end
theorem all_mk {l : PySem.W.OpenLaw} {w : World} {K : PySem.W.Frag} {h : Heap} {mg : Str → Option Value} {fa f0 f1 f2 f3 f4 f5 f6 f7 f8 f9 f10 f11 f12 f13 f14 f15 f16 f17 f18 f19 f20 f21 f22 f23 f24 f25 f26 : Addr} (inK : K.In h) (atG : h.Ns mainGlobals mg) (hfa : mg "law" = some (.ref fa))
    {odd0 and0 odd1 and1 odd2 and2 odd3 and3 odd4 and4 odd5 and5 odd6 and6 odd7 and7 odd8 and8 odd9 and9 odd10 and10 odd11 and11 odd12 and12 odd13 and13 odd14 and14 odd15 and15 odd16 and16 odd17 and17 odd18 and18 odd19 and19 odd20 and20 odd21 and21 odd22 and22 odd23 and23 odd24 and24 odd25 and25 odd26 and26 : Option Addr} {sld0 sld1 sld2 sld3 sld4 sld5 sld6 sld7 sld8 sld9 sld10 sld11 sld12 sld13 sld14 sld15 sld16 sld17 sld18 sld19 sld20 sld21 sld22 sld23 sld24 sld25 sld26 : Array (Option Value)} {ocd0 kVd0 dcd0 pmd0 cdd0 ctd0 ocd1 kVd1 dcd1 pmd1 cdd1 ctd1 ocd2 kVd2 dcd2 pmd2 cdd2 ctd2 ocd3 kVd3 dcd3 pmd3 cdd3 ctd3 ocd4 kVd4 dcd4 pmd4 cdd4 ctd4 ocd5 kVd5 dcd5 pmd5 cdd5 ctd5 ocd6 kVd6 dcd6 pmd6 cdd6 ctd6 ocd7 kVd7 dcd7 pmd7 cdd7 ctd7 ocd8 kVd8 dcd8 pmd8 cdd8 ctd8 ocd9 kVd9 dcd9 pmd9 cdd9 ctd9 ocd10 kVd10 dcd10 pmd10 cdd10 ctd10 ocd11 kVd11 dcd11 pmd11 cdd11 ctd11 ocd12 kVd12 dcd12 pmd12 cdd12 ctd12 ocd13 kVd13 dcd13 pmd13 cdd13 ctd13 ocd14 kVd14 dcd14 pmd14 cdd14 ctd14 ocd15 kVd15 dcd15 pmd15 cdd15 ctd15 ocd16 kVd16 dcd16 pmd16 cdd16 ctd16 ocd17 kVd17 dcd17 pmd17 cdd17 ctd17 ocd18 kVd18 dcd18 pmd18 cdd18 ctd18 ocd19 kVd19 dcd19 pmd19 cdd19 ctd19 ocd20 kVd20 dcd20 pmd20 cdd20 ctd20 ocd21 kVd21 dcd21 pmd21 cdd21 ctd21 ocd22 kVd22 dcd22 pmd22 cdd22 ctd22 ocd23 kVd23 dcd23 pmd23 cdd23 ctd23 ocd24 kVd24 dcd24 pmd24 cdd24 ctd24 ocd25 kVd25 dcd25 pmd25 cdd25 ctd25 ocd26 kVd26 dcd26 pmd26 cdd26 ctd26 : Value}
    (a0 : PySem.W.nsIn K mainGlobals "reached" = some (some (.ref f0)))
    (l0 : K.lookup f0 = some ⟨ocd0, odd0, .func (PySem.W.fnOf "reached" "reached" (defArgs sReached) (defBody sReached) (defScope sReached) .none kVd0 dcd0 pmd0 and0 cdd0 ctd0), sld0⟩)
    (c0 : PySem.W.codeIn K cdd0 "reached" = true)
    (k0 : PySem.W.keepIn K (.ref f0) = true)
    (a1 : PySem.W.nsIn K mainGlobals "sources" = some (some (.ref f1)))
    (l1 : K.lookup f1 = some ⟨ocd1, odd1, .func (PySem.W.fnOf "sources" "sources" (defArgs sSources) (defBody sSources) (defScope sSources) .none kVd1 dcd1 pmd1 and1 cdd1 ctd1), sld1⟩)
    (c1 : PySem.W.codeIn K cdd1 "sources" = true)
    (k1 : PySem.W.keepIn K (.ref f1) = true)
    (a2 : PySem.W.nsIn K mainGlobals "leading" = some (some (.ref f2)))
    (l2 : K.lookup f2 = some ⟨ocd2, odd2, .func (PySem.W.fnOf "leading" "leading" (defArgs sLeading) (defBody sLeading) (defScope sLeading) .none kVd2 dcd2 pmd2 and2 cdd2 ctd2), sld2⟩)
    (c2 : PySem.W.codeIn K cdd2 "leading" = true)
    (k2 : PySem.W.keepIn K (.ref f2) = true)
    (a3 : PySem.W.nsIn K mainGlobals "useful" = some (some (.ref f3)))
    (l3 : K.lookup f3 = some ⟨ocd3, odd3, .func (PySem.W.fnOf "useful" "useful" (defArgs sUseful) (defBody sUseful) (defScope sUseful) .none kVd3 dcd3 pmd3 and3 cdd3 ctd3), sld3⟩)
    (c3 : PySem.W.codeIn K cdd3 "useful" = true)
    (k3 : PySem.W.keepIn K (.ref f3) = true)
    (a4 : PySem.W.nsIn K mainGlobals "count" = some (some (.ref f4)))
    (l4 : K.lookup f4 = some ⟨ocd4, odd4, .func (PySem.W.fnOf "count" "count" (defArgs sCount) (defBody sCount) (defScope sCount) .none kVd4 dcd4 pmd4 and4 cdd4 ctd4), sld4⟩)
    (c4 : PySem.W.codeIn K cdd4 "count" = true)
    (k4 : PySem.W.keepIn K (.ref f4) = true)
    (a5 : PySem.W.nsIn K mainGlobals "counts" = some (some (.ref f5)))
    (l5 : K.lookup f5 = some ⟨ocd5, odd5, .func (PySem.W.fnOf "counts" "counts" (defArgs sCounts) (defBody sCounts) (defScope sCounts) .none kVd5 dcd5 pmd5 and5 cdd5 ctd5), sld5⟩)
    (c5 : PySem.W.codeIn K cdd5 "counts" = true)
    (k5 : PySem.W.keepIn K (.ref f5) = true)
    (a6 : PySem.W.nsIn K mainGlobals "onward" = some (some (.ref f6)))
    (l6 : K.lookup f6 = some ⟨ocd6, odd6, .func (PySem.W.fnOf "onward" "onward" (defArgs sOnward) (defBody sOnward) (defScope sOnward) .none kVd6 dcd6 pmd6 and6 cdd6 ctd6), sld6⟩)
    (c6 : PySem.W.codeIn K cdd6 "onward" = true)
    (k6 : PySem.W.keepIn K (.ref f6) = true)
    (a7 : PySem.W.nsIn K mainGlobals "size" = some (some (.ref f7)))
    (l7 : K.lookup f7 = some ⟨ocd7, odd7, .func (PySem.W.fnOf "size" "size" (defArgs sSize) (defBody sSize) (defScope sSize) .none kVd7 dcd7 pmd7 and7 cdd7 ctd7), sld7⟩)
    (c7 : PySem.W.codeIn K cdd7 "size" = true)
    (k7 : PySem.W.keepIn K (.ref f7) = true)
    (a8 : PySem.W.nsIn K mainGlobals "goes_on" = some (some (.ref f8)))
    (l8 : K.lookup f8 = some ⟨ocd8, odd8, .func (PySem.W.fnOf "goes_on" "goes_on" (defArgs sGoesOn) (defBody sGoesOn) (defScope sGoesOn) .none kVd8 dcd8 pmd8 and8 cdd8 ctd8), sld8⟩)
    (c8 : PySem.W.codeIn K cdd8 "goes_on" = true)
    (k8 : PySem.W.keepIn K (.ref f8) = true)
    (a9 : PySem.W.nsIn K mainGlobals "shortest_rule" = some (some (.ref f9)))
    (l9 : K.lookup f9 = some ⟨ocd9, odd9, .func (PySem.W.fnOf "shortest_rule" "shortest_rule" (defArgs sShort) (defBody sShort) (defScope sShort) .none kVd9 dcd9 pmd9 and9 cdd9 ctd9), sld9⟩)
    (c9 : PySem.W.codeIn K cdd9 "shortest_rule" = true)
    (k9 : PySem.W.keepIn K (.ref f9) = true)
    (a10 : PySem.W.nsIn K mainGlobals "mend" = some (some (.ref f10)))
    (l10 : K.lookup f10 = some ⟨ocd10, odd10, .func (PySem.W.fnOf "mend" "mend" (defArgs sMend) (defBody sMend) (defScope sMend) .none kVd10 dcd10 pmd10 and10 cdd10 ctd10), sld10⟩)
    (c10 : PySem.W.codeIn K cdd10 "mend" = true)
    (k10 : PySem.W.keepIn K (.ref f10) = true)
    (a11 : PySem.W.nsIn K mainGlobals "without_factor" = some (some (.ref f11)))
    (l11 : K.lookup f11 = some ⟨ocd11, odd11, .func (PySem.W.fnOf "without_factor" "without_factor" (defArgs sWithout) (defBody sWithout) (defScope sWithout) .none kVd11 dcd11 pmd11 and11 cdd11 ctd11), sld11⟩)
    (c11 : PySem.W.codeIn K cdd11 "without_factor" = true)
    (k11 : PySem.W.keepIn K (.ref f11) = true)
    (a12 : PySem.W.nsIn K mainGlobals "_law_deck" = some (some (.ref f12)))
    (l12 : K.lookup f12 = some ⟨ocd12, odd12, .func (PySem.W.fnOf "_law_deck" "_law_deck" (defArgs sDeck) (defBody sDeck) (defScope sDeck) .none kVd12 dcd12 pmd12 and12 cdd12 ctd12), sld12⟩)
    (c12 : PySem.W.codeIn K cdd12 "_law_deck" = true)
    (k12 : PySem.W.keepIn K (.ref f12) = true)
    (a13 : PySem.W.nsIn K mainGlobals "_law_draw" = some (some (.ref f13)))
    (l13 : K.lookup f13 = some ⟨ocd13, odd13, .func (PySem.W.fnOf "_law_draw" "_law_draw" (defArgs sDraw) (defBody sDraw) (defScope sDraw) .none kVd13 dcd13 pmd13 and13 cdd13 ctd13), sld13⟩)
    (c13 : PySem.W.codeIn K cdd13 "_law_draw" = true)
    (k13 : PySem.W.keepIn K (.ref f13) = true)
    (a14 : PySem.W.nsIn K mainGlobals "_law_one" = some (some (.ref f14)))
    (l14 : K.lookup f14 = some ⟨ocd14, odd14, .func (PySem.W.fnOf "_law_one" "_law_one" (defArgs sOne) (defBody sOne) (defScope sOne) .none kVd14 dcd14 pmd14 and14 cdd14 ctd14), sld14⟩)
    (c14 : PySem.W.codeIn K cdd14 "_law_one" = true)
    (k14 : PySem.W.keepIn K (.ref f14) = true)
    (a15 : PySem.W.nsIn K mainGlobals "_law_machine" = some (some (.ref f15)))
    (l15 : K.lookup f15 = some ⟨ocd15, odd15, .func (PySem.W.fnOf "_law_machine" "_law_machine" (defArgs sMach) (defBody sMach) (defScope sMach) .none kVd15 dcd15 pmd15 and15 cdd15 ctd15), sld15⟩)
    (c15 : PySem.W.codeIn K cdd15 "_law_machine" = true)
    (k15 : PySem.W.keepIn K (.ref f15) = true)
    (a16 : PySem.W.nsIn K mainGlobals "_law_met" = some (some (.ref f16)))
    (l16 : K.lookup f16 = some ⟨ocd16, odd16, .func (PySem.W.fnOf "_law_met" "_law_met" (defArgs sMet) (defBody sMet) (defScope sMet) .none kVd16 dcd16 pmd16 and16 cdd16 ctd16), sld16⟩)
    (c16 : PySem.W.codeIn K cdd16 "_law_met" = true)
    (k16 : PySem.W.keepIn K (.ref f16) = true)
    (a17 : PySem.W.nsIn K mainGlobals "_law_open" = some (some (.ref f17)))
    (l17 : K.lookup f17 = some ⟨ocd17, odd17, .func (PySem.W.fnOf "_law_open" "_law_open" (defArgs sOpen) (defBody sOpen) (defScope sOpen) .none kVd17 dcd17 pmd17 and17 cdd17 ctd17), sld17⟩)
    (c17 : PySem.W.codeIn K cdd17 "_law_open" = true)
    (k17 : PySem.W.keepIn K (.ref f17) = true)
    (a18 : PySem.W.nsIn K mainGlobals "_law_useful" = some (some (.ref f18)))
    (l18 : K.lookup f18 = some ⟨ocd18, odd18, .func (PySem.W.fnOf "_law_useful" "_law_useful" (defArgs sUsef) (defBody sUsef) (defScope sUsef) .none kVd18 dcd18 pmd18 and18 cdd18 ctd18), sld18⟩)
    (c18 : PySem.W.codeIn K cdd18 "_law_useful" = true)
    (k18 : PySem.W.keepIn K (.ref f18) = true)
    (a19 : PySem.W.nsIn K mainGlobals "_law_counts" = some (some (.ref f19)))
    (l19 : K.lookup f19 = some ⟨ocd19, odd19, .func (PySem.W.fnOf "_law_counts" "_law_counts" (defArgs sCntL) (defBody sCntL) (defScope sCntL) .none kVd19 dcd19 pmd19 and19 cdd19 ctd19), sld19⟩)
    (c19 : PySem.W.codeIn K cdd19 "_law_counts" = true)
    (k19 : PySem.W.keepIn K (.ref f19) = true)
    (a20 : PySem.W.nsIn K mainGlobals "_law_rank" = some (some (.ref f20)))
    (l20 : K.lookup f20 = some ⟨ocd20, odd20, .func (PySem.W.fnOf "_law_rank" "_law_rank" (defArgs sRank) (defBody sRank) (defScope sRank) .none kVd20 dcd20 pmd20 and20 cdd20 ctd20), sld20⟩)
    (c20 : PySem.W.codeIn K cdd20 "_law_rank" = true)
    (k20 : PySem.W.keepIn K (.ref f20) = true)
    (a21 : PySem.W.nsIn K mainGlobals "_law_is_finite" = some (some (.ref f21)))
    (l21 : K.lookup f21 = some ⟨ocd21, odd21, .func (PySem.W.fnOf "_law_is_finite" "_law_is_finite" (defArgs sFin) (defBody sFin) (defScope sFin) .none kVd21 dcd21 pmd21 and21 cdd21 ctd21), sld21⟩)
    (c21 : PySem.W.codeIn K cdd21 "_law_is_finite" = true)
    (k21 : PySem.W.keepIn K (.ref f21) = true)
    (a22 : PySem.W.nsIn K mainGlobals "_law_long" = some (some (.ref f22)))
    (l22 : K.lookup f22 = some ⟨ocd22, odd22, .func (PySem.W.fnOf "_law_long" "_law_long" (defArgs sLong) (defBody sLong) (defScope sLong) .none kVd22 dcd22 pmd22 and22 cdd22 ctd22), sld22⟩)
    (c22 : PySem.W.codeIn K cdd22 "_law_long" = true)
    (k22 : PySem.W.keepIn K (.ref f22) = true)
    (a23 : PySem.W.nsIn K mainGlobals "_law_parts" = some (some (.ref f23)))
    (l23 : K.lookup f23 = some ⟨ocd23, odd23, .func (PySem.W.fnOf "_law_parts" "_law_parts" (defArgs sParts) (defBody sParts) (defScope sParts) .none kVd23 dcd23 pmd23 and23 cdd23 ctd23), sld23⟩)
    (c23 : PySem.W.codeIn K cdd23 "_law_parts" = true)
    (k23 : PySem.W.keepIn K (.ref f23) = true)
    (a24 : PySem.W.nsIn K mainGlobals "_law_chain" = some (some (.ref f24)))
    (l24 : K.lookup f24 = some ⟨ocd24, odd24, .func (PySem.W.fnOf "_law_chain" "_law_chain" (defArgs sChain) (defBody sChain) (defScope sChain) .none kVd24 dcd24 pmd24 and24 cdd24 ctd24), sld24⟩)
    (c24 : PySem.W.codeIn K cdd24 "_law_chain" = true)
    (k24 : PySem.W.keepIn K (.ref f24) = true)
    (a25 : PySem.W.nsIn K mainGlobals "_law_long_right" = some (some (.ref f25)))
    (l25 : K.lookup f25 = some ⟨ocd25, odd25, .func (PySem.W.fnOf "_law_long_right" "_law_long_right" (defArgs sLongR) (defBody sLongR) (defScope sLongR) .none kVd25 dcd25 pmd25 and25 cdd25 ctd25), sld25⟩)
    (c25 : PySem.W.codeIn K cdd25 "_law_long_right" = true)
    (k25 : PySem.W.keepIn K (.ref f25) = true)
    (a26 : PySem.W.nsIn K mainGlobals "law" = some (some (.ref f26)))
    (l26 : K.lookup f26 = some ⟨ocd26, odd26, .func (PySem.W.fnOf "law" "law" (defArgs sLaw) (defBody sLaw) (defScope sLaw) .none kVd26 dcd26 pmd26 and26 cdd26 ctd26), sld26⟩)
    (c26 : PySem.W.codeIn K cdd26 "law" = true)
    (k26 : PySem.W.keepIn K (.ref f26) = true)
    (z0 : PySem.W.nsIn K mainGlobals "len" = some none)
    (z1 : PySem.W.nsIn K mainGlobals "int" = some none)
    (z2 : PySem.W.nsIn K mainGlobals "range" = some none)
    (z3 : PySem.W.nsIn K mainGlobals "tuple" = some none)
    (z4 : PySem.W.nsIn K mainGlobals "list" = some none)
    (z5 : PySem.W.nsIn K mainGlobals "all" = some none)
    (z6 : PySem.W.nsIn K mainGlobals "abs" = some none)
    (z7 : PySem.W.nsIn K mainGlobals "bool" = some none)
    (z8 : PySem.W.nsIn K mainGlobals "repr" = some none)
    (z9 : PySem.W.nsIn K mainGlobals "any" = some none)
    (z10 : PySem.W.nsIn K mainGlobals "enumerate" = some none)
    (z11 : PySem.W.nsIn K mainGlobals "max" = some none)
    (z12 : PySem.W.nsIn K mainGlobals "zip" = some none)
    (z13 : PySem.W.nsIn K mainGlobals "dict" = some none)
    (z14 : PySem.W.nsIn K mainGlobals "isinstance" = some none)
    (z15 : PySem.W.nsIn K mainGlobals "sum" = some none)
    (mgc : PySem.W.nsIn K mainGlobals "gcd" = some (some (.builtin "math.gcd"))) :
    ∃ fd : FuncData, (∀ (s : Shared) (v : Value), BindsTo s fd ⟨[v], []⟩ [("_law_script", v)]) ∧ ∀ base : Heap, K.In base → base.Ns mainGlobals mg → GRun l.prog w K mg base 7 fa fd ["_law_script"] (spLaw K) := by
  have e := hfa.symm.trans (PySem.W.mg_of inK atG a26)
  cases e
  have T : Mg mg := ⟨PySem.W.mg_none_of inK atG z0, PySem.W.mg_none_of inK atG z1, PySem.W.mg_none_of inK atG z2, PySem.W.mg_none_of inK atG z3, PySem.W.mg_none_of inK atG z4, PySem.W.mg_none_of inK atG z5, PySem.W.mg_none_of inK atG z6, PySem.W.mg_none_of inK atG z7, PySem.W.mg_none_of inK atG z8, PySem.W.mg_none_of inK atG z9, PySem.W.mg_none_of inK atG z10, PySem.W.mg_none_of inK atG z11, PySem.W.mg_none_of inK atG z12, PySem.W.mg_none_of inK atG z13, PySem.W.mg_none_of inK atG z14⟩
  have F0 := fun_mk (st := sReached) l0 c0 k0
  have b0 := F0.binds (ps := ["rows"]) fun _ _ _ _ _ _ us hl => match us, hl with | [_], _ => rfl
  have g0 := PySem.W.mg_of inK atG a0
  have F1 := fun_mk (st := sSources) l1 c1 k1
  have b1 := F1.binds (ps := ["letters", "rows", "order"]) fun _ _ _ _ _ _ us hl => match us, hl with | [_, _, _], _ => rfl
  have g1 := PySem.W.mg_of inK atG a1
  have F2 := fun_mk (st := sLeading) l2 c2 k2
  have b2 := F2.binds (ps := ["before", "goals", "many"]) fun _ _ _ _ _ _ us hl => match us, hl with | [_, _, _], _ => rfl
  have g2 := PySem.W.mg_of inK atG a2
  have F3 := fun_mk (st := sUseful) l3 c3 k3
  have b3 := F3.binds (ps := ["rows", "ends"]) fun _ _ _ _ _ _ us hl => match us, hl with | [_, _], _ => rfl
  have g3 := PySem.W.mg_of inK atG a3
  have F4 := fun_mk (st := sCount) l4 c4 k4
  have b4 := F4.binds (ps := ["machine", "length"]) fun _ _ _ _ _ _ us hl => match us, hl with | [_, _], _ => rfl
  have g4 := PySem.W.mg_of inK atG a4
  have F5 := fun_mk (st := sCounts) l5 c5 k5
  have b5 := F5.binds (ps := ["machine", "many"]) fun _ _ _ _ _ _ us hl => match us, hl with | [_, _], _ => rfl
  have g5 := PySem.W.mg_of inK atG a5
  have F6 := fun_mk (st := sOnward) l6 c6 k6
  have b6 := F6.binds (ps := ["rows", "ways"]) fun _ _ _ _ _ _ us hl => match us, hl with | [_, _], _ => rfl
  have g6 := PySem.W.mg_of inK atG a6
  have F7 := fun_mk (st := sSize) l7 c7 k7
  have b7 := F7.binds (ps := ["machine"]) fun _ _ _ _ _ _ us hl => match us, hl with | [_], _ => rfl
  have g7 := PySem.W.mg_of inK atG a7
  have F8 := fun_mk (st := sGoesOn) l8 c8 k8
  have b8 := F8.binds (ps := ["machine"]) fun _ _ _ _ _ _ us hl => match us, hl with | [_], _ => rfl
  have g8 := PySem.W.mg_of inK atG a8
  have F9 := fun_mk (st := sShort) l9 c9 k9
  have b9 := F9.binds (ps := ["numbers"]) fun _ _ _ _ _ _ us hl => match us, hl with | [_], _ => rfl
  have g9 := PySem.W.mg_of inK atG a9
  have F10 := fun_mk (st := sMend) l10 c10 k10
  have b10 := F10.binds (ps := ["rule", "missed", "older", "miss", "gap"]) fun _ _ _ _ _ _ us hl => match us, hl with | [_, _, _, _, _], _ => rfl
  have g10 := PySem.W.mg_of inK atG a10
  have F11 := fun_mk (st := sWithout) l11 c11 k11
  have b11 := F11.binds (ps := ["parts"]) fun _ _ _ _ _ _ us hl => match us, hl with | [_], _ => rfl
  have g11 := PySem.W.mg_of inK atG a11
  have F12 := fun_mk (st := sDeck) l12 c12 k12
  have b12 := F12.binds (ps := ["_law_script"]) fun _ _ _ _ _ _ us hl => match us, hl with | [_], _ => rfl
  have g12 := PySem.W.mg_of inK atG a12
  have F13 := fun_mk (st := sDraw) l13 c13 k13
  have b13 := F13.binds (ps := ["_law_deck_here", "_law_many"]) fun _ _ _ _ _ _ us hl => match us, hl with | [_, _], _ => rfl
  have g13 := PySem.W.mg_of inK atG a13
  have F14 := fun_mk (st := sOne) l14 c14 k14
  have b14 := F14.binds (ps := ["_law_deck_here", "_law_items"]) fun _ _ _ _ _ _ us hl => match us, hl with | [_, _], _ => rfl
  have g14 := PySem.W.mg_of inK atG a14
  have F15 := fun_mk (st := sMach) l15 c15 k15
  have b15 := F15.binds (ps := ["_law_deck_here", "_law_letters", "_law_most"]) fun _ _ _ _ _ _ us hl => match us, hl with | [_, _, _], _ => rfl
  have g15 := PySem.W.mg_of inK atG a15
  have F16 := fun_mk (st := sMet) l16 c16 k16
  have b16 := F16.binds (ps := ["_law_rows"]) fun _ _ _ _ _ _ us hl => match us, hl with | [_], _ => rfl
  have g16 := PySem.W.mg_of inK atG a16
  have F17 := fun_mk (st := sOpen) l17 c17 k17
  have b17 := F17.binds (ps := ["_law_rows", "_law_ends"]) fun _ _ _ _ _ _ us hl => match us, hl with | [_, _], _ => rfl
  have g17 := PySem.W.mg_of inK atG a17
  have F18 := fun_mk (st := sUsef) l18 c18 k18
  have b18 := F18.binds (ps := ["_law_machine_here"]) fun _ _ _ _ _ _ us hl => match us, hl with | [_], _ => rfl
  have g18 := PySem.W.mg_of inK atG a18
  have F19 := fun_mk (st := sCntL) l19 c19 k19
  have b19 := F19.binds (ps := ["_law_machine_here", "_law_length"]) fun _ _ _ _ _ _ us hl => match us, hl with | [_, _], _ => rfl
  have g19 := PySem.W.mg_of inK atG a19
  have F20 := fun_mk (st := sRank) l20 c20 k20
  have b20 := F20.binds (ps := ["_law_rows"]) fun _ _ _ _ _ _ us hl => match us, hl with | [_], _ => rfl
  have g20 := PySem.W.mg_of inK atG a20
  have F21 := fun_mk (st := sFin) l21 c21 k21
  have b21 := F21.binds (ps := ["_law_machine_here"]) fun _ _ _ _ _ _ us hl => match us, hl with | [_], _ => rfl
  have g21 := PySem.W.mg_of inK atG a21
  have F22 := fun_mk (st := sLong) l22 c22 k22
  have b22 := F22.binds (ps := ["_law_many", "_law_is_ring"]) fun _ _ _ _ _ _ us hl => match us, hl with | [_, _], _ => rfl
  have g22 := PySem.W.mg_of inK atG a22
  have F23 := fun_mk (st := sParts) l23 c23 k23
  have b23 := F23.binds (ps := ["_law_many"]) fun _ _ _ _ _ _ us hl => match us, hl with | [_], _ => rfl
  have g23 := PySem.W.mg_of inK atG a23
  have F24 := fun_mk (st := sChain) l24 c24 k24
  have b24 := F24.binds (ps := ["_law_many"]) fun _ _ _ _ _ _ us hl => match us, hl with | [_], _ => rfl
  have g24 := PySem.W.mg_of inK atG a24
  have F25 := fun_mk (st := sLongR) l25 c25 k25
  have b25 := F25.binds (ps := ["_law_deck_here"]) fun _ _ _ _ _ _ us hl => match us, hl with | [_], _ => rfl
  have g25 := PySem.W.mg_of inK atG a25
  have F26 := fun_mk (st := sLaw) l26 c26 k26
  refine ⟨PySem.W.fnOf "law" "law" (defArgs sLaw) (defBody sLaw) (defScope sLaw) .none kVd26 dcd26 pmd26 and26 cdd26 ctd26, fun s v => .of_eq rfl, fun base _ _ => ?_⟩
  have mGcd := PySem.W.mg_of inK atG mgc
  have mSum := PySem.W.mg_none_of inK atG z15
  have RE := ok_reached (P := l.prog) (w := w) (mg := mg) (base := base) F0  T
  have SO := ok_sources (P := l.prog) (w := w) (mg := mg) (base := base) F1  T
  have LD := ok_leading (P := l.prog) (w := w) (mg := mg) (base := base) F2  T
  have US := ok_useful F3 RE F0 b0 g0 SO F1 b1 g1 LD F2 b2 g2 T
  have ON := ok_onward (P := l.prog) (w := w) (mg := mg) (base := base) F6  T
  have CN := ok_counts F5 ON F6 b6 g6 T mSum
  have CO := ok_count F4 CN F5 b5 g5 T
  have SZ := ok_sizeG F7 US F3 b3 g3 ON F6 b6 g6 T mSum
  have MD := ok_mend (P := l.prog) (w := w) (mg := mg) (base := base) F10  T
  have WF := ok_without (P := l.prog) (w := w) (mg := mg) (base := base) F11  T mGcd
  have SH := ok_shortF F9 MD F10 b10 g10 WF F11 b11 g11 T mSum
  have GO := ok_goesOnF F8 CN F5 b5 g5 SH F9 b9 g9 T
  have DK := ok_deck (P := l.prog) (w := w) (mg := mg) (base := base) F12 T.abs
  have D := ok_draw (P := l.prog) (w := w) (mg := mg) (base := base) F13 T.len T.int
  have O := ok_one F14 D F13 b13 g13 T.len
  have MC := ok_mach F15 D F13 b13 g13 O F14 b14 g14 T
  have MT := ok_met (P := l.prog) (w := w) (mg := mg) (base := base) F16  T
  have OP := ok_open (P := l.prog) (w := w) (mg := mg) (base := base) F17  T
  have UF := ok_usef F18 OP F17 b17 g17 MT F16 b16 g16 T
  have CL := ok_cntL (P := l.prog) (w := w) (mg := mg) (base := base) F19  T mSum
  have RK := ok_rank (P := l.prog) (w := w) (mg := mg) (base := base) F20  T
  have FI := ok_fin F21 UF F18 b18 g18 T
  have LG := ok_long (P := l.prog) (w := w) (mg := mg) (base := base) F22  T
  have PT := ok_parts (P := l.prog) (w := w) (mg := mg) (base := base) F23  T
  have CH := ok_chain (P := l.prog) (w := w) (mg := mg) (base := base) F24  T
  have LR := ok_longR F25 D F13 b13 g13 O F14 b14 g14 LG F22 b22 g22 PT F23 b23 g23 CH F24 b24 g24 SZ F7 b7 g7 GO F8 b8 g8 CO F4 b4 g4 T
  exact ok_law F26 DK F12 b12 g12 D F13 b13 g13 MC F15 b15 g15 CL F19 b19 g19 RK F20 b20 g20 FI F21 b21 g21 LR F25 b25 g25 SZ F7 b7 g7 GO F8 b8 g8 CO F4 b4 g4 T mSum
end Ver
open PySem PySem.W PyProof.Rows in
set_option maxRecDepth 100000 in
set_option maxHeartbeats 0 in
theorem PySem.Challenge.cw_sortedshelves_k12_sizes_and_how_counts_g_holds : PySem.Challenge.rw_sortedshelves_k12_sizes_and_how_counts_g.Holds := by
  w_on; o_law; k_head; (case hw => w_witness2)
  k_fill
  refine Ver.gwalk (l := PySem.Challenge.rw_sortedshelves_k12_sizes_and_how_counts_g) (n := 63) (k := 7) (x := "_law_script") (sp := fun w => Ver.spLaw _) rfl (by decide) rfl ⟨rfl, by decide, by decide⟩ (fun w h Y => by first | exact PySem.W.kIn_of Y | exact PySem.W.km_in_of Y) ?F (fun _ _ a ns hl hS => ⟨a, ns, rfl, hS, hl, fun _ => rfl⟩)
  case F =>
    intro w mg fa h inK atG hmg
    refine' Ver.all_mk inK atG hmg ?a0 ?l0 ?c0 ?k0 ?a1 ?l1 ?c1 ?k1 ?a2 ?l2 ?c2 ?k2 ?a3 ?l3 ?c3 ?k3 ?a4 ?l4 ?c4 ?k4 ?a5 ?l5 ?c5 ?k5 ?a6 ?l6 ?c6 ?k6 ?a7 ?l7 ?c7 ?k7 ?a8 ?l8 ?c8 ?k8 ?a9 ?l9 ?c9 ?k9 ?a10 ?l10 ?c10 ?k10 ?a11 ?l11 ?c11 ?k11 ?a12 ?l12 ?c12 ?k12 ?a13 ?l13 ?c13 ?k13 ?a14 ?l14 ?c14 ?k14 ?a15 ?l15 ?c15 ?k15 ?a16 ?l16 ?c16 ?k16 ?a17 ?l17 ?c17 ?k17 ?a18 ?l18 ?c18 ?k18 ?a19 ?l19 ?c19 ?k19 ?a20 ?l20 ?c20 ?k20 ?a21 ?l21 ?c21 ?k21 ?a22 ?l22 ?c22 ?k22 ?a23 ?l23 ?c23 ?k23 ?a24 ?l24 ?c24 ?k24 ?a25 ?l25 ?c25 ?k25 ?a26 ?l26 ?c26 ?k26 ?z0 ?z1 ?z2 ?z3 ?z4 ?z5 ?z6 ?z7 ?z8 ?z9 ?z10 ?z11 ?z12 ?z13 ?z14 ?z15 ?mgc
    (case a0 => k_is)
    (case l0 => k_is)
    (case c0 => k_is)
    (case k0 => k_is)
    (case a1 => k_is)
    (case l1 => k_is)
    (case c1 => k_is)
    (case k1 => k_is)
    (case a2 => k_is)
    (case l2 => k_is)
    (case c2 => k_is)
    (case k2 => k_is)
    (case a3 => k_is)
    (case l3 => k_is)
    (case c3 => k_is)
    (case k3 => k_is)
    (case a4 => k_is)
    (case l4 => k_is)
    (case c4 => k_is)
    (case k4 => k_is)
    (case a5 => k_is)
    (case l5 => k_is)
    (case c5 => k_is)
    (case k5 => k_is)
    (case a6 => k_is)
    (case l6 => k_is)
    (case c6 => k_is)
    (case k6 => k_is)
    (case a7 => k_is)
    (case l7 => k_is)
    (case c7 => k_is)
    (case k7 => k_is)
    (case a8 => k_is)
    (case l8 => k_is)
    (case c8 => k_is)
    (case k8 => k_is)
    (case a9 => k_is)
    (case l9 => k_is)
    (case c9 => k_is)
    (case k9 => k_is)
    (case a10 => k_is)
    (case l10 => k_is)
    (case c10 => k_is)
    (case k10 => k_is)
    (case a11 => k_is)
    (case l11 => k_is)
    (case c11 => k_is)
    (case k11 => k_is)
    (case a12 => k_is)
    (case l12 => k_is)
    (case c12 => k_is)
    (case k12 => k_is)
    (case a13 => k_is)
    (case l13 => k_is)
    (case c13 => k_is)
    (case k13 => k_is)
    (case a14 => k_is)
    (case l14 => k_is)
    (case c14 => k_is)
    (case k14 => k_is)
    (case a15 => k_is)
    (case l15 => k_is)
    (case c15 => k_is)
    (case k15 => k_is)
    (case a16 => k_is)
    (case l16 => k_is)
    (case c16 => k_is)
    (case k16 => k_is)
    (case a17 => k_is)
    (case l17 => k_is)
    (case c17 => k_is)
    (case k17 => k_is)
    (case a18 => k_is)
    (case l18 => k_is)
    (case c18 => k_is)
    (case k18 => k_is)
    (case a19 => k_is)
    (case l19 => k_is)
    (case c19 => k_is)
    (case k19 => k_is)
    (case a20 => k_is)
    (case l20 => k_is)
    (case c20 => k_is)
    (case k20 => k_is)
    (case a21 => k_is)
    (case l21 => k_is)
    (case c21 => k_is)
    (case k21 => k_is)
    (case a22 => k_is)
    (case l22 => k_is)
    (case c22 => k_is)
    (case k22 => k_is)
    (case a23 => k_is)
    (case l23 => k_is)
    (case c23 => k_is)
    (case k23 => k_is)
    (case a24 => k_is)
    (case l24 => k_is)
    (case c24 => k_is)
    (case k24 => k_is)
    (case a25 => k_is)
    (case l25 => k_is)
    (case c25 => k_is)
    (case k25 => k_is)
    (case a26 => k_is)
    (case l26 => k_is)
    (case c26 => k_is)
    (case k26 => k_is)
    (case z0 => k_is)
    (case z1 => k_is)
    (case z2 => k_is)
    (case z3 => k_is)
    (case z4 => k_is)
    (case z5 => k_is)
    (case z6 => k_is)
    (case z7 => k_is)
    (case z8 => k_is)
    (case z9 => k_is)
    (case z10 => k_is)
    (case z11 => k_is)
    (case z12 => k_is)
    (case z13 => k_is)
    (case z14 => k_is)
    (case z15 => k_is)
    (case mgc => k_is)
#print axioms PySem.Challenge.cw_sortedshelves_k12_sizes_and_how_counts_g_holds
