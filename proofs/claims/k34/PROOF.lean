import PyProof.Rows.All
import Wide.All
import OpenK.AllK
import Wide.FinOn
import PyProof.ReprRoads
import PyProof.ReprLen
import HandS.ForMost
import HandS.Conv
import HandS.IsInst
import HandS.TupAny
import HandS.TupMul
import HandS.Wide
import HandS.Style
import HandS.Evl
import HandS.Strs
import HandS.Codes
import HandS.StrMore
import HandS.Replace
import PySem.Challenge.RW_sortedshelves_k34_lines_with_errors
import PyProof.TupleOfStr
import HandS.Strs
import HandS.NoneIn
import KE.GoesMore
import HandS.Walk
import HandS.Style
set_option Elab.async false
set_option linter.all false
set_option maxRecDepth 100000
set_option maxHeartbeats 4000000
namespace Ver
open PySem PySem.Spec PyProof.Rows L2
set_option pp.maxSteps 200
set_option pp.deepTerms false

/-! ### data as it lies in the heap, apart from the addresses in B -/
mutual
inductive Dt (B : Addr → Prop) (K : PySem.W.Frag) (H : Hp) : V → PyData → Prop
  | non : Dt B K H .non .none
  | bl (b : Bool) : Dt B K H (.bl b) (.bool b)
  | int (i : Int) : Dt B K H (.int i) (.int i)
  | str (x : Str) : Dt B K H (.str x) (.str x)
  | lst {a : Addr} {xs : List V} {ds : List PyData} (nb : ¬ B a) (ne : a ≠ sysModules) (hs : Rd H a (.lst xs)) (ha : DtAll B K H xs ds) : Dt B K H (.ref a) (.list ds)
  | tup {a : Addr} {xs : List V} {ds : List PyData} (nb : ¬ B a) (hs : Rd H a (.tup xs)) (ha : DtAll B K H xs ds) : Dt B K H (.ref a) (.tuple ds)
  | emp {a : Addr} (nb : ¬ B a) (h : H a = some (.dK [])) : Dt B K H (.ref a) (.dict [])
inductive DtAll (B : Addr → Prop) (K : PySem.W.Frag) (H : Hp) : List V → List PyData → Prop
  | nil : DtAll B K H [] []
  | cons {v : V} {vs : List V} {d : PyData} {ds : List PyData} (hd : Dt B K H v d) (tl : DtAll B K H vs ds) : DtAll B K H (v :: vs) (d :: ds)
end

/-- all that is tracked outside of B stays -/
def Keep (B : Addr → Prop) (H H' : Hp) : Prop := ∀ b o, ¬ B b → H b = some o → H' b = some o
theorem Keep.rfl' {B : Addr → Prop} {H : Hp} : Keep B H H := fun _ _ _ e => e
theorem Keep.trans {B : Addr → Prop} {H H1 H2 : Hp} (x : Keep B H H1) (y : Keep B H1 H2) : Keep B H H2 := fun b o n e => y b o n (x b o n e)
theorem Keep.same {B : Addr → Prop} {H H' : Hp} (x : Same H H') : Keep B H H' := fun b o _ e => x b o e
theorem keep_new {B : Addr → Prop} {H : Hp} {p : Addr} {o : HO} (n : H p = none) : Keep B H (upd H p o) := fun b u _ e => by
  rw [upd_ne (ne_of_none e n)]
  exact e
theorem same_new {H : Hp} {p : Addr} {o : HO} (n : H p = none) : Same H (upd H p o) := fun b u e => by
  rw [upd_ne (ne_of_none e n)]
  exact e
theorem Keep.rd {B : Addr → Prop} {H H' : Hp} {a : Addr} {o : HO} (k : Keep B H H') (nb : ¬ B a) (h : Rd H a o) : Rd H' a o := by
  rcases h with h | ⟨u, h⟩
  · exact .inl (k _ _ nb h)
  · exact .inr ⟨u, k _ _ nb h⟩
theorem Keep.seqL {B : Addr → Prop} {K : PySem.W.Frag} {H H' : Hp} {a : Addr} {xs : List V} (k : Keep B H H') (nb : ¬ B a) (h : SqL K H a xs) : SqL K H' a xs := by
  rcases h with (h | ⟨o, h⟩) | h
  · exact .inl (.inl (k _ _ nb h))
  · exact .inl (.inr ⟨o, k _ _ nb h⟩)
  · exact .inr h
theorem Keep.seqT {B : Addr → Prop} {K : PySem.W.Frag} {H H' : Hp} {a : Addr} {xs : List V} (k : Keep B H H') (nb : ¬ B a) (h : SqT K H a xs) : SqT K H' a xs := by
  rcases h with (h | ⟨o, h⟩) | h
  · exact .inl (.inl (k _ _ nb h))
  · exact .inl (.inr ⟨o, k _ _ nb h⟩)
  · exact .inr h
mutual
theorem Dt.keep {B : Addr → Prop} {K : PySem.W.Frag} {H H' : Hp} (k : Keep B H H') : ∀ (d : PyData) (v : V), Dt B K H v d → Dt B K H' v d
  | .none, _, h => by cases h; exact .non
  | .bool _, _, h => by cases h; exact .bl _
  | .int _, _, h => by cases h; exact .int _
  | .str _, _, h => by cases h; exact .str _
  | .list ds, _, h => by
    cases h with
    | lst nb ne hs ha => exact .lst nb ne (k.rd nb hs) (DtAll.keep k ds _ ha)
  | .tuple ds, _, h => by
    cases h with
    | tup nb hs ha => exact .tup nb (k.rd nb hs) (DtAll.keep k ds _ ha)
  | .dict _, _, h => by
    cases h with
    | emp nb e => exact .emp nb (k _ _ nb e)
theorem DtAll.keep {B : Addr → Prop} {K : PySem.W.Frag} {H H' : Hp} (k : Keep B H H') : ∀ (ds : List PyData) (vs : List V), DtAll B K H vs ds → DtAll B K H' vs ds
  | [], _, h => by cases h; exact .nil
  | d :: ds, _, h => by
    cases h with
    | cons h1 h2 => exact .cons (Dt.keep k d _ h1) (DtAll.keep k ds _ h2)
end
theorem DtAll.len {B : Addr → Prop} {K : PySem.W.Frag} {H : Hp} : ∀ {vs : List V} {ds : List PyData}, DtAll B K H vs ds → vs.length = ds.length
  | _, _, .nil => rfl
  | _, _, .cons _ t => congrArg (· + 1) (DtAll.len t)
theorem DtAll.append {B : Addr → Prop} {K : PySem.W.Frag} {H : Hp} : ∀ {vs ws : List V} {ds es : List PyData}, DtAll B K H vs ds → DtAll B K H ws es → DtAll B K H (vs ++ ws) (ds ++ es)
  | _, _, _, _, .nil, q => q
  | _, _, _, _, .cons r t, q => .cons r (DtAll.append t q)
theorem DtAll.take {B : Addr → Prop} {K : PySem.W.Frag} {H : Hp} : ∀ {vs : List V} {ds : List PyData} (n : Nat), DtAll B K H vs ds → DtAll B K H (vs.take n) (ds.take n)
  | _, _, 0, _ => .nil
  | _, _, _ + 1, .nil => .nil
  | _, _, n + 1, .cons r t => .cons r (DtAll.take n t)
theorem DtAll.drop {B : Addr → Prop} {K : PySem.W.Frag} {H : Hp} : ∀ {vs : List V} {ds : List PyData} (n : Nat), DtAll B K H vs ds → DtAll B K H (vs.drop n) (ds.drop n)
  | _, _, 0, h => h
  | _, _, _ + 1, .nil => .nil
  | _, _, n + 1, .cons _ t => DtAll.drop n t
theorem DtAll.get {B : Addr → Prop} {K : PySem.W.Frag} {H : Hp} : ∀ {vs : List V} {ds : List PyData} {i : Nat} {d : PyData}, DtAll B K H vs ds → ds[i]? = some d → ∃ v, vs[i]? = some v ∧ Dt B K H v d
  | _, _, _, _, .nil, e => by simp at e
  | _, _, 0, _, .cons r _, e => by
    simp at e
    subst e
    exact ⟨_, rfl, r⟩
  | _, _, i + 1, _, .cons _ t, e => by
    obtain ⟨v, h1, h2⟩ := DtAll.get (i := i) t (by simpa using e)
    exact ⟨v, by simpa using h1, h2⟩
theorem DtAll.getV {B : Addr → Prop} {K : PySem.W.Frag} {H : Hp} : ∀ {vs : List V} {ds : List PyData} {i : Nat} {v : V}, DtAll B K H vs ds → vs[i]? = some v → ∃ d, ds[i]? = some d ∧ Dt B K H v d
  | _, _, _, _, .nil, e => by simp at e
  | _, _, 0, _, .cons r _, e => by
    simp at e
    subst e
    exact ⟨_, rfl, r⟩
  | _, _, i + 1, _, .cons _ t, e => by
    obtain ⟨v, h1, h2⟩ := DtAll.getV (i := i) t (by simpa using e)
    exact ⟨v, by simpa using h1, h2⟩
theorem DtAll.rev {B : Addr → Prop} {K : PySem.W.Frag} {H : Hp} : ∀ {vs : List V} {ds : List PyData}, DtAll B K H vs ds → DtAll B K H vs.reverse ds.reverse
  | _, _, .nil => .nil
  | _, _, .cons r t => by
    rw [List.reverse_cons, List.reverse_cons]
    exact (DtAll.rev t).append (.cons r .nil)
theorem DtAll.rep {B : Addr → Prop} {K : PySem.W.Frag} {H : Hp} {v : V} {d : PyData} (h : Dt B K H v d) : ∀ n : Nat, DtAll B K H (List.replicate n v) (List.replicate n d)
  | 0 => .nil
  | n + 1 => .cons h (DtAll.rep h n)

section
variable {X : Cx} {pins : List (Addr × Obj)} {σ : L2.St} {H : Hp} {s : Shared}
theorem no_entries {knd : KeyKind X.prog X.w Key} {es : List DictEntry} (h : PySem.Pairs knd es ([] : List (Key × Value))) : es = [] := by
  cases h
  rfl
mutual
theorem Dt.reads {B : Addr → Prop} (I : Inv X pins σ H s) : ∀ (d : PyData) (v : V) (u : Value), Dt B X.K H v d → RelV v u → ∃ as, Reads s.heap u d as ∧ sysModules ∉ as
  | .none, _, _, h, r => by
    cases h
    cases r
    exact ⟨[], .none, List.not_mem_nil⟩
  | .bool b, _, _, h, r => by
    cases h
    cases r
    exact ⟨[], .bool b, List.not_mem_nil⟩
  | .int i, _, _, h, r => by
    cases h
    obtain ⟨t, rfl⟩ := r
    exact ⟨[], .int i t, List.not_mem_nil⟩
  | .str x, _, _, h, r => by
    cases h
    obtain ⟨t, rfl⟩ := r
    exact ⟨[], .str x t, List.not_mem_nil⟩
  | .list ds, _, _, h, r => by
    cases h with
    | lst nb ne hs ha =>
      cases r
      obtain ⟨its, rv, ⟨ob, n, ho, hc, _, hd⟩, _⟩ := I.list (.inl hs)
      obtain ⟨as, hr, hn⟩ := DtAll.reads I ds _ its ha rv
      refine ⟨_, .list ho hc hd hr, fun z => ?_⟩
      rcases List.mem_cons.mp z with z | z
      · exact ne z.symm
      · exact hn z
  | .tuple ds, _, _, h, r => by
    cases h with
    | tup nb hs ha =>
      cases r
      obtain ⟨its, rv, ⟨ob, ho, hc, n, hd⟩, _⟩ := I.tuple (.inl hs)
      obtain ⟨as, hr, hn⟩ := DtAll.reads I ds _ its ha rv
      exact ⟨_, .tuple ho hc hd hr, hn⟩
  | .dict _, _, _, h, r => by
    cases h with
    | emp nb e =>
      cases r
      obtain ⟨_, hm, vs, rel, ob, es, ep, ho, hx, hd, _, hp, _⟩ := dk_of I.hok e
      cases rel
      have he := no_entries hp
      refine ⟨_, .dict (kvs := []) ho hx.1 hd (by rw [he]; exact .nil) (by rw [he]; exact .nil), fun z => ?_⟩
      rcases List.mem_cons.mp z with z | z
      · rw [← z] at hm
        simp at hm
      · simp at z
theorem DtAll.reads {B : Addr → Prop} (I : Inv X pins σ H s) : ∀ (ds : List PyData) (vs : List V) (us : List Value), DtAll B X.K H vs ds → Vals vs us → ∃ as, ReadsAll s.heap us ds as ∧ sysModules ∉ as
  | [], _, _, h, r => by
    cases h
    cases r
    exact ⟨[], .nil, List.not_mem_nil⟩
  | d :: ds, _, _, h, r => by
    cases h with
    | cons h1 h2 =>
      cases r with
      | cons r1 r2 =>
        obtain ⟨as, q1, n1⟩ := Dt.reads I d _ _ h1 r1
        obtain ⟨bs, q2, n2⟩ := DtAll.reads I ds _ _ h2 r2
        refine ⟨_, .cons q1 q2, fun z => ?_⟩
        rcases List.mem_append.mp z with z | z
        · exact n1 z
        · exact n2 z
end
end

/-! ### repr -/
section
variable {X : Cx}
def rRepr (K : PySem.W.Frag) : List V → Hp → VK → Prop := fun xs H Q => ∃ (x : V) (d : PyData) (B : Addr → Prop), xs = [x] ∧ Dt B K H x d ∧ d.showable = true ∧ d.depth ≤ 60 ∧ d.shown.length ≤ sizeLine ∧ Q (.str d.shown) H
theorem call_reprD (hG : X.A.guards = some []) (hu : X.A.units + 64 < cLine) : CallR X (.builtin "repr") (rRepr X.K) := by
  intro pins s σ H xs us Q I r h
  obtain ⟨x, d, B, rfl, hd, hs, hdp, hz, q⟩ := h
  obtain ⟨u, rfl, rx⟩ := vals1 r
  obtain ⟨as, rd, hn⟩ := Dt.reads I d x u hd rx
  cases hd with
  | non =>
    cases rx
    exact PySem.P.repr_of_none ⟨.str _, H, I.tok _, ⟨_, rfl⟩, q⟩
  | bl b =>
    cases rx
    exact PySem.P.repr_of_bool ⟨.str _, H, I.tok _, ⟨_, rfl⟩, q⟩
  | int i =>
    obtain ⟨t, rfl⟩ := rx
    exact PySem.P.repr_of_int (by simpa [PyData.showable] using hs) ⟨.str _, H, I.tok _, ⟨_, rfl⟩, q⟩
  | str y =>
    obtain ⟨t, rfl⟩ := rx
    exact PySem.P.repr_of_str ⟨.str _, H, I.tok _, ⟨_, rfl⟩, q⟩ (by simpa only [PyData.shown] using hz)
  | lst nb ne hs' ha =>
    cases rx
    exact repr_of_reads' rd hs (fun _ => hn) hG (by omega) (fun _ _ e => e) (fun h' u tk hk => ⟨.str _, H, I.kept hk, ⟨_, rfl⟩, q⟩) hz
  | tup nb hs' ha =>
    cases rx
    exact repr_of_reads' rd hs (fun _ => hn) hG (by omega) (fun _ _ e => e) (fun h' u tk hk => ⟨.str _, H, I.kept hk, ⟨_, rfl⟩, q⟩) hz
  | emp nb e =>
    cases rx
    exact repr_of_reads' rd hs (fun _ => hn) hG (by omega) (fun _ _ e => e) (fun h' u tk hk => ⟨.str _, H, I.kept hk, ⟨_, rfl⟩, q⟩) hz
end

/-! ### a def called where nothing is being shown (no repr under way) -/
section
variable {P : Program} {w : World} {K : PySem.W.Frag} {mg : Str → Option Value} {base : Heap}
def GRun (P : Program) (w : World) (K : PySem.W.Frag) (mg : Str → Option Value) (base : Heap) (k : Nat) (f : Addr) (fd : FuncData) (ps : List Str) (sp : Sp) : Prop :=
  ∀ (A : Around) (outer : List Env) (s : Shared) (H : Hp) (us : List Value) (vs : List V) (Q : VK),
    A.guards = some [] → Room k A → Env0 P w K mg base A outer s H → BindsTo s fd ⟨us, []⟩ (ps.zip us) → Vals vs us → vs.length = ps.length → sp vs H Q E0 →
    codeAny (model P w) A (.call (.ref f) ⟨us, []⟩) (CR CX0 outer P w H s Q E0) s
theorem grun {x qual : Str} {st : Stmt} {f : Addr} {fd : FuncData} {N ps : List Str} {k : Nat} {sp : Sp} (F : Fun K x qual st f fd) (S : FnScope N ps (defScope st))
    (body : ∀ (cdv : Value) (A : Around) (outer : List Env) (s : Shared) (H : Hp) (vs : List V) (Q : VK), A.guards = some [] → Room k (A.deeper (envOfC qual (defScope st) s.heap.objs.size f cdv)) → sp vs H Q E0 →
      ∃ t, PSs (cxOf CX0 P w K mg base N qual (defScope st) f cdv A outer s H E0).nox (defBody st) t ∧ t { nx := fun _ H' => Q .non H', rt := Q } (start N vs) H) :
    GRun P w K mg base (k + 1) f fd ps sp := by
  obtain ⟨oc, od, kV, doc, pm, an, cdv, ct, osl, rfl, lk, hcd⟩ := F.ex
  intro A outer s H us vs Q hG hr e0 hb r hl hsp
  have inK : K.In s.heap := e0.mod.kin.keeps (fun b o q => (e0.bs b o q).1)
  have noL : s.heap.NoLimit := e0.mod.nolimit.keeps (fun b o q => (e0.bs b o q).1)
  have kinds : ∀ y ∈ ps.zip us, (defScope st).names.lookup y.1 = some .local ∨ ((defScope st).names.lookup y.1 = some .cell ∧ ((cellsFrom (s.heap.objs.size + 1) (defScope st).names []).lookup y.1).isSome = true) := by
    intro y hy
    obtain ⟨n, v⟩ := y
    cases S.par n (List.of_mem_zip hy).1 with
    | inl q => exact Or.inl q
    | inr q => exact Or.inr ⟨q, PySem.W.cellsFrom_some _ _ _ (Or.inl q)⟩
  refine codeAny_call_function hr.depth (inK _ _ lk) rfl S.co S.gen rfl (PySem.W.codeRec_of inK hcd) (hb _ _ _ _ ?_)
  refine wpAny_newFunctionEnv_cells S.kind kinds (fun env he s1 x => ?_)
  cases he
  obtain ⟨t, ht, hq⟩ := body cdv A outer s H vs Q hG (hr.deeper _) hsp
  have J := inv_start (CX := CX0) (mg := mg) (E := E0) S hr.hd e0 hl r x
  refine ⟨noL.keeps x.toInCall.keep, codeAny_func (wpAny_mono (ht.nox.run [] s1 (start N vs) H _ J hq) ?_ (fun e s' z => z))⟩
  intro fl s' z
  cases fl with
  | next =>
    obtain ⟨_, H', J', q⟩ := z
    exact ⟨.non, H', J'.os, J'.bare, J'.base, J'.hok, rfl, q⟩
  | ret u =>
    obtain ⟨v, _, H', J', rv, q⟩ := z
    exact ⟨v, H', J'.os, J'.bare, J'.base, J'.hok, rv, q⟩
  | brk => exact (z.choose_spec.choose_spec.2).elim
  | cont => exact (z.choose_spec.choose_spec.2).elim

/-- called from outside with the object at a, the def at fa answers True and leaves what stood -/
abbrev TrueAt (P : Program) (w : World) (fa a : Addr) (t : Shared) : Prop :=
  codeAny (model P w) callerA (.call (.ref fa) ⟨[.ref a], []⟩)
    (fun r u => r = .ok (.ret (.bool true)) ∧
      OldK t.heap u.heap ∧ u.os = t.os ∧ AllBare u.gens) t
/-- nothing but one list of ints, known, is tracked -/
theorem gcall {k : Nat} {fa a : Addr} {fd : FuncData} {x : Str} {sp : Sp} {s₁ : Shared} {mb : Str → Option Value} {H : Hp}
    (inH : K.In s₁.heap) (atG : s₁.heap.Ns mainGlobals mg) (hb : s₁.heap.Ns builtinsNs mb) (bB : ∀ x : Str, x ≠ "__name__" → mb x = bootBuiltins x) (lim : s₁.heap.NoLimit) (hg : s₁.gens = #[])
    (hr : Room k callerA) (R : ∀ base : Heap, K.In base → base.Ns mainGlobals mg → GRun P w K mg base k fa fd [x] sp) (bind : ∀ (s : Shared) (u : Value), BindsTo s fd ⟨[u], []⟩ [(x, u)])
    (hok : HOk P w H s₁.heap) (only : ∀ b o, H b = some o → b = a ∧ (∃ ob xs, o = .frz ob (.lst xs) ∧ ∀ es ep, ob.data ≠ .dict es ep) ∧ K.lookup a = none)
    (hsp : sp [.ref a] H (fun v _ => v = .bl true) E0) :
    TrueAt P w fa a s₁ := by
  have plain : ∀ {b : Addr} {o : Obj} {es : Array DictEntry} {ep : Nat}, s₁.heap.get? b = some o → o.data = .dict es ep → H b = none := by
    intro b o es ep q d
    cases z : H b with
    | none => rfl
    | some u =>
      obtain ⟨_, ⟨ob, xs, rfl, nd⟩, _⟩ := only b u z
      obtain ⟨q2, _⟩ := hok b _ z
      rw [q] at q2
      cases q2
      exact absurd d (nd es ep)
  have nsB : ∀ {b : Addr} {m : Str → Option Value}, s₁.heap.Ns b m → (hidT s₁.heap H).Ns b m := by
    rintro b m ⟨o, es, ep, q, d, r⟩
    exact ⟨o, es, ep, hidT_get q (plain q d), d, r⟩
  have kB : K.In (hidT s₁.heap H) := by
    intro b o q
    refine hidT_get (inH b o q) ?_
    cases z : H b with
    | none => rfl
    | some u =>
      obtain ⟨e, _, n⟩ := only b u z
      rw [e, n] at q
      cases q
  have md : L2.Mod K mg (hidT s₁.heap H) := by
    obtain ⟨mc, l1, l2⟩ := lim
    exact ⟨kB, nsB atG, ⟨mb, nsB hb, bB⟩, ⟨mc, nsB l1, l2⟩⟩
  have env : Env0 P w K mg (hidT s₁.heap H) callerA [] s₁ H :=
    { frames := rfl, mod := md, bs := fun b o q => of_hidT q, bsz := Nat.le_of_eq (hidT_size _ _), funs := trivial, frf := fun b z => absurd z List.not_mem_nil, hok := hok, bare := .of_eq hg }
  have run := R _ kB (nsB atG) callerA [] s₁ H [.ref a] [.ref a] _ rfl hr env (bind s₁ (.ref a)) (.cons rfl .nil) rfl hsp
  refine codeAny_mono run (fun r s' z => ?_)
  match r, z with
  | .error _, z => exact z.elim
  | .ok .next, z => exact z.elim
  | .ok .brk, z => exact z.elim
  | .ok .cont, z => exact z.elim
  | .ok (.ret u), ⟨v, H', os, bare, un, hok', rv, q⟩ =>
    have q : v = .bl true := q
    cases q
    have rv : u = Value.bool true := rv
    cases rv
    refine ⟨rfl, .of_keep (fun b o e => ?_), os, bare⟩
    cases z : H b with
    | none => exact un.keep b o e z List.not_mem_nil List.not_mem_nil
    | some u =>
      obtain ⟨_, ⟨ob, xs, rfl, _⟩, _⟩ := only b u z
      have g1 := (hok b _ z).1
      have g2 := (hok' b _ (un.frzs b ob _ z)).1
      rw [e] at g1
      cases g1
      exact g2
/-- the law's call, the script tracked or written -/
theorem glaw {k : Nat} {fa a : Addr} {fd : FuncData} {x : Str} {sp : Sp} {s₁ : Shared} {mb : Str → Option Value} {vs : List Value} {ns : List Int}
    (inH : K.In s₁.heap) (atG : s₁.heap.Ns mainGlobals mg) (hb : s₁.heap.Ns builtinsNs mb) (bB : ∀ x : Str, x ≠ "__name__" → mb x = bootBuiltins x) (lim : s₁.heap.NoLimit) (hg : s₁.gens = #[])
    (ha : s₁.heap.get? a = some { cls := .type "list", data := .seq vs.toArray }) (hi : IntsAre vs ns) (hl : ns.length ≤ sizeLine)
    (hr : Room k callerA) (R : ∀ base : Heap, K.In base → base.Ns mainGlobals mg → GRun P w K mg base k fa fd [x] sp) (bind : ∀ (s : Shared) (u : Value), BindsTo s fd ⟨[u], []⟩ [(x, u)])
    (hsp : ∀ H : Hp, SqL K H a (ns.map V.int) → sp [.ref a] H (fun v _ => v = .bl true) E0) :
    TrueAt P w fa a s₁ := by
  have rv := vals_ints hi
  cases q : K.lookup a with
  | some o =>
    have e := (inH a o q).symm.trans ha
    cases e
    refine gcall (H := fun _ => none) inH atG hb bB lim hg hr R bind (fun b u z => by cases z) (fun b u z => by cases z) (hsp _ (.inr ⟨_, vs.toArray, _, q, rfl, rfl, rfl, ?_, by simpa using rv⟩))
    rw [List.size_toArray, hi.length]
    exact hl
  | none =>
    have tr : ∀ b u, upd (fun _ => none) a (.frz { cls := .type "list", data := .seq vs.toArray } (.lst (ns.map V.int))) b = some u → b = a ∧ u = .frz { cls := .type "list", data := .seq vs.toArray } (.lst (ns.map V.int)) := by
      intro b u z
      by_cases h : b = a
      · rw [h, upd_same] at z
        exact ⟨h, (Option.some.inj z).symm⟩
      · rw [upd_ne h] at z
        cases z
    refine gcall (H := upd (fun _ => none) a (.frz { cls := .type "list", data := .seq vs.toArray } (.lst (ns.map V.int)))) inH atG hb bB lim hg hr R bind (fun b u z => ?_) (fun b u z => ?_) (hsp _ (.inl (.inr ⟨_, upd_same⟩)))
    · obtain ⟨rfl, rfl⟩ := tr b u z
      exact ⟨ha, by rw [List.length_map]; exact hl, vs, _, rv, ha⟩
    · obtain ⟨rfl, rfl⟩ := tr b u z
      exact ⟨rfl, ⟨_, _, rfl, fun es ep d => by cases d⟩, q⟩
end
/-- the end of the row's proof -/
theorem gwalk {l : PySem.W.OpenLaw} {n k : Nat} {q : Program} {loose : List Str} {XP : (Str → Option Value) → Heap → Prop} {YP : World → Heap → Prop} {d : DefRec} {K : Params → PySem.W.Frag} {sp : World → Sp} {x : Str}
    (hn : l.most = some n) (hn2 : n ≤ sizeLine) (hdf : d.params.defaults = []) (hr : Room k callerA) (hY : ∀ (w : World) (h : Heap), YP w h → (K w.params).In h)
    (F : ∀ (w : World) (mg : Str → Option Value) (fa : Addr) (h : Heap), (K w.params).In h → h.Ns mainGlobals mg → mg d.name = some (.ref fa) →
      ∃ fd : FuncData, (∀ (s : Shared) (u : Value), BindsTo s fd ⟨[u], []⟩ [(x, u)]) ∧ ∀ base : Heap, (K w.params).In base → base.Ns mainGlobals mg → GRun l.prog w (K w.params) mg base k fa fd [x] (sp w))
    (hsp : ∀ (w : World) (H : Hp) (a : Addr) (ns : List Int), ns.length ≤ n → SqL (K w.params) H a (ns.map V.int) → sp w [.ref a] H (fun v _ => v = .bl true) E0) :
    PySem.W.WalkO q loose XP YP l.row.toRowW d [] (fun f vs => PySem.call f vs) := by
  refine Att.attach_call hn hdf (fun w s₀ s₁ mg mb fa o pm cd doc a vs ns G Y _ _ _ hmg hobj hints hlen hg => ?_)
  have inK := hY w _ Y
  obtain ⟨fd, bind, R⟩ := F w mg fa _ inK G.T.g hmg
  exact glaw inK G.T.g G.T.b G.T.builtins G.T.nolimit hg hobj hints (Nat.le_trans hlen hn2) hr R bind (fun H hS => hsp w H a ns hlen hS)
theorem adjust_rev (n : Nat) : Builtin.Slice.sliceAdjust none none (-1) (n : Int) = ((n : Int) - 1, -1) := by
  unfold Builtin.Slice.sliceAdjust
  rfl
theorem places_rev (n : Nat) : Builtin.Slice.slicePlaces ((n : Int) - 1) (-1) (-1) = n := by
  unfold Builtin.Slice.slicePlaces
  rw [if_neg (by decide)]
  by_cases h : (n : Int) - 1 > -1
  · rw [if_pos h, show (- -1 : Int) = 1 by decide, Int.ediv_one]
    omega
  · rw [if_neg h]
    omega
theorem pick_rev (xs : List Value) : ((List.range xs.length).filterMap fun (k : Nat) => xs.toArray[((xs.length : Int) - 1 + (k : Int) * -1).toNat]?) = xs.reverse := by
  have e1 : (fun (k : Nat) => xs.toArray[((xs.length : Int) - 1 + (k : Int) * -1).toNat]?) = (fun j => xs.toArray[j]?) ∘ fun k => xs.length - 1 - k := by
    funext k
    show xs.toArray[((xs.length : Int) - 1 + (k : Int) * -1).toNat]? = xs.toArray[xs.length - 1 - k]?
    congr 1
    omega
  rw [e1, ← List.filterMap_map, PySem.W.krv_range, List.filterMap_reverse]
  have e2 := PySem.W.krv_all xs.toArray
  rw [List.size_toArray] at e2
  rw [e2]
section
variable {prog : Program} {w : World} {A : Around} {E : Value → Shared → Prop} {s : Shared}
theorem appliedR {sl : Addr} {vs : Value} {n : Nat} {Q : Int × Int × Nat → Shared → Prop} (hs : s.heap.IsSliceOf sl .none .none vs) (ps : IsPart vs (some (-1))) (h : Q ((n : Int) - 1, -1, n) s) :
    wpAny (model prog w) A (Builtin.Slice.sliceApplied (.ref sl) (pure (n : Int))) Q E s := by
  obtain ⟨os, hos, hcs, hds⟩ := hs
  unfold Builtin.Slice.sliceApplied Builtin.Slice.sliceFields
  have f3 : wpAny (model prog w) A (Builtin.Slice.slicePartIndex vs) (fun o s' => o = some (-1) ∧ s' = s) E s := HT.slicePart_ ps ⟨rfl, rfl⟩
  refine wpAny_bind (wpAny_bind (wpAny_field hos hds (x := .none) rfl (wpAny_bind (wpAny_field hos hds (x := .none) rfl (wpAny_bind (wpAny_field hos hds (x := vs) rfl (wpAny_pure ?_)))))))
  refine wpAny_bind (wpAny_mono f3 (fun o s' z => ?_) fun _ _ z => z)
  obtain ⟨rfl, rfl⟩ := z
  show wpAny _ _ (if ((-1 : Int) == 0) = true then _ else _) _ _ _
  rw [if_neg (by decide)]
  have h : Q ((n : Int) - 1, -1, Builtin.Slice.slicePlaces ((n : Int) - 1) (-1) (-1)) s' := by
    rw [places_rev]
    exact h
  exact wpAny_bind (slicePart_none (wpAny_bind (slicePart_none (wpAny_bind (wpAny_pure (wpAny_pure h))))))
theorem revR {t sl : Addr} {xs : List Value} {vs : Value} {Q : Value → Shared → Prop} (ht : IsTup s.heap t xs.toArray) (hz : xs.length ≤ sizeLine) (hs : s.heap.IsSliceOf sl .none .none vs) (ps : IsPart vs (some (-1)))
    (h : Q (.ref s.heap.objs.size) { s with heap := s.heap.push { cls := .type "tuple", data := .seq xs.reverse.toArray } }) : wpAny (model prog w) A (getItem (.ref t) (.ref sl)) Q E s := by
  have hTs : s.TypeIs (.ref sl) "slice" := by
    obtain ⟨os, hos, hcs, _⟩ := id hs
    exact ⟨os, hos, hcs⟩
  unfold getItem
  try with_reducible refine wpAny_holding ?_
  first | refine wpAny_bind (wpAny_pure ?_) | skip
  refine wpAny_bind (wpAny_sequenceKey ht.typeIs (by decide) (wpAny_bind (wpAny_callSpecial?_slot (name := Str.ofString "__getitem__") ht.typeIs PyProof.Rows.slot_tuple_getitem
    (wpAny_call_entry PyProof.Rows.slot_tuple_getitem ht.typeIs entry_tuple_getitem ?_ (args_tuple_getitem _ _)))))
  refine wpAny_bind (m := Builtin.Tuple.tupleItemsOf (.ref t)) (tupleItemsOf_ ht (wpAny_bind (wpAny_typeOf hTs ?_)))
  rw [if_pos (by decide)]
  have es : xs.toArray.size = xs.length := List.size_toArray
  rw [es]
  refine wpAny_bind (appliedR hs ps ?_)
  have hno : ¬ (((xs.length : Int) - 1 == 0 && (-1 : Int) == 1 && xs.length == xs.length) = true) := by
    rw [show ((-1 : Int) == 1) = false by decide, Bool.and_false, Bool.false_and]
    exact Bool.false_ne_true
  show wpAny _ _ (if ((xs.length : Int) - 1 == 0 && (-1 : Int) == 1 && xs.length == xs.length) = true then _ else _) _ _ s
  rw [if_neg hno, pick_rev]
  have okR : sizeOk (.seq xs.reverse.toArray) := by
    show xs.reverse.toArray.size ≤ sizeLine
    rw [List.size_toArray, List.length_reverse]
    exact hz
  first
    | exact wpAny_bind (m := Builtin.Tuple.tupleExact _) (wpAny_newObj_type (wpAny_pure ⟨_, rfl, wpAny_pure h⟩) okR)
    | exact wpAny_bind (wpAny_bind (m := Builtin.Tuple.tupleExact _) (wpAny_newObj_type (wpAny_pure (wpAny_pure ⟨_, rfl, wpAny_pure h⟩)) okR))
    | exact wpAny_bind (wpAny_bind (m := Builtin.Tuple.tupleExact _) (wpAny_newObj_type (wpAny_pure ⟨_, rfl, wpAny_pure h⟩) okR))
end
section
variable {X : Cx}
/-- t[::-1] of any tuple: a new one -/
def tRevR (te : TE) : TE := fun σ H Q => te σ H fun x H1 => ∃ a xs, x = .ref a ∧ Rd H1 a (.tup xs) ∧ ∀ p, H1 p = none → Q (.ref p) (upd H1 p (.tup xs.reverse))
theorem pe_revR {e : Expr} {te : TE} {k : Nat} {p1 p2 p3 pos : Pos} (he : PE X e te) :
    PE X (.Subscript e (.Slice none none (some (.UnaryOp .USub (.Constant (.int 1) k p1) p2)) p3) pos) (tRevR te) := by
  have part : PO X (some (.UnaryOp .USub (.Constant (.int 1) k p1) p2)) (tPart (tUn (rU fun i => .int (-i)) (tC (.int 1)))) := po_some (pe_un un_neg pe_int)
  refine ⟨fun pins s σ H Q I h => Subscript_ (thn (he.run pins s σ H _ I h) ?_)⟩
  rintro v s1 ⟨x, H1, I1, r1, a, xs, rfl, hx, q⟩
  cases r1
  refine wpAny_Slice (thn (po_none.run pins s1 σ H1 (fun o G => o = none ∧ G = H1) I1 ⟨rfl, rfl⟩) ?_)
  rintro vl s2 ⟨_, G2, J2, pl, rfl, rfl⟩
  refine thn (po_none.run pins s2 σ G2 (fun o G => o = none ∧ G = G2) J2 ⟨rfl, rfl⟩) ?_
  rintro vu s3 ⟨_, G3, J3, pu, rfl, rfl⟩
  refine thn (part.run pins s3 σ G3 (fun o G => o = some (-1) ∧ G = G3) J3 ⟨1, rfl, -1, rfl, rfl, rfl⟩) ?_
  rintro vs s4 ⟨_, G4, J4, ps, rfl, rfl⟩
  cases pl
  cases pu
  have J5 : Inv X pins σ G4 { s4 with heap := s4.heap.push { cls := .type "slice", data := .fields #[.none, .none, vs] } } := J4.kept (t' := s4.toks) fun b ob z => Heap.get?_push_of_some _ z
  obtain ⟨its, r, ht, hz⟩ := J5.tuple (.inl hx)
  have hl := r.length
  refine tail_any (ops := [.ref a, .ref s4.heap.objs.size]) ht.typeIs (PyProof.Rows.slot_tuple_getitem.lookup) ?_ (by with_unfolding_all rfl)
  refine revR ht (by omega) (Heap.IsSliceOf.new _ .none .none vs) ps ?_
  exact ⟨.ref _, _, J5.laid (t' := s4.toks) (o := .tup xs.reverse) (fun b ob z => Heap.get?_push_of_some _ z) (Nat.le_refl _) ⟨by rw [List.length_reverse]; exact hz, _, r.reverse, IsTup.new _ _⟩, rfl, q _ (J5.hok.fresh (Nat.le_refl _))⟩
end
/-! ### a list, a tuple beside an empty one -/
section
variable {X : Cx}
def rNilL (K : PySem.W.Frag) (g : Bool → Bool) : R2 := fun x y H Q => ∃ (l b : Addr) (xs : List V), x = .ref l ∧ y = .ref b ∧ SqL K H l xs ∧ SqL K H b [] ∧ Q (.bl (g (decide (xs = [])))) H
def rNilT (K : PySem.W.Frag) : R2 := fun x y H Q => ∃ (l b : Addr) (xs : List V), x = .ref l ∧ y = .ref b ∧ SqT K H l xs ∧ SqT K H b [] ∧ Q (.bl (decide (xs = []))) H
theorem op_eqNilL (hu : X.A.units < cLine) : OpR X (compareOp .Eq) (rNilL X.K id) := by
  intro pins s σ H x y v u Q I rx ry h
  obtain ⟨l, b, xs, rfl, rfl, hl, hb, q⟩ := h
  cases rx
  cases ry
  obtain ⟨its, rv, pl, _⟩ := I.list hl
  obtain ⟨its2, rv2, pl2, _⟩ := I.list hb
  cases rv2
  have hn := rv.length
  cases xs with
  | nil =>
    cases rv
    exact SeqAt.eq_listAt (e := fun _ => true) pl.isList pl2.isList rfl hu (fun j h1 _ => absurd h1 (Nat.not_lt_zero _)) ⟨.bl _, H, I, rfl, q⟩
  | cons z zs =>
    refine SeqAt.eq_list_lengthsAt pl.isList pl2.isList ?_ hu ⟨.bl _, H, I, rfl, q⟩
    rw [List.size_toArray, ← hn]
    rfl
theorem op_neNilL (hu : X.A.units < cLine) : OpR X (compareOp .NotEq) (rNilL X.K not) := by
  intro pins s σ H x y v u Q I rx ry h
  obtain ⟨l, b, xs, rfl, rfl, hl, hb, q⟩ := h
  cases rx
  cases ry
  obtain ⟨its, rv, pl, _⟩ := I.list hl
  obtain ⟨its2, rv2, pl2, _⟩ := I.list hb
  cases rv2
  have hn := rv.length
  cases xs with
  | nil =>
    cases rv
    exact SeqAt.RcNeAt.lists (e := fun _ => true) pl.isList pl2.isList rfl hu (fun j h1 _ => absurd h1 (Nat.not_lt_zero _)) _ _ _ _ ⟨.bl _, H, I, rfl, q⟩
  | cons z zs =>
    refine SeqAt.RcNeAt.lists_lengths pl.isList pl2.isList ?_ hu _ _ _ _ ⟨.bl _, H, I, rfl, q⟩
    rw [List.size_toArray, ← hn]
    rfl
theorem op_eqNilT (hu : X.A.units < cLine) : OpR X (compareOp .Eq) (rNilT X.K) := by
  intro pins s σ H x y v u Q I rx ry h
  obtain ⟨l, b, xs, rfl, rfl, hl, hb, q⟩ := h
  cases rx
  cases ry
  obtain ⟨its, rv, pl, _⟩ := I.tuple hl
  obtain ⟨its2, rv2, pl2, _⟩ := I.tuple hb
  cases rv2
  have hn := rv.length
  refine SeqAt.eq_tupleAt (e := fun _ => true) pl pl2 hu (fun j h1 h2 => absurd h2 (Nat.not_lt_zero _)) ⟨.bl _, H, I, ?_, q⟩
  cases xs with
  | nil =>
    cases rv
    rfl
  | cons z zs =>
    show Value.bool _ = Value.bool _
    congr 1
    rw [List.size_toArray, ← hn]
    rfl
end
section
variable {X : Cx} {pins : List (Addr × Obj)} {σ : L2.St} {H : Hp} {s : Shared} {prog : Program} {w : World} {A : Around} {E : Value → Shared → Prop}
theorem mul_one (l : Addr) (items : Array Value) (n : Nat) (dd : Option Addr) (sl : Array (Option Value)) (u : Tok) :
    Meets (Builtin.«tuple.__mul__» ⟨[.ref l, .int 1 u], []⟩) (fun _ R s => s.heap.get? l = some { cls := .type "tuple", dict := dd, data := .seq items n, slots := sl } ∧ R (.ok (.ret (Value.ref l))) s) :=
  .of_wp fun prog w A R s h => by
    obtain ⟨hp, g, d, tk, os⟩ := s
    obtain ⟨hl, h⟩ := h
    have f1 := AutoSeq1.idx_int
    wp_walk using wpAny_loadPart' hl
    exact ⟨_, rfl, h⟩
def rRep1 (K : PySem.W.Frag) : R2 := fun x y H Q => ∃ l xs, x = .ref l ∧ y = .int 1 ∧ SqT K H l xs ∧ Q (.ref l) H
theorem op_rep1 : OpR X (binaryOp .Mult) (rRep1 X.K) := by
  intro pins s σ H x y v u Q I rx ry h
  obtain ⟨l, xs, rfl, rfl, hT, q⟩ := h
  cases rx
  obtain ⟨t, rfl⟩ := ry
  obtain ⟨its, r, ⟨⟨cls, dd, data, sl⟩, ho, hc, n, hd⟩, _⟩ := I.tuple hT
  cases hc
  cases hd
  exact wpAny_binaryOp_repeat_ref (T := "tuple") (U := "int") (by decide) ⟨_, ho, rfl⟩ (fun s' => typeIs_int s' 1 t) noFill_tuple_mul F.fills_int_mul F.slot_int_rmul repeat_tuple F.slot_int_index.lookup
    (call_meets F.slot_int_rmul (typeIs_int s 1 t) F.entry_int_rmul (F.args_int_rmul_2 _ _) (int_rmul_tuple 1 t l its.toArray n dd sl)
      ⟨ho, rfl, ⟨_, ho, rfl⟩, call_meets F.slot_tuple_mul ⟨_, ho, rfl⟩ F.entry_tuple_mul (F.args_tuple_mul_2 _ _) (mul_one l its.toArray n dd sl t) ⟨ho, .ref l, H, I, rfl, q⟩⟩)
/-- t * k for a small k from 1 on -/
def rRepS (K : PySem.W.Frag) : R2 := fun x y H Q => ∃ l k xs, x = .ref l ∧ y = .int k ∧ Rd H l (.tup xs) ∧ xs ≠ [] ∧ 1 ≤ k ∧ k ≤ 1000 ∧ xs.length ≤ 1000 ∧ ∀ q H', Same H H' → Rd H' q (.tup (List.replicate k.toNat xs).flatten) → (q = l ∨ H q = none) → Q (.ref q) H'
theorem op_repS : OpR X (binaryOp .Mult) (rRepS X.K) := by
  intro pins s σ H x y v u Q I rx ry h
  obtain ⟨l, k, xs, rfl, rfl, hT, hne, k1, k2, hz, q⟩ := h
  by_cases e : k = 1
  · subst e
    refine op_rep1 pins s σ H _ _ v u Q I rx ry ⟨l, xs, rfl, rfl, .inl hT, q l H (Same.refl H) ?_ (.inl rfl)⟩
    rw [show (List.replicate (1 : Int).toNat xs).flatten = xs by simp]
    exact hT
  · exact op_repT pins s σ H _ _ v u Q I rx ry ⟨l, k, xs, rfl, rfl, .inl hT, hne, by omega, k2, hz, fun p hp => q p _ (same_new hp) (.inl upd_same) (.inr hp)⟩
end
/-! ### the text by places -/
def top (i : Nat) : Stmt := PySem.Challenge.pw_sortedshelves_k34_lines_with_errors.main.body.getD i (.Pass ⟨0, 0, 0, 0⟩)
abbrev sInteger : Stmt := top 8
abbrev sNumber : Stmt := top 9
abbrev sWord : Stmt := top 10
abbrev sUnit : Stmt := top 11
abbrev sLErr : Stmt := top 13
abbrev sStep : Stmt := top 14
abbrev sLetter : Stmt := top 15
abbrev sTurning : Stmt := top 16
abbrev sPutting : Stmt := top 17
abbrev sSwapping : Stmt := top 18
abbrev sDeck : Stmt := top 20
abbrev sDraw : Stmt := top 21
abbrev sOne : Stmt := top 22
abbrev sStepL : Stmt := top 23
abbrev sSwapL : Stmt := top 24
abbrev sLineL : Stmt := top 25
abbrev sOther : Stmt := top 29
abbrev sWhole : Stmt := top 30
abbrev sOfLet : Stmt := top 31
abbrev sAreRows : Stmt := top 32
abbrev sArePairs : Stmt := top 33
abbrev sIsStep : Stmt := top 34
abbrev sDue : Stmt := top 35
abbrev sLaw : Stmt := top 36
theorem scDeck : FnScope ["_law_script", "_law_cell"] ["_law_script"] (defScope sDeck) := ⟨rfl, rfl, rfl, by decide +kernel, rfl, by decide +kernel, by decide +kernel⟩
theorem scDraw : FnScope ["_law_deck_here", "_law_most", "_law_cell", "_law_at", "_law_mixed"] ["_law_deck_here", "_law_most"] (defScope sDraw) := ⟨rfl, rfl, rfl, by decide +kernel, rfl, by decide +kernel, by decide +kernel⟩
theorem scOne : FnScope ["_law_deck_here", "_law_items"] ["_law_deck_here", "_law_items"] (defScope sOne) := ⟨rfl, rfl, rfl, by decide +kernel, rfl, by decide +kernel, by decide +kernel⟩
def DeckAt (a c : Addr) (cells : List Int) (n : Int) (H : Hp) : Prop :=
  a ≠ c ∧ H a = some (.lst [.ref c, .int n]) ∧ H c = some (.lst (cells.map V.int)) ∧ cells.length ≤ 63 ∧ (∀ z ∈ cells, 0 ≤ z)
theorem cut_ints (ns : List Int) (lo hi : Option Int) : ∃ ms : List Int, cutV (ns.map V.int) lo hi = ms.map V.int ∧ ms.length ≤ ns.length := by
  unfold cutV
  refine ⟨(ns.drop (HT.sIx (ns.map V.int).length 0 lo)).take (HT.sIx (ns.map V.int).length (ns.map V.int).length hi - HT.sIx (ns.map V.int).length 0 lo), by rw [List.map_take, List.map_drop], ?_⟩
  rw [List.length_take, List.length_drop]
  omega
theorem int_at {ns : List Int} {i : Nat} {x : V} (h : (ns.map V.int)[i]? = some x) : ∃ u, x = V.int u := by
  rw [List.getElem?_map] at h
  obtain ⟨u, _, e⟩ := Option.map_eq_some_iff.mp h
  exact ⟨u, e.symm⟩
section
variable {P : Program} {w : World} {K : PySem.W.Frag} {mg : Str → Option Value} {base : Heap}
def spDeck (K : PySem.W.Frag) : Sp := fun vs H Q _ => ∃ (l : Addr) (ns : List Int), vs = [.ref l] ∧ SqL K H l (ns.map V.int) ∧ ns.length ≤ 63 ∧
  ∀ (H' : Hp) (a c : Addr) (cells : List Int), Same H H' → H a = none → H c = none → DeckAt a c cells 0 H' → Q (.ref a) H'
theorem ok_deck {f : Addr} {fd : FuncData} (F : Fun K "_law_deck" "_law_deck" sDeck f fd) (mAbs : mg "abs" = none) : FnOk P w K mg base CX0 1 f fd ["_law_script"] (spDeck K) := by
  refine F.ok scDeck (fun vs H Q E h => ?_) (fun cdv A outer s H vs Q E hr h => ?_)
  · obtain ⟨l, ns, rfl, _⟩ := h
    rfl
  · obtain ⟨l, ns, rfl, hS, hlen, k⟩ := h
    refine ⟨_, pss_one (ps_ret (pe_lst (pa_cons (pe_lc (own := [("_law_cell", 1)]) (g := gName 1) (tt := tYes) rfl scDeck.nd (pi_list (pe_slice sl_list (pv 0) po_none (po_some pe_int))) (blkOk_by (N := ["_law_script", "_law_cell"]) (sc := defScope sDeck) (by decide +kernel)) (fun _ _ _ _ _ => pg_name (i := 1) scDeck.nd rfl (Or.inl rfl)) (fun _ _ _ _ _ => pts_nil)
      (fun _ _ _ _ _ => pe_callB call_abs (by rfl) mAbs (by decide +kernel) (pa_cons (pv 1) pa_nil))) (pa_cons pe_int pa_nil)))), ?_⟩
    refine ⟨_, rfl, 63, rfl, l, _, rfl, hS, fun p hp => ?_⟩
    obtain ⟨ms, e, hm⟩ := cut_ints ns none (some 63)
    rw [e]
    refine ⟨p, rfl, ⟨_, SqL.of upd_same⟩, fun D hD => ?_⟩
    have np : p ≠ D := ne_of_none upd_same hD
    have hD0 : H D = none := by
      rw [upd_ne np.symm] at hD
      exact hD
    refine lc_list (K := K) (a := p) (xs := ms.map V.int) (fun i H' => Same H H' ∧ H' p = some (.lst (ms.map V.int)) ∧ ∃ cs : List Int, H' D = some (.lst (cs.map V.int)) ∧ cs.length = i ∧ ∀ z ∈ cs, 0 ≤ z) ⟨?_, ?_, [], upd_same, rfl, fun z hz => absurd hz List.not_mem_nil⟩ (fun i H' _ q => SqL.of q.2.1) ?_ ?_
    · exact (same_new hp).trans (same_new hD)
    · rw [upd_ne np, upd_same]
    · rintro i x H' hx ⟨sm, hp', cs, hD', hl, hc⟩
      obtain ⟨u, rfl⟩ := int_at hx
      refine ⟨rfl, ?_⟩
      refine ⟨_, rfl, u, rfl, _, hD', ?_, fun b o z => ?_, ?_, cs ++ [if u < 0 then -u else u], ?_, ?_, ?_⟩
      · have hi := (List.getElem?_eq_some_iff.mp hx).1
        rw [List.length_map] at hi ⊢
        exact small1000 (by omega)
      · rw [upd_ne (ne_of_none z hD0)]
        exact sm _ _ z
      · rw [upd_ne np]
        exact hp'
      · rw [upd_same, List.map_append]
        rfl
      · rw [List.length_append, hl]
        rfl
      · intro z hz
        rcases List.mem_append.mp hz with hz | hz
        · exact hc z hz
        · rw [List.mem_singleton.mp hz]
          split <;> omega
    · rintro H' ⟨sm, hp', cs, hD', hl, hc⟩
      rw [List.length_map] at hl
      refine ⟨(by show 2 ≤ sizeLine; decide), fun a ha => ?_⟩
      have na : D ≠ a := ne_of_none hD' ha
      have ha0 : H a = none := sm.free ha
      refine k _ a D cs (sm.trans (same_new ha)) ha0 hD0 ⟨na.symm, upd_same, ?_, by omega, hc⟩
      rw [upd_ne na]
      exact hD'
end
/-- the deck's two lists -/
def Bd (a c : Addr) : Addr → Prop := fun b => b = a ∨ b = c
theorem bd_ne {a c b : Addr} {H : Hp} {o : HO} (e : H b = some o) (nl : ∀ xs, o ≠ .lst xs) {xs ys : List V} (ha : H a = some (.lst xs)) (hc : H c = some (.lst ys)) : ¬ Bd a c b := by
  rintro (h | h)
  · rw [h, ha] at e
    exact nl _ (Option.some.inj e).symm
  · rw [h, hc] at e
    exact nl _ (Option.some.inj e).symm
theorem bd_new {a c p : Addr} {H : Hp} {xs ys : List V} (n : H p = none) (ha : H a = some (.lst xs)) (hc : H c = some (.lst ys)) : ¬ Bd a c p := by
  rintro (h | h)
  · rw [h, ha] at n
    cases n
  · rw [h, hc] at n
    cases n
theorem keep_upd {a c x : Addr} {H : Hp} {o : HO} (h : Bd a c x) : Keep (Bd a c) H (upd H x o) := fun b u n e => by
  rw [upd_ne (fun z : b = x => n (z.symm ▸ h))]
  exact e
section
variable {P : Program} {w : World} {K : PySem.W.Frag} {mg : Str → Option Value} {base : Heap}
def spDraw : Sp := fun vs H Q _ => ∃ (a c : Addr) (cells : List Int) (n m : Int), vs = [.ref a, .int m] ∧ DeckAt a c cells n H ∧ 1 ≤ m ∧ m ≤ 1000000 ∧ 0 ≤ n ∧ n ≤ 1000000 ∧
  ∀ (H' : Hp) (cells' : List Int) (r : Int), 0 ≤ r → r < m → DeckAt a c cells' (n + 1) H' → Keep (Bd a c) H H' → Q (.int r) H'
theorem ok_draw {f : Addr} {fd : FuncData} (F : Fun K "_law_draw" "_law_draw" sDraw f fd) (mLen : mg "len" = none) (mInt : mg "int" = none) : FnOk P w K mg base CX0 1 f fd ["_law_deck_here", "_law_most"] spDraw := by
  refine F.ok scDraw (fun vs H Q E h => ?_) (fun cdv A outer s H vs Q E hr h => ?_)
  · obtain ⟨a, c, cells, n, m, rfl, _⟩ := h
    rfl
  · obtain ⟨a, c, cells, n, m, rfl, ⟨nac, ha, hc, hlen, hpos⟩, m1, m2, n1, n2, k⟩ := h
    refine ⟨_, pss_cons (ps_asg (pe_op op_add (pe_ix ix_list (pv 0) pe_int (fun _ _ => rfl)) pe_int) (pg_sub (pv 0) pe_int set_list))
      (pss_cons (ps_asg (pe_tup (pa_cons pe_int (pa_cons (pe_un un_neg pe_int) pa_nil))) (pg_tup rfl (pgs_cons (pg_name (i := 2) scDraw.nd rfl (.inl rfl)) (pgs_cons (pg_name (i := 3) scDraw.nd rfl (.inl rfl)) pgs_nil))))
      (Evl.pss_cut (ps_if (pt_cmpR op_gt (pe_callB call_len_seq (by rfl) mLen PySem.boot_len (pa_cons (pe_ix ix_list (pv 0) pe_int (fun _ _ => rfl)) pa_nil)) pe_int (nomark _))
        (pss_cons (ps_set (i := 3) scDraw.nd rfl (.inl rfl) (pe_op op_mod (pe_callTy call_int1 (by rfl) mInt (by decide +kernel) (pa_cons (pe_ix ix_list (pv 0) pe_int (fun _ _ => rfl)) pa_nil)) (pe_callB call_len_seq (by rfl) mLen PySem.boot_len (pa_cons (pe_ix ix_list (pv 0) pe_int (fun _ _ => rfl)) pa_nil))))
        (pss_one (ps_set (i := 2) scDraw.nd rfl (.inl rfl) (pe_ix ix_list (pe_ix ix_list (pv 0) pe_int (fun _ _ => rfl)) (pv 3) (fun _ _ => rfl)))))
        pss_nil)
      (pss_cons (ps_if (pt_cmpR op_ge (pv 2) (pe_op op_pow pe_int pe_int) (nomark _))
        (pss_cons (ps_asg (pe_op op_fdivW (pe_callTy call_int1 (by rfl) mInt (by decide +kernel) (pa_cons (pv 2) pa_nil)) (pv 1)) (pg_sub (pe_ix ix_list (pv 0) pe_int (fun _ _ => rfl)) (pv 3) set_list))
          (pss_one (ps_ret (pe_op op_mod (pe_callTy call_int1 (by rfl) mInt (by decide +kernel) (pa_cons (pv 2) pa_nil)) (pv 1)))))
        pss_nil)
      (pss_cons (ps_set (i := 4) scDraw.nd rfl (.inl rfl) (pe_op op_add (pe_op op_add (pe_op op_mod (pe_callTy call_int1 (by rfl) mInt (by decide +kernel) (pa_cons (pv 2) pa_nil)) pe_int) (pe_op op_mul pe_int (pe_ix ix_list (pv 0) pe_int (fun _ _ => rfl)))) pe_int))
      (pss_one (ps_ret (pe_op op_mod (pe_callTy call_int1 (by rfl) mInt (by decide +kernel) (pa_cons (pe_op op_mod (pe_callTy call_int1 (by rfl) mInt (by decide +kernel) (pa_cons (pe_op op_pow (pv 4) pe_int) pa_nil)) pe_int) pa_nil)) (pv 1)))))))), ?_⟩
    refine ⟨.ref a, rfl, a, _, 1, _, rfl, rfl, SqL.of ha, atI_nat (j := 1) rfl, n, 1, rfl, rfl, .ref a, rfl, a, _, 1, 1, rfl, rfl, ha, rfl, ?_⟩
    have hA1 : upd H a (.lst [.ref c, .int (n + 1)]) a = some (.lst [.ref c, .int (n + 1)]) := upd_same
    have hC1 : upd H a (.lst [.ref c, .int (n + 1)]) c = some (.lst (cells.map V.int)) := by
      rw [upd_ne nac.symm]
      exact hc
    have k1 : Keep (Bd a c) H (upd H a (.lst [.ref c, .int (n + 1)])) := keep_upd (.inl rfl)
    refine ⟨1, rfl, (by show 2 ≤ sizeLine; decide), fun T hT => ?_⟩
    have k2 := k1.trans (keep_new (B := Bd a c) (o := .tup [.int 0, .int (-1)]) hT)
    have hA2 : upd (upd H a (.lst [.ref c, .int (n + 1)])) T (.tup [.int 0, .int (-1)]) a = some (.lst [.ref c, .int (n + 1)]) := by
      rw [upd_ne (ne_of_none hA1 hT)]
      exact hA1
    have hC2 : upd (upd H a (.lst [.ref c, .int (n + 1)])) T (.tup [.int 0, .int (-1)]) c = some (.lst (cells.map V.int)) := by
      rw [upd_ne (ne_of_none hC1 hT)]
      exact hC1
    have hT2 : upd (upd H a (.lst [.ref c, .int (n + 1)])) T (.tup [.int 0, .int (-1)]) T = some (.tup [.int 0, .int (-1)]) := upd_same
    refine ⟨T, _, rfl, SqT.of hT2, rfl, .int 0, [.int (-1)], rfl, .int (-1), [], rfl, rfl, ?_⟩
    refine ⟨fun σ' H' => ∃ cell at_ : Int, σ' = [some (.ref a), some (.int m), some (.int cell), some (.int at_), none] ∧ Keep (Bd a c) H H' ∧ H' a = some (.lst [.ref c, .int (n + 1)]) ∧ H' c = some (.lst (cells.map V.int)) ∧ 0 ≤ cell ∧ (10 ^ 18 ≤ cell → ∃ j : Nat, j < cells.length ∧ at_ = (j : Int)), ?_, ?_⟩
    · refine ⟨.ref a, rfl, a, _, 0, .ref c, rfl, rfl, SqL.of hA2, atI_nat (j := 0) rfl, c, _, rfl, .inl (SqL.of hC2), _, _, rfl, rfl, _, rfl, ite2 (fun h0 => ?_) (fun h0 => ?_)⟩
      · have h0 := of_decide_eq_true h0
        rw [List.length_map] at h0
        obtain ⟨j, hj, ej⟩ : ∃ j : Nat, j < cells.length ∧ (n + 1) % ((cells.map V.int).length : Int) = (j : Int) := by
          rw [List.length_map]
          have x1 := Int.emod_nonneg (n + 1) (b := (cells.length : Int)) (by omega)
          have x2 := Int.emod_lt_of_pos (n + 1) (b := (cells.length : Int)) h0
          exact ⟨((n + 1) % (cells.length : Int)).toNat, by omega, by omega⟩
        have gj : (cells.map V.int)[j]? = some (.int cells[j]) := by
          rw [List.getElem?_map, List.getElem?_eq_getElem hj]
          rfl
        refine ⟨.ref a, rfl, a, _, 1, _, rfl, rfl, SqL.of hA2, atI_nat (j := 1) rfl, .inl ⟨n + 1, rfl, .ref a, rfl, a, _, 0, .ref c, rfl, rfl, SqL.of hA2, atI_nat (j := 0) rfl, c, _, rfl, .inl (SqL.of hC2), _, _, rfl, rfl, (by rw [List.length_map]; exact h0), ?_⟩⟩
        refine ⟨.ref a, rfl, a, _, 0, .ref c, rfl, rfl, SqL.of hA2, atI_nat (j := 0) rfl, .int j, by rw [← ej]; rfl, c, _, _, _, rfl, rfl, SqL.of hC2, atI_nat gj, ?_⟩
        exact ⟨cells[j], j, by rw [← ej]; rfl, k2, hA2, hC2, hpos _ (List.getElem_mem hj), fun _ => ⟨j, hj, rfl⟩⟩
      · exact ⟨0, -1, rfl, k2, hA2, hC2, Int.le_refl _, fun z => absurd z (by decide)⟩
    · rintro σ' H3 ⟨cell, at_, rfl, k3, hA3, hC3, hp, hj⟩
      refine ⟨_, rfl, 10, 18, rfl, rfl, ⟨by decide, by decide, by decide⟩, _, _, rfl, rfl, _, rfl, ite2 (fun h0 => ?_) (fun h0 => ?_)⟩
      · obtain ⟨j, hj2, ea⟩ := hj (of_decide_eq_true h0)
        subst ea
        refine ⟨_, rfl, .inl ⟨cell, rfl, _, rfl, _, _, rfl, rfl, wide_div (b := 20) (by omega) (by omega) (by decide) (by decide), .ref a, rfl, a, _, 0, .ref c, rfl, rfl, SqL.of hA3, atI_nat (j := 0) rfl, _, rfl, c, _, _, j, rfl, rfl, hC3, Evl.ixN_nat (by rw [List.length_map]; exact hj2), ?_⟩⟩
        refine ⟨_, rfl, .inl ⟨cell, rfl, _, rfl, _, _, rfl, rfl, (by omega), ?_⟩⟩
        refine k _ (cells.set j (cell / m)) _ (Int.emod_nonneg _ (by omega)) (Int.emod_lt_of_pos _ (by omega)) ⟨nac, ?_, ?_, ?_, ?_⟩ (k3.trans (keep_upd (.inr rfl)))
        · rw [upd_ne nac]
          exact hA3
        · rw [upd_same, List.map_set]
        · rw [List.length_set]
          exact hlen
        · intro z hz
          rcases List.mem_or_eq_of_mem_set hz with hz | hz
          · exact hpos z hz
          · rw [hz]
            exact Int.ediv_nonneg hp (by omega)
      · have b1 := Int.emod_nonneg cell (b := 2147483179) (by decide)
        have b2 := Int.emod_lt_of_pos cell (b := 2147483179) (by decide)
        refine ⟨_, rfl, .inl ⟨cell, rfl, _, _, rfl, rfl, (by show (0 : Int) < 2147483179; decide), .ref a, rfl, a, _, 1, _, rfl, rfl, SqL.of hA3, atI_nat (j := 1) rfl, 5501, n + 1, rfl, rfl, .inl ⟨by decide, by decide⟩, _, _, rfl, rfl, _, _, rfl, rfl, ?_⟩⟩
        refine ⟨_, rfl, cell % 2147483179 + 5501 * (n + 1) + 29, 5, rfl, rfl, ⟨by decide, by decide, by omega⟩, .inl ⟨_, rfl, _, _, rfl, rfl, (by show (0 : Int) < 2147483423; decide), .inl ⟨_, rfl, _, rfl, _, _, rfl, rfl, (by omega), ?_⟩⟩⟩
        exact k _ cells _ (Int.emod_nonneg _ (by omega)) (Int.emod_lt_of_pos _ (by omega)) ⟨nac, hA3, hC3, hlen, hpos⟩ k3
end
section
variable {P : Program} {w : World} {K : PySem.W.Frag} {mg : Str → Option Value} {base : Heap}
def spOne (K : PySem.W.Frag) : Sp := fun vs H Q _ => ∃ (a c l : Addr) (cells : List Int) (n : Int) (xs : List V), vs = [.ref a, .ref l] ∧ DeckAt a c cells n H ∧ 0 ≤ n ∧ n ≤ 1000000 ∧ SqL K H l xs ∧ ¬ Bd a c l ∧ xs ≠ [] ∧ xs.length ≤ 1000 ∧
  ∀ (H' : Hp) (cells' : List Int) (x : V), x ∈ xs → DeckAt a c cells' (n + 1) H' → Keep (Bd a c) H H' → Q x H'
theorem ok_one {f fD : Addr} {fd fdD : FuncData} (F : Fun K "_law_one" "_law_one" sOne f fd) (D : FnOk P w K mg base CX0 1 fD fdD ["_law_deck_here", "_law_most"] spDraw) (FD : Fun K "_law_draw" "_law_draw" sDraw fD fdD) (bD : Binds K fdD ["_law_deck_here", "_law_most"] [])
    (gD : mg "_law_draw" = some (.ref fD)) (mLen : mg "len" = none) : FnOk P w K mg base CX0 2 f fd ["_law_deck_here", "_law_items"] (spOne K) := by
  refine F.ok scOne (fun vs H Q E h => ?_) (fun cdv A outer s H vs Q E hr h => ?_)
  · obtain ⟨a, c, l, cells, n, xs, rfl, _⟩ := h
    rfl
  · obtain ⟨a, c, l, cells, n, xs, rfl, dk, n0, n1, hL, nb, hne, hlen, k⟩ := h
    refine ⟨_, pss_one (ps_ret (pe_ix ix_list (pv 1) (pe_call D hr (by rfl) gD FD.kp bD .nil pass0 (pa_cons (pv 0) (pa_cons (pe_callB call_len_seq (by rfl) mLen PySem.boot_len (pa_cons (pv 1) pa_nil)) pa_nil))) (fun _ _ => rfl))), ?_⟩
    have lp : 0 < xs.length := List.length_pos_iff.mpr hne
    refine ⟨_, rfl, _, rfl, _, rfl, l, xs, rfl, .inl hL, a, c, cells, n, _, rfl, dk, by omega, by omega, n0, n1, fun H' cells' r r0 r1 dk' kp => ?_⟩
    have hr2 : r.toNat < xs.length := by omega
    refine ⟨l, xs, r, xs[r.toNat], rfl, rfl, kp.seqL nb hL, ?_, k H' cells' _ (List.getElem_mem hr2) dk' kp⟩
    have e := atI_nat (List.getElem?_eq_getElem hr2)
    rw [show ((r.toNat : Nat) : Int) = r by omega] at e
    exact e
end
/-- the built-in names that nobody stores, and the program's constants -/
structure Mg (mg : Str → Option Value) : Prop where
  len : mg "len" = none
  int : mg "int" = none
  range : mg "range" = none
  tuple : mg "tuple" = none
  list : mg "list" = none
  isi : mg "isinstance" = none
  all : mg "all" = none
  abs : mg "abs" = none
  bool : mg "bool" = none
  repr : mg "repr" = none
  set : mg "set" = none
  str : mg "str" = none
  enum : mg "enumerate" = none
  mcount : ∃ t, mg "MAX_COUNT" = some (.int 9 t)
  mcut : ∃ t, mg "MAX_CUT" = some (.int 30 t)
  mline : ∃ t, mg "MAX_LINE" = some (.int 3 t)
  mpairs : ∃ t, mg "MAX_PAIRS" = some (.int 4 t)
  mpass : ∃ t, mg "MAX_PASS" = some (.int 4 t)
  mpiece : ∃ t, mg "MAX_PIECE" = some (.int 2 t)
  le : ∃ t, mg "LETTERS" = some (.str "abc" t)
def tyN : PyData → String
  | .none => "NoneType"
  | .bool _ => "bool"
  | .int _ => "int"
  | .str _ => "str"
  | .list _ => "list"
  | .tuple _ => "tuple"
  | .dict _ => "dict"
theorem tyD {B : Addr → Prop} {K : PySem.W.Frag} {H : Hp} {v : V} {d : PyData} (h : Dt B K H v d) : TyX K H v (.type (tyN d)) := by
  cases h with
  | non => exact .base .non
  | bl b => exact .base (.bl b)
  | int i => exact .base (.int i)
  | str x => exact .base (.str x)
  | lst nb ne hs ha =>
    rcases hs with hs | ⟨o, hs⟩
    · exact .base (.lst hs)
    · exact .base (.frz hs)
  | tup nb hs ha =>
    rcases hs with hs | ⟨o, hs⟩
    · exact .base (.tup hs)
    · exact .fTuple hs
  | emp nb e => exact .base (.dK e)
def isInt : PyData → Bool
  | .int _ => true
  | .bool _ => true
  | _ => false
def isBool : PyData → Bool
  | .bool _ => true
  | _ => false
def isTup : PyData → Bool
  | .tuple _ => true
  | _ => false
theorem kitI {K : PySem.W.Frag} (d : PyData) : PySem.W.kitOne K (.type (tyN d)) (.type "int") = some (isInt d) := by
  cases d with
  | none => exact kit_ty (show kitB "NoneType" "int" = some false by decide +kernel)
  | bool _ => exact kit_ty (show kitB "bool" "int" = some true by decide +kernel)
  | int _ => exact kit_ty (show kitB "int" "int" = some true by decide +kernel)
  | str _ => exact kit_ty (show kitB "str" "int" = some false by decide +kernel)
  | list _ => exact kit_ty (show kitB "list" "int" = some false by decide +kernel)
  | tuple _ => exact kit_ty (show kitB "tuple" "int" = some false by decide +kernel)
  | dict _ => exact kit_ty (show kitB "dict" "int" = some false by decide +kernel)
theorem kitB' {K : PySem.W.Frag} (d : PyData) : PySem.W.kitOne K (.type (tyN d)) (.type "bool") = some (isBool d) := by
  cases d with
  | none => exact kit_ty (show kitB "NoneType" "bool" = some false by decide +kernel)
  | bool _ => exact kit_ty (show kitB "bool" "bool" = some true by decide +kernel)
  | int _ => exact kit_ty (show kitB "int" "bool" = some false by decide +kernel)
  | str _ => exact kit_ty (show kitB "str" "bool" = some false by decide +kernel)
  | list _ => exact kit_ty (show kitB "list" "bool" = some false by decide +kernel)
  | tuple _ => exact kit_ty (show kitB "tuple" "bool" = some false by decide +kernel)
  | dict _ => exact kit_ty (show kitB "dict" "bool" = some false by decide +kernel)
theorem kitT {K : PySem.W.Frag} (d : PyData) : PySem.W.kitOne K (.type (tyN d)) (.type "tuple") = some (isTup d) := by
  cases d with
  | none => exact kit_ty (show kitB "NoneType" "tuple" = some false by decide +kernel)
  | bool _ => exact kit_ty (show kitB "bool" "tuple" = some false by decide +kernel)
  | int _ => exact kit_ty (show kitB "int" "tuple" = some false by decide +kernel)
  | str _ => exact kit_ty (show kitB "str" "tuple" = some false by decide +kernel)
  | list _ => exact kit_ty (show kitB "list" "tuple" = some false by decide +kernel)
  | tuple _ => exact kit_ty (show kitB "tuple" "tuple" = some true by decide +kernel)
  | dict _ => exact kit_ty (show kitB "dict" "tuple" = some false by decide +kernel)
def isStr : PyData → Bool
  | .str _ => true
  | _ => false
theorem kitS {K : PySem.W.Frag} (d : PyData) : PySem.W.kitOne K (.type (tyN d)) (.type "str") = some (isStr d) := by
  cases d with
  | none => exact kit_ty (show kitB "NoneType" "str" = some false by decide +kernel)
  | bool _ => exact kit_ty (show kitB "bool" "str" = some false by decide +kernel)
  | int _ => exact kit_ty (show kitB "int" "str" = some false by decide +kernel)
  | str _ => exact kit_ty (show kitB "str" "str" = some true by decide +kernel)
  | list _ => exact kit_ty (show kitB "list" "str" = some false by decide +kernel)
  | tuple _ => exact kit_ty (show kitB "tuple" "str" = some false by decide +kernel)
  | dict _ => exact kit_ty (show kitB "dict" "str" = some false by decide +kernel)
/-- an integer, no bool, within the bounds -/
def numD (d : PyData) (lo hi : Int) : Bool := match d with
  | .int i => decide (lo ≤ i) && decide (i ≤ hi)
  | _ => false
def spNum (K : PySem.W.Frag) : Sp := fun vs H Q _ => ∃ (B : Addr → Prop) (x : V) (d : PyData) (lo hi : Int), vs = [x, .int lo, .int hi] ∧ Dt B K H x d ∧ Q (.bl (numD d lo hi)) H
def intD : PyData → Bool
  | .int _ => true
  | _ => false
def spInt (K : PySem.W.Frag) : Sp := fun vs H Q _ => ∃ (B : Addr → Prop) (x : V) (d : PyData), vs = [x] ∧ Dt B K H x d ∧ Q (.bl (intD d)) H
section
variable {P : Program} {w : World} {K : PySem.W.Frag} {mg : Str → Option Value} {base : Heap}
theorem scInteger : FnScope ["value"] ["value"] (defScope sInteger) := ⟨rfl, rfl, rfl, by decide +kernel, rfl, by decide +kernel, by decide +kernel⟩
theorem ok_Integer {f : Addr} {fd : FuncData} (F : Fun K "is_integer" "is_integer" sInteger f fd) (T : Mg mg) : FnOk P w K mg base CX0 1 f fd ["value"] (spInt K) := by
  refine F.ok scInteger (fun vs H Q E h => ?_) (fun cdv A outer s H vs Q E hr h => ?_)
  · obtain ⟨B, x, d, rfl, _⟩ := h
    rfl
  · obtain ⟨B, x, d, rfl, hd, k⟩ := h
    refine ⟨_, pss_one (ps_ret (pe_and (pe_callB call_isi (by rfl) T.isi PyProof.Rows.boot_isinstance (pa_cons (pv 0) (pa_cons (pe_bltn (v := .ty "int") (by rfl) T.int PyProof.Rows.boot_int rfl) pa_nil)))
      (pe_one (pe_not (pe_callB call_isi (by rfl) T.isi PyProof.Rows.boot_isinstance (pa_cons (pv 0) (pa_cons (pe_bltn (v := .ty "bool") (by rfl) T.bool PyProof.Rows.boot_bool rfl) pa_nil))))))), ?_⟩
    refine ⟨x, rfl, x, .ty "int", _, _, _, rfl, .ty _, tyD hd, kitI d, _, rfl, ?_⟩
    cases d with
    | int i => exact ⟨x, rfl, x, .ty "bool", _, _, _, rfl, .ty _, tyD hd, kitB' _, _, rfl, k⟩
    | bool b => exact ⟨x, rfl, x, .ty "bool", _, _, _, rfl, .ty _, tyD hd, kitB' _, _, rfl, k⟩
    | none => exact k
    | str y => exact k
    | list _ => exact k
    | tuple _ => exact k
    | dict _ => exact k
theorem scNumber : FnScope ["value", "least", "most"] ["value", "least", "most"] (defScope sNumber) := ⟨rfl, rfl, rfl, by decide +kernel, rfl, by decide +kernel, by decide +kernel⟩
theorem ok_Number {f fI : Addr} {fd fdI : FuncData} (F : Fun K "is_number" "is_number" sNumber f fd) (I : FnOk P w K mg base CX0 1 fI fdI ["value"] (spInt K)) (FI : Fun K "is_integer" "is_integer" sInteger fI fdI) (bI : Binds K fdI ["value"] []) (gI : mg "is_integer" = some (.ref fI)) :
    FnOk P w K mg base CX0 2 f fd ["value", "least", "most"] (spNum K) := by
  refine F.ok scNumber (fun vs H Q E h => ?_) (fun cdv A outer s H vs Q E hr h => ?_)
  · obtain ⟨B, x, d, lo, hi, rfl, _⟩ := h
    rfl
  · obtain ⟨B, x, d, lo, hi, rfl, hd, k⟩ := h
    refine ⟨_, pss_one (ps_ret (pe_and (pe_call I (hr.mono (by decide)) (by rfl) gI FI.kp bI .nil pass0 (pa_cons (pv 0) pa_nil)) (pe_one (pe_chain op_le op_le (pv 1) (pv 0) (pv 2))))), ?_⟩
    refine ⟨x, rfl, B, x, d, rfl, hd, _, rfl, ?_⟩
    cases hd with
    | int i =>
      refine ⟨.int lo, rfl, .int i, rfl, lo, i, rfl, rfl, _, rfl, ?_⟩
      refine ite2 (fun h1 => ?_) (fun h1 => ?_)
      · refine ⟨.int hi, rfl, i, hi, rfl, rfl, ?_⟩
        have e : numD (.int i) lo hi = decide (i ≤ hi) := by
          show (decide (lo ≤ i) && decide (i ≤ hi)) = decide (i ≤ hi)
          rw [h1]
          rfl
        rw [e] at k
        exact k
      · have e : numD (.int i) lo hi = false := by
          show (decide (lo ≤ i) && decide (i ≤ hi)) = false
          rw [Bool.eq_false_iff.mpr h1]
          rfl
        rw [e] at k
        exact k
    | bl b => exact k
    | non => exact k
    | str y => exact k
    | lst nb ne hs ha => exact k
    | tup nb hs ha => exact k
    | emp nb e => exact k
theorem scWhole : FnScope ["_law_value", "_law_least", "_law_most"] ["_law_value", "_law_least", "_law_most"] (defScope sWhole) := ⟨rfl, rfl, rfl, by decide +kernel, rfl, by decide +kernel, by decide +kernel⟩
theorem ok_Whole {f : Addr} {fd : FuncData} (F : Fun K "_law_whole" "_law_whole" sWhole f fd) (T : Mg mg) : FnOk P w K mg base CX0 1 f fd ["_law_value", "_law_least", "_law_most"] (spNum K) := by
  refine F.ok scWhole (fun vs H Q E h => ?_) (fun cdv A outer s H vs Q E hr h => ?_)
  · obtain ⟨B, x, d, lo, hi, rfl, _⟩ := h
    rfl
  · obtain ⟨B, x, d, lo, hi, rfl, hd, k⟩ := h
    refine ⟨_, pss_one (ps_ret (pe_and (pe_callB call_isi (by rfl) T.isi PyProof.Rows.boot_isinstance (pa_cons (pv 0) (pa_cons (pe_bltn (v := .ty "int") (by rfl) T.int PyProof.Rows.boot_int rfl) pa_nil)))
      (pe_and (pe_not (pe_callB call_isi (by rfl) T.isi PyProof.Rows.boot_isinstance (pa_cons (pv 0) (pa_cons (pe_bltn (v := .ty "bool") (by rfl) T.bool PyProof.Rows.boot_bool rfl) pa_nil))))
      (pe_one (pe_chain op_le op_le (pv 1) (pv 0) (pv 2)))))), ?_⟩
    refine ⟨x, rfl, x, .ty "int", _, _, _, rfl, .ty _, tyD hd, kitI d, _, rfl, ?_⟩
    cases hd with
    | int i =>
      refine ⟨.int i, rfl, .int i, .ty "bool", _, _, _, rfl, .ty _, tyD (.int (B := B) i), kitB' (.int i), _, rfl, _, rfl, .int lo, rfl, .int i, rfl, lo, i, rfl, rfl, _, rfl, ?_⟩
      refine ite2 (fun h1 => ?_) (fun h1 => ?_)
      · refine ⟨.int hi, rfl, i, hi, rfl, rfl, ?_⟩
        have e : numD (.int i) lo hi = decide (i ≤ hi) := by
          show (decide (lo ≤ i) && decide (i ≤ hi)) = decide (i ≤ hi)
          rw [h1]
          rfl
        rw [e] at k
        exact k
      · have e : numD (.int i) lo hi = false := by
          show (decide (lo ≤ i) && decide (i ≤ hi)) = false
          rw [Bool.eq_false_iff.mpr h1]
          rfl
        rw [e] at k
        exact k
    | bl b => exact ⟨.bl b, rfl, .bl b, .ty "bool", _, _, _, rfl, .ty _, tyD (.bl (B := B) b), kitB' (.bool b), _, rfl, _, rfl, k⟩
    | non => exact k
    | str y => exact k
    | lst nb ne hs ha => exact k
    | tup nb hs ha => exact k
    | emp nb e => exact k
end
/-! ### data, counted and kept apart -/
theorem Dt.len_le {B : Addr → Prop} {K : PySem.W.Frag} {H : Hp} {a : Addr} {ds : List PyData} (h : Dt B K H (.ref a) (.tuple ds)) : ∃ xs, SqT K H a xs ∧ DtAll B K H xs ds ∧ xs.length = ds.length := by
  cases h with
  | tup nb hs ha => exact ⟨_, .inl hs, ha, ha.len⟩
theorem Dt.tup_ref {B : Addr → Prop} {K : PySem.W.Frag} {H : Hp} {v : V} {ds : List PyData} (h : Dt B K H v (.tuple ds)) : ∃ a xs, v = .ref a ∧ ¬ B a ∧ SqT K H a xs ∧ DtAll B K H xs ds ∧ xs.length = ds.length := by
  cases h with
  | tup nb hs ha => exact ⟨_, _, rfl, nb, .inl hs, ha, ha.len⟩
theorem Dt.tup_rd {B : Addr → Prop} {K : PySem.W.Frag} {H : Hp} {v : V} {ds : List PyData} (h : Dt B K H v (.tuple ds)) : ∃ a xs, v = .ref a ∧ ¬ B a ∧ Rd H a (.tup xs) ∧ DtAll B K H xs ds ∧ xs.length = ds.length := by
  cases h with
  | tup nb hs ha => exact ⟨_, _, rfl, nb, hs, ha, ha.len⟩
mutual
theorem Dt.off {B : Addr → Prop} {K : PySem.W.Frag} {H : Hp} {q : Addr} (n : H q = none) : ∀ (d : PyData) (v : V), Dt B K H v d → Dt (fun b => B b ∨ b = q) K H v d
  | .none, _, h => by cases h; exact .non
  | .bool _, _, h => by cases h; exact .bl _
  | .int _, _, h => by cases h; exact .int _
  | .str _, _, h => by cases h; exact .str _
  | .list ds, _, h => by
    cases h with
    | lst nb ne hs ha =>
      refine .lst (fun z => ?_) ne hs (DtAll.off n ds _ ha)
      rcases z with z | z
      · exact nb z
      · rw [z] at hs
        rcases hs with e | ⟨o, e⟩ <;> (rw [n] at e; cases e)
  | .tuple ds, _, h => by
    cases h with
    | tup nb hs ha =>
      refine .tup (fun z => ?_) hs (DtAll.off n ds _ ha)
      rcases z with z | z
      · exact nb z
      · rw [z] at hs
        rcases hs with e | ⟨o, e⟩ <;> (rw [n] at e; cases e)
  | .dict _, _, h => by
    cases h with
    | emp nb e =>
      refine .emp (fun z => ?_) e
      rcases z with z | z
      · exact nb z
      · rw [z, n] at e
        cases e
theorem DtAll.off {B : Addr → Prop} {K : PySem.W.Frag} {H : Hp} {q : Addr} (n : H q = none) : ∀ (ds : List PyData) (vs : List V), DtAll B K H vs ds → DtAll (fun b => B b ∨ b = q) K H vs ds
  | [], _, h => by cases h; exact .nil
  | d :: ds, _, h => by
    cases h with
    | cons h1 h2 => exact .cons (Dt.off n d _ h1) (DtAll.off n ds _ h2)
end
theorem same_dt {B : Addr → Prop} {K : PySem.W.Frag} {H H' : Hp} {v : V} {d : PyData} (s : Same H H') (h : Dt B K H v d) : Dt B K H' v d := Dt.keep (Keep.same s) d v h
theorem same_seqT {K : PySem.W.Frag} {H H' : Hp} {a : Addr} {xs : List V} (s : Same H H') (h : SqT K H a xs) : SqT K H' a xs := Keep.seqT (B := fun _ => False) (Keep.same s) (fun z => z) h
theorem all_take {f : PyData → Bool} {ds : List PyData} : ((ds.map f).all id) = ds.all f := by
  rw [List.all_map]
  rfl
mutual
def nodes : PyData → Nat
  | .list xs => 1 + nodesAll xs
  | .tuple xs => 1 + nodesAll xs
  | .none => 1
  | .bool _ => 1
  | .int _ => 1
  | .str z => 1 + z.length
  | .dict _ => 1
def nodesAll : List PyData → Nat
  | [] => 0
  | x :: xs => nodes x + nodesAll xs
end
theorem nodes_pos : ∀ d : PyData, 1 ≤ nodes d
  | .list xs => by unfold nodes; omega
  | .tuple xs => by unfold nodes; omega
  | .none => by unfold nodes; omega
  | .bool _ => by unfold nodes; omega
  | .int _ => by unfold nodes; omega
  | .str _ => by unfold nodes; omega
  | .dict _ => by unfold nodes; omega
theorem nodes_tup (xs : List PyData) : nodes (.tuple xs) = 1 + nodesAll xs := by rw [nodes]
theorem nodes_lst (xs : List PyData) : nodes (.list xs) = 1 + nodesAll xs := by rw [nodes]
theorem nodesAll_cons (x : PyData) (xs : List PyData) : nodesAll (x :: xs) = nodes x + nodesAll xs := by rw [nodesAll]
theorem nodesAll_nil : nodesAll [] = 0 := by rw [nodesAll]
theorem len_nodes : ∀ xs : List PyData, xs.length ≤ nodesAll xs
  | [] => Nat.zero_le _
  | x :: xs => by
    have := len_nodes xs
    have := nodes_pos x
    rw [nodesAll_cons, List.length_cons]
    omega
theorem mem_nodes : ∀ {xs : List PyData} {x : PyData}, x ∈ xs → nodes x ≤ nodesAll xs
  | [], _, h => absurd h List.not_mem_nil
  | y :: ys, x, h => by
    rw [nodesAll_cons]
    rcases List.mem_cons.mp h with e | e
    · rw [e]
      omega
    · have := mem_nodes e
      omega
theorem nodesAll_append : ∀ xs ys : List PyData, nodesAll (xs ++ ys) = nodesAll xs + nodesAll ys
  | [], ys => by rw [List.nil_append, nodesAll_nil, Nat.zero_add]
  | x :: xs, ys => by rw [List.cons_append, nodesAll_cons, nodesAll_cons, nodesAll_append xs ys, Nat.add_assoc]
theorem deck_upd {a c p : Addr} {cells : List Int} {n : Int} {H : Hp} {o : HO} (h : DeckAt a c cells n H) (np : ¬ Bd a c p) : DeckAt a c cells n (upd H p o) := by
  obtain ⟨h1, h2, h3, h4, h5⟩ := h
  refine ⟨h1, ?_, ?_, h4, h5⟩
  · rw [upd_ne (fun z : a = p => np (.inl z.symm))]
    exact h2
  · rw [upd_ne (fun z : c = p => np (.inr z.symm))]
    exact h3
theorem deck_off {a c p : Addr} {cells : List Int} {n : Int} {H : Hp} (h : DeckAt a c cells n H) (np : H p = none) : ¬ Bd a c p := bd_new np h.2.1 h.2.2.1
theorem deck_new {a c p : Addr} {cells : List Int} {n : Int} {H : Hp} {o : HO} (h : DeckAt a c cells n H) (np : H p = none) : DeckAt a c cells n (upd H p o) := deck_upd h (deck_off h np)
/-- a list that is made at D while the deck is drawn from: at most s draws an item -/
def CInv (a c D : Addr) (H0 : Hp) (G : V → Prop) (n0 s : Int) (j : Nat) (H' : Hp) : Prop :=
  ∃ (cells : List Int) (n' : Int) (acc : List V), DeckAt a c cells n' H' ∧ n0 ≤ n' ∧ n' ≤ n0 + s * j ∧ Keep (Bd a c) H0 H' ∧ H' D = some (.lst acc) ∧ acc.length = j ∧ ∀ v ∈ acc, G v
theorem cstart {a c D : Addr} {H0 : Hp} {G : V → Prop} {cells : List Int} {n0 s : Int} (dk : DeckAt a c cells n0 H0) (hD : H0 D = none) : CInv a c D H0 G n0 s 0 (upd H0 D (.lst [])) :=
  ⟨cells, n0, [], deck_new dk hD, Int.le_refl _, by simp, keep_new hD, upd_same, rfl, fun v z => absurd z List.not_mem_nil⟩
theorem cstep {a c D : Addr} {H0 H1 H2 : Hp} {G : V → Prop} {cells2 : List Int} {n0 s n1 n2 : Int} {j : Nat} {acc : List V} {v : V} (hD0 : H0 D = none) (nD : ¬ Bd a c D) (hj : j ≤ 1000) (h0 : n0 ≤ n1) (h1 : n1 ≤ n0 + s * j) (kp : Keep (Bd a c) H0 H1) (hD : H1 D = some (.lst acc)) (hl : acc.length = j)
    (hG : ∀ v ∈ acc, G v) (dk : DeckAt a c cells2 n2 H2) (h2 : n1 ≤ n2) (h3 : n2 ≤ n1 + s) (k2 : Keep (Bd a c) H1 H2) (g : G v) :
    ∃ acc', H2 D = some (.lst acc') ∧ acc'.length < sizeLine ∧ CInv a c D H0 G n0 s (j + 1) (upd H2 D (.lst (acc' ++ [v]))) := by
  refine ⟨acc, k2 _ _ nD hD, small1000 (by omega), cells2, n2, acc ++ [v], deck_upd dk nD, by omega, ?_, fun b o nb z => ?_, upd_same, ?_, fun u hu => ?_⟩
  · have e : s * ((j + 1 : Nat) : Int) = s * j + s := by
      rw [Int.natCast_add, Int.mul_add]
      simp
    rw [e]
    omega
  · rw [upd_ne (ne_of_none z hD0)]
    exact k2 _ _ nb (kp _ _ nb z)
  · rw [List.length_append, hl]
    rfl
  · rcases List.mem_append.mp hu with hu | hu
    · exact hG u hu
    · rw [List.mem_singleton.mp hu]
      exact g
mutual
theorem Dt.weak {B B' : Addr → Prop} {K : PySem.W.Frag} {H : Hp} (k : ∀ b, B' b → B b) : ∀ (d : PyData) (v : V), Dt B K H v d → Dt B' K H v d
  | .none, _, h => by cases h; exact .non
  | .bool _, _, h => by cases h; exact .bl _
  | .int _, _, h => by cases h; exact .int _
  | .str _, _, h => by cases h; exact .str _
  | .list ds, _, h => by
    cases h with
    | lst nb ne hs ha => exact .lst (fun z => nb (k _ z)) ne hs (DtAll.weak k ds _ ha)
  | .tuple ds, _, h => by
    cases h with
    | tup nb hs ha => exact .tup (fun z => nb (k _ z)) hs (DtAll.weak k ds _ ha)
  | .dict _, _, h => by
    cases h with
    | emp nb e => exact .emp (fun z => nb (k _ z)) e
theorem DtAll.weak {B B' : Addr → Prop} {K : PySem.W.Frag} {H : Hp} (k : ∀ b, B' b → B b) : ∀ (ds : List PyData) (vs : List V), DtAll B K H vs ds → DtAll B' K H vs ds
  | [], _, h => by cases h; exact .nil
  | d :: ds, _, h => by
    cases h with
    | cons h1 h2 => exact .cons (Dt.weak k d _ h1) (DtAll.weak k ds _ h2)
end
theorem Keep.wide {B B' : Addr → Prop} {H H' : Hp} (k : ∀ b, B b → B' b) (h : Keep B H H') : Keep B' H H' := fun b o n e => h b o (fun z => n (k b z)) e
section
variable {X : Cx}
/-- []: new, and no table of modules -/
def tNilN : TE := fun _ H Q => ∀ p, H p = none → p ≠ sysModules → Q (.ref p) (upd H p (.lst []))
theorem pe_nilN {pos : Pos} : PE X (.List [] pos) tNilN := by
  refine ⟨fun pins s σ H Q I h => ?_⟩
  refine wpAny_List_spliced (thn (pa_nil.run pos pins s σ H (fun xs H1 => xs = [] ∧ H1 = H) I ⟨rfl, rfl⟩) ?_)
  rintro us s1 ⟨xs, H1, I1, r, rfl, rfl⟩
  cases r
  exact ⟨Nat.zero_le _, .ref s1.heap.objs.size, _, I1.laid (o := .lst []) (t' := s1.toks) (fun b u e => Heap.get?_push_of_some _ e) (Nat.le_refl _) ⟨Nat.zero_le _, [], 0, .nil, Heap.get?_push_size _ rfl⟩, rfl, h _ (I1.hok.fresh (Nat.le_refl _)) (Nat.ne_of_gt I1.big)⟩
/-- list(t): new, and no table of modules -/
def rListN (K : PySem.W.Frag) : List V → Hp → VK → Prop := fun xs H Q => ∃ p ys, xs = [.ref p] ∧ SqT K H p ys ∧ ∀ l, H l = none → l ≠ sysModules → Q (.ref l) (upd H l (.lst ys))
theorem call_listN : CallR X (.type "list") (rListN X.K) := by
  intro pins s σ H xs us Q I r h
  obtain ⟨p, ys, rfl, hq, q⟩ := h
  obtain ⟨u, rfl, rx⟩ := vals1 r
  cases rx
  obtain ⟨its, rv, pl, hz⟩ := I.tuple hq
  have hlen := rv.length
  obtain ⟨o, ho, hc, n, hd⟩ := id pl
  refine call_list_seq p (.inr rfl) ho hc hd (fun h' c' kp e => ?_) (by simp only [List.size_toArray]; omega)
  exact ⟨.ref s.heap.objs.size, _, I.laid (t' := s.toks) kp (Nat.le_refl _) (show ObjOk X.prog X.w _ h' _ (.lst ys) from ⟨hz, its, c', rv, e⟩), rfl, q _ (I.hok.fresh (Nat.le_refl _)) (Nat.ne_of_gt I.big)⟩
/-- t[lo:hi], some tuple of the cut: t or a new one -/
def rSlS (K : PySem.W.Frag) : V → Option Int → Option Int → Hp → VK → Prop := fun x lo hi H Q => ∃ a xs, x = .ref a ∧ Rd H a (.tup xs) ∧ ∀ q H', Same H H' → Rd H' q (.tup (cutV xs lo hi)) → (q = a ∨ H q = none) → Q (.ref q) H'
theorem sl_tupS : SlR X (rSlS X.K) := by
  intro pins s σ H x v vl vu lo hi sl Q I rx hs pl pu h
  obtain ⟨a, xs, rfl, hx, q⟩ := h
  refine sl_tupA pins s σ H _ v vl vu lo hi sl Q I rx hs pl pu ⟨a, xs, rfl, .inl hx, fun hw => ?_, fun hw p hp => ?_⟩
  · refine q a H (Same.refl H) ?_ (.inl rfl)
    have e : cutV xs lo hi = xs := by
      unfold cutV
      rw [hw.1, hw.2, List.drop_zero, Nat.sub_zero, List.take_length]
    rw [e]
    exact hx
  · exact q p _ (same_new hp) (.inl upd_same) (.inr hp)
/-- t + u, some tuple of both -/
def rCatS (K : PySem.W.Frag) : R2 := fun x y H Q => ∃ a b xs ys, x = .ref a ∧ y = .ref b ∧ Rd H a (.tup xs) ∧ Rd H b (.tup ys) ∧ xs.length + ys.length ≤ sizeLine ∧ ∀ q H', Same H H' → Rd H' q (.tup (xs ++ ys)) → (q = a ∨ q = b ∨ H q = none) → Q (.ref q) H'
theorem op_catS : OpR X (binaryOp .Add) (rCatS X.K) := by
  intro pins s σ H x y v u Q I rx ry h
  obtain ⟨a, b, xs, ys, rfl, rfl, hx, hy, hz, q⟩ := h
  refine op_catA pins s σ H _ _ v u Q I rx ry ⟨a, b, xs, ys, rfl, rfl, .inl hx, .inl hy, hz, fun e => ?_, fun _ e => ?_, fun _ _ p hp => ?_⟩
  · subst e
    exact q b H (Same.refl H) hy (.inr (.inl rfl))
  · subst e
    refine q a H (Same.refl H) ?_ (.inl rfl)
    rw [List.append_nil]
    exact hx
  · exact q p _ (same_new hp) (.inl upd_same) (.inr (.inr hp))
end
theorem cut_take (xs : List V) (j : Nat) (h : j ≤ xs.length) : cutV xs none (some (j : Int)) = xs.take j := by
  unfold cutV
  rw [HT.sIx_none, HT.sIx_nat, List.drop_zero, Nat.sub_zero, Nat.min_eq_left h]
theorem cut_drop (xs : List V) (j : Nat) (h : j ≤ xs.length) : cutV xs (some (j : Int)) none = xs.drop j := by
  unfold cutV
  rw [HT.sIx_none, HT.sIx_nat, Nat.min_eq_left h]
  exact List.take_of_length_le (by rw [List.length_drop]; omega)
theorem cut_mid (xs : List V) (j : Nat) (h : j < xs.length) : cutV xs (some (j : Int)) (some ((j + 1 : Nat) : Int)) = (xs.drop j).take 1 := by
  unfold cutV
  rw [HT.sIx_nat, HT.sIx_nat, Nat.min_eq_left (by omega), Nat.min_eq_left (by omega)]
  congr 1
  omega
/-- all of B is tracked -/
def TB (B : Addr → Prop) (H : Hp) : Prop := ∀ b, B b → H b ≠ none
theorem tb_off {B : Addr → Prop} {H : Hp} {p : Addr} (tb : TB B H) (n : H p = none) : ¬ B p := fun z => tb p z n
theorem tb_upd {B : Addr → Prop} {H : Hp} {p : Addr} {o : HO} (tb : TB B H) : TB B (upd H p o) := fun b z e => by
  by_cases h : b = p
  · rw [h, upd_same] at e
    cases e
  · rw [upd_ne h] at e
    exact tb b z e
theorem tb_same {B : Addr → Prop} {H H' : Hp} (s : Same H H') (tb : TB B H) : TB B H' := fun b z e => by
  cases q : H b with
  | none => exact tb b z q
  | some o =>
    rw [s b o q] at e
    cases e
theorem tb_keep {B : Addr → Prop} {H H' : Hp} {a c : Addr} {cells : List Int} {n : Int} (tb : TB B H) (dk : DeckAt a c cells n H') (k : Keep (Bd a c) H H') : TB B H' := fun b z e => by
  by_cases h : Bd a c b
  · exact deck_off dk e h
  · cases q : H b with
    | none => exact tb b z q
    | some o =>
      rw [k b o h q] at e
      cases e
theorem new_tup {B : Addr → Prop} {p : Addr} {K : PySem.W.Frag} {H : Hp} {xs : List V} {ds : List PyData} (tb : TB B H) (h : H p = none) (ha : DtAll B K (upd H p (.tup xs)) xs ds) : Dt B K (upd H p (.tup xs)) (.ref p) (.tuple ds) :=
  .tup (tb_off tb h) (.inl upd_same) ha
theorem same_rd {H H' : Hp} {a : Addr} {o : HO} (s : Same H H') (h : Rd H a o) : Rd H' a o := Keep.rd (B := fun _ => False) (Keep.same s) (fun z => z) h
theorem deck_same {a c : Addr} {cells : List Int} {n : Int} {H H' : Hp} (s : Same H H') (h : DeckAt a c cells n H) : DeckAt a c cells n H' := ⟨h.1, s _ _ h.2.1, s _ _ h.2.2.1, h.2.2.2.1, h.2.2.2.2⟩
theorem sz_of {n : Nat} (h : n ≤ 100000) : n ≤ sizeLine := Nat.le_trans h (by decide)
theorem nb_of {B : Addr → Prop} {p q : Addr} {H : Hp} (tb : TB B H) (np : ¬ B p) (h : q = p ∨ H q = none) : ¬ B q := by
  rcases h with h | h
  · rw [h]
    exact np
  · exact tb_off tb h
theorem nb_of2 {B : Addr → Prop} {p r q : Addr} {H : Hp} (tb : TB B H) (np : ¬ B p) (nr : ¬ B r) (h : q = p ∨ q = r ∨ H q = none) : ¬ B q := by
  rcases h with h | h | h
  · rw [h]
    exact np
  · rw [h]
    exact nr
  · exact tb_off tb h
theorem same_seqL {K : PySem.W.Frag} {H H' : Hp} {a : Addr} {xs : List V} (s : Same H H') (h : SqL K H a xs) : SqL K H' a xs := L2.Same.seq s h
theorem same_all {B : Addr → Prop} {K : PySem.W.Frag} {H H' : Hp} {vs : List V} {ds : List PyData} (s : Same H H') (h : DtAll B K H vs ds) : DtAll B K H' vs ds := DtAll.keep (Keep.same s) _ _ h
theorem nodes_rev : ∀ xs : List PyData, nodesAll xs.reverse = nodesAll xs
  | [] => rfl
  | x :: xs => by rw [List.reverse_cons, nodesAll_append, nodes_rev xs, nodesAll_cons, nodesAll_cons, nodesAll_nil]; omega
/-! ### rules that hide the heap-/
def tLstA (t : TA) : TE := fun σ H Q => t σ H fun xs H1 => xs.length ≤ sizeLine ∧ ∀ p H', Same H1 H' → H1 p = none → p ≠ sysModules → H' p = some (.lst xs) → Q (.ref p) H'
def rCatA : R2 := fun x y H Q => ∃ l b xs zs, x = .ref l ∧ y = .ref b ∧ H l = some (.lst xs) ∧ H b = some (.lst zs) ∧ xs.length + zs.length ≤ sizeLine ∧ ∀ p H', Same H H' → H p = none → p ≠ sysModules → H' p = some (.lst (xs ++ zs)) → Q (.ref p) H'
section
variable {X : Cx}
def rCatN : R2 := fun x y H Q => ∃ l b xs zs, x = .ref l ∧ y = .ref b ∧ H l = some (.lst xs) ∧ H b = some (.lst zs) ∧ xs.length + zs.length ≤ sizeLine ∧ ∀ p, H p = none → p ≠ sysModules → Q (.ref p) (upd H p (.lst (xs ++ zs)))
theorem op_catN : OpR X (binaryOp .Add) rCatN := by
  intro pins s σ H x y v u Q I rx ry h
  obtain ⟨l, b, xs, zs, rfl, rfl, hx, hy, hz, q⟩ := h
  cases rx
  cases ry
  obtain ⟨_, its, n, r, h1, e⟩ := I.lstM hx
  obtain ⟨_, jts, m, r2, h2, e2⟩ := I.lstM hy
  refine PySem.P.add_list e e2 ?_ (by rw [List.size_toArray, List.size_toArray]; omega)
  rw [show its.toArray ++ jts.toArray = (its ++ jts).toArray by simp]
  exact ⟨.ref _, _, I.lnew (t' := s.toks) (r.append r2) (by rw [List.length_append]; omega), rfl, q _ I.fresh (Nat.ne_of_gt I.big)⟩
theorem pe_lstA {es : List Expr} {t : TA} {pos : Pos} (ht : PA X es t) : PE X (.List es pos) (tLstA t) := by
  refine ⟨fun pins s σ H Q I h => wpAny_List_spliced (thn (ht.run pos pins s σ H _ I h) ?_)⟩
  rintro us s1 ⟨xs, H1, I1, r, hz, q⟩
  have hl := r.length
  have np := I1.hok.fresh (Nat.le_refl s1.heap.objs.size)
  exact ⟨by rw [← hl]; exact hz, .ref s1.heap.objs.size, _, I1.laid (o := .lst xs) (t' := s1.toks) (fun b u e => Heap.get?_push_of_some _ e) (Nat.le_refl _) ⟨hz, us, 0, r, Heap.get?_push_size _ rfl⟩, rfl, q _ _ (same_new np) np (Nat.ne_of_gt I1.big) upd_same⟩
theorem op_catA' : OpR X (binaryOp .Add) rCatA := by
  intro pins s σ H x y v u Q I rx ry h
  obtain ⟨l, b, xs, zs, h1, h2, h3, h4, h5, q⟩ := h
  exact op_catN pins s σ H x y v u Q I rx ry ⟨l, b, xs, zs, h1, h2, h3, h4, h5, fun p np ns => q p _ (same_new np) np ns upd_same⟩
def tTupA (t : TA) : TE := fun σ H Q => t σ H fun xs H1 => xs.length ≤ sizeLine ∧ ∀ p H', Same H1 H' → H1 p = none → H' p = some (.tup xs) → Q (.ref p) H'
end
theorem ifF {A B : Prop} (h : B) : if false = true then A else B := h
theorem ifE {c : Bool} {A B : Prop} (e : c = false) (h : B) : if c = true then A else B := by
  rw [e]
  exact h
theorem ifT {c : Bool} {A B : Prop} (e : c = true) (h : A) : if c = true then A else B := by
  rw [e]
  exact h
/-! ### a value with one part otherwise -/
def ods : List PyData := [.none, .bool true, .bool false, .int 0, .int 1, .int 2, .int 4, .int 9, .int 10, .int 30, .int 31, .int (-1), .int (10 ^ 40), .str "a", .str "c", .str "d", .str "", .str "cut", .str "pass", .str "ab", .tuple [], .tuple [.int 0], .tuple [.str "a"], .list [], .dict []]
theorem ods_ok : ∀ d ∈ ods, nodes d ≤ 5 := by decide +kernel
theorem mk_tupB {B : Addr → Prop} {K : PySem.W.Frag} {H : Hp} {p : Addr} {xs : List V} {ds : List PyData} (tb : TB B H) (h : H p = none) (ha : DtAll B K H xs ds) : Dt B K (upd H p (.tup xs)) (.ref p) (.tuple ds) ∧ TB B (upd H p (.tup xs)) ∧ Same H (upd H p (.tup xs)) :=
  ⟨.tup (tb_off tb h) (.inl upd_same) (same_all (same_new h) ha), tb_upd tb, same_new h⟩
section
variable {P : Program} {w : World} {K : PySem.W.Frag} {mg : Str → Option Value} {base : Heap}
theorem scOther : FnScope ["_law_deck_here", "_law_value", "_law_deep", "_law_odd", "_law_at", "_law_way"] ["_law_deck_here", "_law_value", "_law_deep"] (defScope sOther) := ⟨rfl, rfl, rfl, by decide +kernel, rfl, by decide +kernel, by decide +kernel⟩
def spOther (K : PySem.W.Frag) (t : Nat) : Sp := fun vs H Q _ => ∃ (B : Addr → Prop) (a c : Addr) (cells : List Int) (n : Int) (v : V) (d : PyData), vs = [.ref a, v, .int t] ∧ (∀ b, Bd a c b → B b) ∧ TB B H ∧ DeckAt a c cells n H ∧ 0 ≤ n ∧ n + 4 * t ≤ 900000 ∧ t ≤ 1000 ∧ Dt B K H v d ∧ nodes d ≤ 40000 ∧
  ∀ (H' : Hp) (cells' : List Int) (n' : Int) (v' : V) (d' : PyData), DeckAt a c cells' n' H' → n ≤ n' → n' ≤ n + (4 * t + 4) → Keep (Bd a c) H H' → Dt B K H' v' d' → nodes d' ≤ 2 * nodes d + 5 → Q v' H'
theorem no_fn {k : Nat} {f : Addr} {fd : FuncData} {ps : List Str} : FnOk P w K mg base CX0 k f fd ps (fun _ _ _ _ => False) := ⟨fun _ _ _ _ h => h.elim, fun _ _ _ _ _ _ _ _ _ _ _ _ _ h => h.elim⟩
theorem other_body {f fD fO : Addr} {fd fdD fdO : FuncData} {t kk : Nat} {sp : Sp} (F : Fun K "_law_otherwise" "_law_otherwise" sOther f fd) (gB : mg "_law_otherwise" = some (.ref f)) (bB : Binds K fd ["_law_deck_here", "_law_value", "_law_deep"] []) (hk : 2 ≤ kk) (REC : FnOk P w K mg base CX0 kk f fd ["_law_deck_here", "_law_value", "_law_deep"] sp) (hrec : ∀ t', t = t' + 1 → sp = spOther K t')
    (D : FnOk P w K mg base CX0 1 fD fdD ["_law_deck_here", "_law_most"] spDraw) (FD : Fun K "_law_draw" "_law_draw" sDraw fD fdD) (bD : Binds K fdD ["_law_deck_here", "_law_most"] []) (gD : mg "_law_draw" = some (.ref fD))
    (O : FnOk P w K mg base CX0 2 fO fdO ["_law_deck_here", "_law_items"] (spOne K)) (FO : Fun K "_law_one" "_law_one" sOne fO fdO) (bO : Binds K fdO ["_law_deck_here", "_law_items"] []) (gO : mg "_law_one" = some (.ref fO)) (T : Mg mg) :
    FnOk P w K mg base CX0 (kk + 1) f fd ["_law_deck_here", "_law_value", "_law_deep"] (spOther K t) := by
  refine F.ok scOther (fun vs H Q E h => ?_) (fun cdv A outer s H vs Q E hr h => ?_)
  · obtain ⟨B, a, c, cells, n, v, d, rfl, _⟩ := h
    rfl
  · obtain ⟨B, a, c, cells, n, v, d, rfl, hB, tb, dk, n0, n1, t1, hd, hnd, k⟩ := h
    have W : ∀ {H1 H2 : Hp}, Keep (Bd a c) H1 H2 → Keep B H1 H2 := fun k => Keep.wide hB k
    have hu0 := hr.units0
    refine ⟨_, pss_cons (ps_set (i := 3) scOther.nd rfl (.inl rfl) (pe_lst (pa_cons pe_non (pa_cons pe_bl (pa_cons pe_bl (pa_cons pe_int (pa_cons pe_int (pa_cons pe_int (pa_cons pe_int (pa_cons pe_int (pa_cons pe_int (pa_cons pe_int (pa_cons pe_int (pa_cons (pe_un un_neg pe_int) (pa_cons (pe_op op_pow pe_int pe_int) (pa_cons pe_str (pa_cons pe_str (pa_cons pe_str (pa_cons pe_str (pa_cons pe_str (pa_cons pe_str (pa_cons pe_str (pa_cons (pe_tup pa_nil) (pa_cons (pe_tup (pa_cons pe_int pa_nil)) (pa_cons (pe_tup (pa_cons pe_str pa_nil)) (pa_cons pe_nilN (pa_cons pe_dnewK pa_nil)))))))))))))))))))))))))))
      (pss_cons (ps_if (PW.pt (pw_or (pt_not (pt_val (pe_callB (r := rIsi K) call_isi (by rfl) T.isi PyProof.Rows.boot_isinstance (pa_cons (pv 1) (pa_cons (pe_bltn (v := .ty "tuple") (by rfl) T.tuple PyProof.Rows.boot_tuple rfl) pa_nil))))) (pw_or (pt_cmpR (op_eqNilT hu0) (pv 1) (pe_tup pa_nil) (nomark _)) (pw_or (pt_cmpR op_eq (pv 2) pe_int (nomark _)) (pw_or1 (pt_cmpR op_eq (pe_call D (hr.mono (by omega)) (by rfl) gD FD.kp bD .nil pass0 (pa_cons (pv 0) (pa_cons pe_int pa_nil))) pe_int (nomark _)))))))
        (pss_one (ps_ret (pe_call O (hr.mono hk) (by rfl) gO FO.kp bO .nil pass0 (pa_cons (pv 0) (pa_cons (pv 3) pa_nil))))) pss_nil)
      (pss_cons (ps_par (i := 4) (j := 5) rfl scOther.nd rfl rfl (by decide) rfl rfl (pa_cons (pe_call D (hr.mono (by omega)) (by rfl) gD FD.kp bD .nil pass0 (pa_cons (pv 0) (pa_cons (pe_callB call_len_seq (by rfl) T.len PySem.boot_len (pa_cons (pv 1) pa_nil)) pa_nil))) (pa_cons (pe_call D (hr.mono (by omega)) (by rfl) gD FD.kp bD .nil pass0 (pa_cons (pv 0) (pa_cons pe_int pa_nil))) pa_nil)) (by rfl))
      (pss_cons (ps_if (pt_cmpR op_eq (pv 5) pe_int (nomark _)) (pss_one (ps_ret (pe_op op_catS (pe_slice sl_tupS (pv 1) po_none (po_some (pv 4))) (pe_slice sl_tupS (pv 1) (po_some (pe_op op_add (pv 4) pe_int)) po_none)))) pss_nil)
      (pss_cons (ps_if (pt_cmpR op_eq (pv 5) pe_int (nomark _)) (pss_one (ps_ret (pe_op op_catS (pv 1) (pe_slice sl_tupS (pv 1) (po_some (pv 4)) (po_some (pe_op op_add (pv 4) pe_int)))))) pss_nil)
      (pss_cons (ps_if (pt_cmpR op_eq (pv 5) pe_int (nomark _)) (pss_one (ps_ret (pe_callTy call_listN (by rfl) T.list (by decide +kernel) (pa_cons (pv 1) pa_nil)))) pss_nil)
      (pss_cons (ps_if (pt_cmpR op_eq (pv 5) pe_int (nomark _)) (pss_one (ps_ret (pe_revR (pv 1)))) pss_nil)
      (pss_one (ps_ret (pe_op op_catS (pe_op op_catS (pe_slice sl_tupS (pv 1) po_none (po_some (pv 4))) (pe_tup (pa_cons (pe_call REC hr (by rfl) gB F.kp bB .nil pass0 (pa_cons (pv 0) (pa_cons (pe_ix ix_tup (pv 1) (pv 4) (fun _ _ => rfl)) (pa_cons (pe_op op_sub (pv 2) pe_int) pa_nil)))) pa_nil))) (pe_slice sl_tupS (pv 1) (po_some (pe_op op_add (pv 4) pe_int)) po_none)))))))))), ?_⟩
    refine ⟨1, rfl, 10, 40, rfl, rfl, ⟨by decide, by decide, by decide⟩, by show 0 ≤ sizeLine; decide, fun p1 e1 => ?_⟩
    obtain ⟨D1, tb1, s1⟩ := mk_tupB (K := K) (xs := []) (ds := []) tb e1 .nil
    have dk1 := deck_same s1 dk
    generalize upd H p1 (HO.tup []) = G1 at *
    refine ⟨by show 1 ≤ sizeLine; decide, fun p2 e2 => ?_⟩
    obtain ⟨D2, tb2, s2⟩ := mk_tupB (K := K) (xs := [.int 0]) tb1 e2 (.cons (.int _) .nil)
    have dk2 := deck_same s2 dk1
    generalize upd G1 p2 (HO.tup [.int 0]) = G2 at *
    refine ⟨by show 1 ≤ sizeLine; decide, fun p3 e3 => ?_⟩
    obtain ⟨D3, tb3, s3⟩ := mk_tupB (K := K) (xs := [.str "a"]) tb2 e3 (.cons (.str _) .nil)
    have dk3 := deck_same s3 dk2
    generalize upd G2 p3 (HO.tup [.str "a"]) = G3 at *
    intro p4 e4 m4
    have D4 : Dt B K (upd G3 p4 (.lst [])) (.ref p4) (.list []) := .lst (tb_off tb3 e4) m4 (.inl upd_same) .nil
    have s4 := same_new (o := .lst []) e4
    have tb4 := tb_upd (p := p4) (o := .lst []) tb3
    have dk4 := deck_same s4 dk3
    generalize upd G3 p4 (HO.lst []) = G4 at *
    intro p5 e5
    have D5 : Dt B K (upd G4 p5 (.dK [])) (.ref p5) (.dict []) := .emp (tb_off tb4 e5) upd_same
    have s5 := same_new (o := .dK []) e5
    have tb5 := tb_upd (p := p5) (o := .dK []) tb4
    have dk5 := deck_same s5 dk4
    generalize upd G4 p5 (HO.dK []) = G5 at *
    refine ⟨by show 25 ≤ sizeLine; decide, fun O9 h9 => ?_⟩
    have nO := deck_off dk5 h9
    have hall : DtAll B K G5 [.non, .bl true, .bl false, .int 0, .int 1, .int 2, .int 4, .int 9, .int 10, .int 30, .int 31, .int (-1), .int (10 ^ 40), .str "a", .str "c", .str "d", .str "", .str "cut", .str "pass", .str "ab", .ref p1, .ref p2, .ref p3, .ref p4, .ref p5] ods :=
      .cons .non (.cons (.bl _) (.cons (.bl _) (.cons (.int _) (.cons (.int _) (.cons (.int _) (.cons (.int _) (.cons (.int _) (.cons (.int _) (.cons (.int _) (.cons (.int _) (.cons (.int _) (.cons (.int _) (.cons (.str _) (.cons (.str _) (.cons (.str _) (.cons (.str _) (.cons (.str _) (.cons (.str _) (.cons (.str _)
        (.cons (same_dt (s2.trans (s3.trans (s4.trans s5))) D1) (.cons (same_dt (s3.trans (s4.trans s5)) D2) (.cons (same_dt (s4.trans s5) D3) (.cons (same_dt s5 D4) (.cons D5 .nil))))))))))))))))))))))))
    have c5 := s1.trans (s2.trans (s3.trans (s4.trans s5)))
    have xdef : ∃ xs : List V, xs = [.non, .bl true, .bl false, .int 0, .int 1, .int 2, .int 4, .int 9, .int 10, .int 30, .int 31, .int (-1), .int (10 ^ 40), .str "a", .str "c", .str "d", .str "", .str "cut", .str "pass", .str "ab", .ref p1, .ref p2, .ref p3, .ref p4, .ref p5] := ⟨_, rfl⟩
    obtain ⟨od, hod⟩ := xdef
    rw [← hod] at hall
    have odne : od ≠ [] := by
      rw [hod]
      exact List.cons_ne_nil _ _
    have odl : od.length ≤ 1000 := by
      rw [hod]
      show 25 ≤ 1000
      decide
    have s9 : Same G5 (upd G5 O9 (.lst od)) := same_new h9
    have hO9 : upd G5 O9 (.lst od) O9 = some (.lst od) := upd_same
    have tb9 := tb_upd (p := O9) (o := .lst od) tb5
    have dk9 := deck_same s9 dk5
    have c0 : Keep (Bd a c) H (upd G5 O9 (.lst od)) := Keep.same (c5.trans s9)
    have hall9 := same_all s9 hall
    have hdO := Dt.keep (W c0) _ _ hd
    show gName 3 (V.ref O9) _ (upd G5 O9 (.lst [.non, .bl true, .bl false, .int 0, .int 1, .int 2, .int 4, .int 9, .int 10, .int 30, .int 31, .int (-1), .int (10 ^ 40), .str "a", .str "c", .str "d", .str "", .str "cut", .str "pass", .str "ab", .ref p1, .ref p2, .ref p3, .ref p4, .ref p5])) _
    rw [← hod]
    clear hall hod D1 D2 D3 D4 D5
    generalize upd G5 O9 (HO.lst od) = G9 at *
    have fin : ∀ (H' : Hp) (cells' : List Int) (n' : Int), DeckAt a c cells' n' H' → n ≤ n' → n' ≤ n + 1 → Keep (Bd a c) G9 H' → spOne K [.ref a, .ref O9] H' (fun v' H'' => Q v' H'') E0 := fun H' cells' n' dk' h1' h2' kp => by
      refine ⟨a, c, O9, cells', n', _, rfl, dk', by omega, by omega, SqL.of (kp _ _ nO hO9), nO, odne, odl, fun H'' cells'' x hx dk'' kk => ?_⟩
      obtain ⟨i, hi⟩ := List.getElem?_of_mem hx
      obtain ⟨d', hd1, hd2⟩ := hall9.getV hi
      have o2 := ods_ok d' (List.mem_of_getElem? hd1)
      have hp := nodes_pos d
      exact k H'' cells'' (n' + 1) x d' dk'' (by omega) (by omega) (c0.trans (kp.trans kk)) (Dt.keep (W (kp.trans kk)) _ _ hd2) (by omega)
    refine ⟨v, rfl, v, .ty "tuple", _, _, _, rfl, .ty _, tyD hdO, kitT d, _, rfl, ?_⟩
    cases d with
    | none => exact ⟨_, rfl, _, rfl, fin _ cells n dk9 (Int.le_refl _) (by omega) Keep.rfl'⟩
    | bool _ => exact ⟨_, rfl, _, rfl, fin _ cells n dk9 (Int.le_refl _) (by omega) Keep.rfl'⟩
    | int _ => exact ⟨_, rfl, _, rfl, fin _ cells n dk9 (Int.le_refl _) (by omega) Keep.rfl'⟩
    | str _ => exact ⟨_, rfl, _, rfl, fin _ cells n dk9 (Int.le_refl _) (by omega) Keep.rfl'⟩
    | list _ => exact ⟨_, rfl, _, rfl, fin _ cells n dk9 (Int.le_refl _) (by omega) Keep.rfl'⟩
    | dict _ => exact ⟨_, rfl, _, rfl, fin _ cells n dk9 (Int.le_refl _) (by omega) Keep.rfl'⟩
    | tuple ds =>
      obtain ⟨p, xs, rfl, np, hs, ha, hl⟩ := hdO.tup_rd
      have npd : ¬ Bd a c p := fun z => np (hB p z)
      rw [nodes_tup] at hnd
      have lds := len_nodes ds
      refine ⟨.ref p, rfl, by show 0 ≤ sizeLine; decide, fun e he => ?_⟩
      have ke := keep_new (B := Bd a c) (o := .tup []) he
      have dke := deck_new (o := .tup []) dk9 he
      have tbe := tb_upd (p := e) (o := .tup []) tb9
      have hse := ke.rd npd hs
      have hae := DtAll.keep (W ke) _ _ ha
      refine ⟨p, e, xs, rfl, rfl, .inl hse, SqT.of upd_same, _, rfl, ite2 (fun ex => ?_) (fun ex => ?_)⟩
      · exact ⟨_, rfl, _, rfl, fin _ cells n dke (Int.le_refl _) (by omega) ke⟩
      · have xne : xs ≠ [] := fun z => ex (decide_eq_true z)
        have lpos : 0 < xs.length := List.length_pos_iff.mpr xne
        refine ⟨_, rfl, rfl, _, rfl, ite2 (fun e0 => ?_) (fun e0 => ?_)⟩
        · exact ⟨_, rfl, _, rfl, fin _ cells n dke (Int.le_refl _) (by omega) ke⟩
        refine ⟨_, rfl, a, c, cells, n, 6, rfl, dke, by decide, by decide, n0, by omega, fun H1 cells1 r1 r10 r16 dk1 k1 => ?_⟩
        refine ⟨rfl, _, rfl, ite2 (fun ez => ?_) (fun ez => ?_)⟩
        · exact ⟨_, rfl, _, rfl, fin _ cells1 (n + 1) dk1 (by omega) (by omega) (ke.trans k1)⟩
        · have hs1 := k1.rd npd hse
          refine ⟨_, rfl, .ref p, rfl, p, xs, rfl, .inr (.inl hs1), a, c, cells1, n + 1, _, rfl, dk1, by omega, by omega, by omega, by omega, fun H2 cells2 r2 r20 r2l dk2 k2 => ?_⟩
          refine ⟨_, rfl, a, c, cells2, n + 1 + 1, 9, rfl, dk2, by decide, by decide, by omega, by omega, fun H3 cells3 r3 r30 r39 dk3 k3 => ?_⟩
          have k13 := k1.trans (k2.trans k3)
          have kall := c0.trans (ke.trans k13)
          have hs3 := k13.rd npd hse
          have tbm := tb_keep tbe dk3 k13
          have ha3 := DtAll.keep (W k13) _ _ hae
          obtain ⟨j, hj, ej⟩ : ∃ j : Nat, j < xs.length ∧ r2 = (j : Int) := ⟨r2.toNat, by omega, by omega⟩
          subst ej
          have hjd : j < ds.length := by omega
          have ct : cutV xs none (some (j : Int)) = xs.take j := cut_take xs j (by omega)
          have cd1 : cutV xs (some ((j : Int) + 1)) none = xs.drop (j + 1) := cut_drop xs (j + 1) (by omega)
          have cm : cutV xs (some (j : Int)) (some ((j : Int) + 1)) = (xs.drop j).take 1 := cut_mid xs j hj
          have nsum : nodesAll ds = nodesAll (ds.take j) + nodesAll (ds.drop j) := by rw [← nodesAll_append, List.take_append_drop]
          have ndrop : nodesAll (ds.drop j) = nodes ds[j] + nodesAll (ds.drop (j + 1)) := by rw [List.drop_eq_getElem_cons hjd, nodesAll_cons]
          refine ⟨_, _, rfl, ?_⟩
          refine ⟨_, rfl, rfl, _, rfl, ite2 (fun ew => ?_) (fun ew => ?_)⟩
          · -- one item less
            refine ⟨_, rfl, _, rfl, (j : Int), rfl, p, xs, rfl, hs3, fun q1 H4 s4 hq1 w1 => ?_⟩
            rw [ct] at hq1
            have dk4 := deck_same s4 dk3
            have tb4 := tb_same s4 tbm
            refine ⟨_, rfl, _, rfl, (j : Int), 1, rfl, rfl, _, rfl, p, xs, rfl, same_rd s4 hs3, fun q2 H5 s5 hq2 w2 => ?_⟩
            rw [cd1] at hq2
            have dk5 := deck_same s5 dk4
            have tb5 := tb_same s5 tb4
            refine ⟨q1, q2, _, _, rfl, rfl, same_rd s5 hq1, hq2, ?_, fun q H6 s6 hq w6 => ?_⟩
            · rw [List.length_take, List.length_drop]
              exact sz_of (by omega)
            · have n1' := nb_of tbm np w1
              have n2' := nb_of tb4 np w2
              have n6' := nb_of2 tb5 n1' n2' w6
              have sall := L2.Same.trans s4 (L2.Same.trans s5 s6)
              refine k H6 cells3 _ (.ref q) (.tuple (ds.take j ++ ds.drop (j + 1))) (deck_same s6 dk5) (by omega) (by omega) (kall.trans (Keep.same sall)) (.tup n6' hq (same_all sall ((ha3.take j).append (ha3.drop (j + 1))))) ?_
              rw [nodes_tup, nodes_tup, nodesAll_append]
              omega
          · refine ⟨_, rfl, rfl, _, rfl, ite2 (fun ew1 => ?_) (fun ew1 => ?_)⟩
            · -- an item twice
              refine ⟨_, rfl, _, rfl, _, rfl, (j : Int), rfl, _, rfl, (j : Int), 1, rfl, rfl, _, rfl, p, xs, rfl, hs3, fun q2 H5 s5 hq2 w2 => ?_⟩
              rw [cm] at hq2
              have dk5 := deck_same s5 dk3
              have tb5 := tb_same s5 tbm
              refine ⟨p, q2, _, _, rfl, rfl, same_rd s5 hs3, hq2, ?_, fun q3 H6 s6 hq3 w3 => ?_⟩
              · rw [List.length_take, List.length_drop]
                exact sz_of (by omega)
              · have n2' := nb_of tbm np w2
                have n3' := nb_of2 tb5 np n2' w3
                have sall := L2.Same.trans s5 s6
                refine k H6 cells3 _ (.ref q3) (.tuple (ds ++ (ds.drop j).take 1)) (deck_same s6 dk5) (by omega) (by omega) (kall.trans (Keep.same sall)) (.tup n3' hq3 (same_all sall (ha3.append ((ha3.drop j).take 1)))) ?_
                have n1d : nodesAll ((ds.drop j).take 1) = nodes ds[j] := by
                  rw [List.drop_eq_getElem_cons hjd, List.take_succ_cons, List.take_zero, nodesAll_cons, nodesAll_nil, Nat.add_zero]
                rw [nodes_tup, nodes_tup, nodesAll_append, n1d]
                omega
            · refine ⟨_, rfl, rfl, _, rfl, ite2 (fun ew2 => ?_) (fun ew2 => ?_)⟩
              · -- a list of it
                refine ⟨_, rfl, p, xs, rfl, .inl hs3, fun q hq nq => ?_⟩
                have sq := same_new (o := .lst xs) hq
                refine k _ cells3 _ (.ref q) (.list ds) (deck_same sq dk3) (by omega) (by omega) (kall.trans (Keep.same sq)) (.lst (tb_off tbm hq) nq (.inl upd_same) (same_all sq ha3)) ?_
                rw [nodes_lst, nodes_tup]
                omega
              · refine ⟨_, rfl, rfl, _, rfl, ite2 (fun ew3 => ?_) (fun ew3 => ?_)⟩
                · -- turned round
                  refine ⟨_, rfl, p, xs, rfl, hs3, fun q hq => ?_⟩
                  have sq := same_new (o := .tup xs.reverse) hq
                  refine k _ cells3 _ (.ref q) (.tuple ds.reverse) (deck_same sq dk3) (by omega) (by omega) (kall.trans (Keep.same sq)) (.tup (tb_off tbm hq) (.inl upd_same) (same_all sq ha3.rev)) ?_
                  rw [nodes_tup, nodes_tup, nodes_rev]
                  omega
                · -- one item otherwise
                  obtain ⟨t', rfl⟩ : ∃ t', t = t' + 1 := by
                    cases t with
                    | zero => exact (e0 (decide_eq_true rfl)).elim
                    | succ t' => exact ⟨t', rfl⟩
                  have hsp := hrec t' rfl
                  subst hsp
                  obtain ⟨vj, hvj, hdj⟩ := ha3.get (List.getElem?_eq_getElem hjd)
                  have mj : ds[j] ∈ ds := List.getElem_mem hjd
                  have mn := mem_nodes mj
                  refine ⟨_, rfl, _, rfl, (j : Int), rfl, p, xs, rfl, hs3, fun q1 H4 s4 hq1 w1 => ?_⟩
                  rw [ct] at hq1
                  have dk4 := deck_same s4 dk3
                  have tb4 := tb_same s4 tbm
                  have n1' := nb_of tbm np w1
                  refine ⟨_, rfl, _, rfl, _, rfl, p, xs, (j : Int), vj, rfl, rfl, .inl (same_rd s4 hs3), atI_nat hvj, _, rfl, ((t' + 1 : Nat) : Int), 1, rfl, rfl, B, a, c, cells3, n + 1 + 1 + 1, vj, ds[j], ?_, hB, tb4, dk4, by omega, by omega, by omega, same_dt s4 hdj, by omega, fun H5 cells5 n5 v5 d5 dk5 m5 m5' k5 hd5 hn5 => ?_⟩
                  · show [V.ref a, vj, V.int (((t' + 1 : Nat) : Int) - 1)] = [V.ref a, vj, V.int (t' : Int)]
                    rw [show (((t' + 1 : Nat) : Int) - 1) = (t' : Int) by omega]
                  · have hq15 := k5.rd (fun z => n1' (hB _ z)) hq1
                    refine ⟨(by show 1 ≤ sizeLine; decide), fun u hu => ?_⟩
                    have su := same_new (o := .tup [v5]) hu
                    have dk6 := deck_same su dk5
                    have tb5 := tb_keep tb4 dk5 k5
                    have tb6 := tb_same su tb5
                    have nu := tb_off tb5 hu
                    refine ⟨q1, u, _, _, rfl, rfl, same_rd su hq15, .inl upd_same, ?_, fun q2 H7 s7 hq2 w2 => ?_⟩
                    · rw [List.length_take, List.length_singleton]
                      exact sz_of (by omega)
                    · have dk7 := deck_same s7 dk6
                      have tb7 := tb_same s7 tb6
                      have n2' := nb_of2 tb6 n1' nu w2
                      have k47 : Keep (Bd a c) H4 H7 := k5.trans (Keep.same (L2.Same.trans su s7))
                      have k37 : Keep (Bd a c) H3 H7 := (Keep.same s4).trans k47
                      refine ⟨_, rfl, _, rfl, (j : Int), 1, rfl, rfl, _, rfl, p, xs, rfl, k37.rd npd hs3, fun q3 H8 s8 hq3 w3 => ?_⟩
                      rw [cd1] at hq3
                      have dk8 := deck_same s8 dk7
                      have tb8 := tb_same s8 tb7
                      have n3' := nb_of tb7 np w3
                      refine ⟨q2, q3, _, _, rfl, rfl, same_rd s8 hq2, hq3, ?_, fun q H9 s9 hq w9 => ?_⟩
                      · rw [List.length_append, List.length_take, List.length_drop, List.length_singleton]
                        exact sz_of (by omega)
                      · have n9' := nb_of2 tb8 n2' n3' w9
                        have k79 := Keep.same (B := Bd a c) (L2.Same.trans s8 s9)
                        have k39 := k37.trans k79
                        have ha9 := DtAll.keep (W k39) _ _ ha3
                        have hd9 : Dt B K H9 v5 d5 := Dt.keep (W ((Keep.same (B := Bd a c) (L2.Same.trans su s7)).trans k79)) _ _ hd5
                        refine k H9 cells5 n5 (.ref q) (.tuple ((ds.take j ++ [d5]) ++ ds.drop (j + 1))) (deck_same s9 dk8) (by omega) (by omega) (kall.trans k39) (.tup n9' hq (((ha9.take j).append (.cons hd9 .nil)).append (ha9.drop (j + 1)))) ?_
                        rw [nodes_tup, nodes_tup, nodesAll_append, nodesAll_append, nodesAll_cons, nodesAll_nil]
                        omega
theorem ok_other {f fD fO : Addr} {fd fdD fdO : FuncData} (F : Fun K "_law_otherwise" "_law_otherwise" sOther f fd) (gB : mg "_law_otherwise" = some (.ref f)) (bB : Binds K fd ["_law_deck_here", "_law_value", "_law_deep"] [])
    (D : FnOk P w K mg base CX0 1 fD fdD ["_law_deck_here", "_law_most"] spDraw) (FD : Fun K "_law_draw" "_law_draw" sDraw fD fdD) (bD : Binds K fdD ["_law_deck_here", "_law_most"] []) (gD : mg "_law_draw" = some (.ref fD))
    (O : FnOk P w K mg base CX0 2 fO fdO ["_law_deck_here", "_law_items"] (spOne K)) (FO : Fun K "_law_one" "_law_one" sOne fO fdO) (bO : Binds K fdO ["_law_deck_here", "_law_items"] []) (gO : mg "_law_one" = some (.ref fO)) (T : Mg mg) :
    ∀ t : Nat, FnOk P w K mg base CX0 (3 + t) f fd ["_law_deck_here", "_law_value", "_law_deep"] (spOther K t)
  | 0 => other_body (kk := 2) F gB bB (Nat.le_refl _) no_fn (fun t' e => nomatch e) D FD bD gD O FO bO gO T
  | t + 1 => other_body (kk := 3 + t) F gB bB (by omega) (ok_other F gB bB D FD bD gD O FO bO gO T t) (fun t' e => by rw [Nat.succ.inj e]) D FD bD gD O FO bO gO T
end
/-! ### more rules: data against a text, walks with numbers -/
section
variable {X : Cx} {prog : Program} {w : World} {A : Around} {E : Value → Shared → Prop} {s : Shared}
/-- {} == a text: neither side answers -/
theorem dct_eq_no (l : Addr) (es : Array DictEntry) (n : Nat) (y : Option Addr) (sl : Array (Option Value)) (b : Str) (u : Tok) :
    Meets (Builtin.«dict.__eq__» ⟨[.ref l, .str b u], []⟩) (fun _ R s => s.heap.get? l = some { cls := .type "dict", dict := y, data := .dict es n, slots := sl } ∧ R (.ok (.ret .notImplemented)) s) := by
  refine .of_wp fun prog w A R s h => ?_
  cases s
  have k1 := h.1
  have k2 := h.2
  have k3 := F.sub_str_dict
  wp_walk using PySem.AutoSeq1.wpAny_loadPart' k1
  exact ⟨_, rfl, k2⟩
end
section
variable {X : Cx} {prog : Program} {w : World} {A : Around} {E : Value → Shared → Prop} {s : Shared}
theorem str_eq_no (b : Str) (u : Tok) (l : Addr) (es : Array DictEntry) (n : Nat) (y : Option Addr) (sl : Array (Option Value)) :
    Meets (Builtin.«str.__eq__» ⟨[.str b u, .ref l], []⟩) (fun _ R s => s.heap.get? l = some { cls := .type "dict", dict := y, data := .dict es n, slots := sl } ∧ R (.ok (.ret .notImplemented)) s) := by
  refine .of_wp fun prog w A R s h => ?_
  cases s
  have k1 := h.1
  have k2 := h.2
  have k3 := F.sub_dict_str
  wp_walk using wpAny_load k1
  exact ⟨_, rfl, k2⟩
def strIs (d : PyData) (z : Str) : Bool := match d with
  | .str x => decide (x = z)
  | _ => false
def rEqStr (K : PySem.W.Frag) : R2 := fun x y H Q => ∃ (B : Addr → Prop) (d : PyData) (z : Str), y = .str z ∧ Dt B K H x d ∧ Q (.bl (strIs d z)) H
theorem op_eqStr (hu : X.A.units < cLine) : OpR X (compareOp .Eq) (rEqStr X.K) := by
  intro pins s σ H x y v u Q I rx ry h
  obtain ⟨B, d, z, rfl, hd, q⟩ := h
  have no : ∀ (x : V), scal x (.str z) = true → x ≠ .str z → RelV x v → Q (.bl false) H → wpAny (model X.prog X.w) X.A (compareOp .Eq v u) (EP X pins σ Q) X.xe s := fun x h1 h2 rx q => op_eq pins s σ H _ _ v u Q I rx ry ⟨h1, by rw [decide_eq_false h2]; exact q⟩
  cases hd with
  | non => exact no .non rfl (by intro h; cases h) rx q
  | bl b => exact no (.bl b) rfl (by intro h; cases h) rx q
  | int i => exact no (.int i) rfl (by intro h; cases h) rx q
  | str x =>
    refine op_eq pins s σ H _ _ v u Q I rx ry ⟨rfl, ?_⟩
    have e : decide (V.str x = V.str z) = decide (x = z) := by
      by_cases e : x = z
      · rw [decide_eq_true e, decide_eq_true (by rw [e])]
      · rw [decide_eq_false e, decide_eq_false (fun h => e (V.str.inj h))]
    rw [e]
    exact q
  | lst nb ne hs ha =>
    cases rx
    obtain ⟨t, rfl⟩ := ry
    obtain ⟨its, rv, pl, _⟩ := I.list (.inl hs)
    exact SeqAt.RcAt.list_str z t pl.isList hu _ _ _ _ ⟨.bl false, H, I, rfl, q⟩
  | tup nb hs ha =>
    cases rx
    obtain ⟨t, rfl⟩ := ry
    obtain ⟨its, rv, pl, _⟩ := I.tuple (.inl hs)
    exact SeqAt.RcAt.tuple_str z t pl hu _ _ _ _ ⟨.bl false, H, I, rfl, q⟩
  | emp nb e =>
    cases rx
    obtain ⟨t, rfl⟩ := ry
    obtain ⟨_, hm, vs, rel, ob, es, ep, ho, hx, hd, _, hp, _⟩ := dk_of I.hok e
    obtain ⟨cls, dd, data, sl⟩ := ob
    have h1 := hx.1
    simp only at h1 hd
    subst h1 hd
    exact SeqAt.rc_eq_decline_or (k := false) ⟨_, ho, rfl⟩ (typeIs_str s z t) (by decide) F.sub_str_dict F.slot_dict_eq F.slot_str_eq_refl
      (fun _ hq => call_meets F.slot_dict_eq ⟨_, ho, rfl⟩ F.entry_dict_eq (F.args_dict_eq_2 _ _) (dct_eq_no _ es _ _ _ z t) ⟨ho, hq⟩)
      (fun _ hq => call_meets F.slot_str_eq_refl (typeIs_str s z t) F.entry_str_eq (F.args_str_eq_2 _ _) (str_eq_no z t _ es _ _ _) ⟨ho, hq⟩)
      (fun _ hq => wpAny_of_eq (rfl : isSame (.ref _) (.str z t) = pure false) hq) (.inr hu) ⟨.bl false, H, I, rfl, q⟩
end
section
variable {X : Cx}
theorem ext_tup (l : Addr) (xs : Array Value) (n : Nat) (b : Addr) (ys : Array Value) (m : Nat) (y : Option Addr) (sl : Array (Option Value)) (h0 : ¬(!xs.isEmpty && Builtin.List.listTooLong (xs.size + ys.size)) = true) (h1 : xs.size ≤ sizeLine) (h2 : xs.size + ys.size ≤ sizeLine + 1) :
    Meets (Builtin.«list.extend» ⟨[.ref l, .ref b], []⟩) (fun _ R s => s.heap.get? l = some { cls := .type "list", dict := none, data := .seq xs n, slots := #[] } ∧ s.heap.get? b = some { cls := .type "tuple", dict := y, data := .seq ys m, slots := sl } ∧
      R (.ok (.ret Value.none)) { s with heap := s.heap.update l (Obj.mapSeq fun x => x ++ ys), toks := s.toks }) := by
  refine .of_wp fun prog w A R s h => ?_
  cases s
  have k1 := h.1
  have k2 := h.2.1
  have k3 := h.2.2
  have t1 := AutoSeq1.idx_int
  have t2 := AutoSeq1.sub_tuple_tuple
  have t3 := AutoSeq1.sub_list_list
  have t4 := AutoSeq1.sub_tuple_list
  have t5 := AutoSeq1.sub_list_tuple
  have k4 : (xs ++ ys).size ≤ sizeLine + 1 := by
    rw [Array.size_append]
    exact h2
  wp_walk using (PySem.wpAny_updateSeq k1 rfl (hz := h1) (_hz' := k4)), AutoSeq1.wpAny_loadPart' k1, AutoSeq1.wpAny_loadPart' k2
  exact ⟨_, rfl, k3⟩
def rExtT (K : PySem.W.Frag) : V → List V → Hp → VK → Prop := fun x vs H Q => ∃ l b xs zs, x = .ref l ∧ vs = [.ref b] ∧ H l = some (.lst xs) ∧ SqT K H b zs ∧ xs.length + zs.length ≤ sizeLine ∧ Q .non (upd H l (.lst (xs ++ zs)))
theorem mt_extT : MtM X "list.extend" (rExtT X.K) := by
  intro pins s σ H x vs v us Q I rx rv h
  obtain ⟨l, b, xs, zs, rfl, rfl, hl, hb, hz, q⟩ := h
  cases rx
  obtain ⟨u, rfl, ru⟩ := rv.one
  cases ru
  obtain ⟨z, its, n, r, hz1, e⟩ := I.lstM hl
  obtain ⟨jts, r2, ⟨⟨cls, y, data, sl⟩, ho, hc, m, hd⟩, hz2⟩ := I.tuple hb
  simp only at hc hd
  subst hc hd
  have a1 := r.length
  have a2 := r2.length
  have hsz : its.toArray.size + jts.toArray.size ≤ sizeLine := by
    rw [List.size_toArray, List.size_toArray]
    omega
  have hno : ¬ (!its.toArray.isEmpty && Builtin.List.listTooLong (its.toArray.size + jts.toArray.size)) = true := by
    rw [notLongL hsz, Bool.and_false]
    exact Bool.false_ne_true
  refine call_meets F.slot_list_extend ⟨_, e, rfl⟩ F.entry_list_extend (F.args_list_extend_2 _ _) (ext_tup l its.toArray n b jts.toArray m y sl hno (by rw [List.size_toArray]; omega) (by omega)) ⟨e, ho, ?_⟩
  exact ⟨.non, _, I.lset (its' := its ++ jts) hl e (by simp) (r.append r2) (by rw [List.length_append]; omega), rfl, q⟩
end
section
variable {X : Cx}
theorem mul_emp (l : Addr) (n : Nat) (y : Option Addr) (sl : Array (Option Value)) (u : Tok) :
    Meets (Builtin.«tuple.__mul__» ⟨[.ref l, .int 2 u], []⟩) (fun _ R s => s.heap.get? l = some { cls := .type "tuple", dict := y, data := .seq #[] n, slots := sl } ∧ R (.ok (.ret (Value.ref l))) s) := by
  refine .of_wp fun prog w A R s h => ?_
  cases s
  have k1 := h.1
  have k2 := h.2
  have k3 := AutoSeq1.idx_int
  wp_walk using AutoSeq1.wpAny_loadPart' k1
  exact ⟨_, rfl, k2⟩
end
section
variable {X : Cx}
theorem vals_signs {z : Str} : ∀ (n : Nat) (acc : List Value), acc.length = n → (∀ (j : Nat) (v : Value), acc[j]? = some v → ∃ c u, (z.cps.toList.take n)[j]? = some c ∧ v = Value.str ⟨#[c]⟩ u) → n ≤ z.cps.toList.length → Vals ((z.cps.toList.take n).map fun c => V.str ⟨#[c]⟩) acc := by
  generalize z.cps.toList = cs
  intro n acc hl hj hn
  induction acc generalizing n cs with
  | nil =>
    rw [← hl, List.length_nil, List.take_zero]
    exact .nil
  | cons v acc ih =>
    cases cs with
    | nil =>
      rw [List.length_nil] at hn
      rw [List.length_cons] at hl
      omega
    | cons c cs =>
      cases n with
      | zero => cases hl
      | succ n =>
        rw [List.take_succ_cons, List.map_cons]
        obtain ⟨c', u, h1, rfl⟩ := hj 0 v rfl
        rw [List.take_succ_cons] at h1
        cases h1
        refine .cons ⟨u, rfl⟩ (ih cs n (by simpa using hl) (fun j x hx => ?_) (by simpa using hn))
        obtain ⟨c2, u2, h2, h3⟩ := hj (j + 1) x (by simpa using hx)
        exact ⟨c2, u2, by simpa using h2, h3⟩
def rTupS : List V → Hp → VK → Prop := fun xs H Q => ∃ z : Str, xs = [.str z] ∧ z.length ≤ sizeLine ∧ ∀ p H', Same H H' → H p = none → H' p = some (.tup (z.cps.toList.map fun c => V.str ⟨#[c]⟩)) → Q (.ref p) H'
theorem call_tupS (hc : X.calm = true) : CallR X (.type "tuple") rTupS := by
  intro pins s σ H xs us Q I r h
  obtain ⟨z, rfl, hz, q⟩ := h
  obtain ⟨u, rfl, rx⟩ := vals1 r
  obtain ⟨t, rfl⟩ := rx
  refine call_tuple_str (I.ok.hd hc) z t (fun h' tk acc hk ha => ?_) hz
  have I1 : Inv X pins σ H { s with heap := h', toks := tk } := I.kept hk
  have hv : Vals (z.cps.toList.map fun c => V.str ⟨#[c]⟩) acc.toList := by
    have q1 := vals_signs (z := z) z.cps.toList.length acc.toList (by rw [Array.length_toList, ha.1, Array.length_toList]) (fun j v hv => ?_) (Nat.le_refl _)
    · rw [List.take_length] at q1
      exact q1
    · obtain ⟨c, u, h1, h2⟩ := ha.2 j v (by rw [← Array.getElem?_toList]; exact hv)
      exact ⟨c, u, by rw [List.take_length, Array.getElem?_toList]; exact h1, h2⟩
  have np := I1.fresh
  refine ⟨.ref h'.objs.size, _, I1.laid (o := .tup (z.cps.toList.map fun c => V.str ⟨#[c]⟩)) (t' := tk) (fun b o e => Heap.get?_push_of_some _ e) (Nat.le_refl _) ⟨?_, acc.toList, hv, ⟨_, Heap.get?_push_size _ rfl, rfl, _, rfl⟩⟩, rfl, q _ _ (same_new np) np upd_same⟩
  rw [List.length_map, Array.length_toList]
  exact hz
end
section
variable {X : Cx}
/-- t * 2 -/
def rRep2 (K : PySem.W.Frag) : R2 := fun x y H Q => ∃ l xs, x = .ref l ∧ y = .int 2 ∧ Rd H l (.tup xs) ∧ xs.length ≤ 1000 ∧ ∀ q H', Same H H' → Rd H' q (.tup (xs ++ xs)) → (q = l ∨ H q = none) → Q (.ref q) H'
theorem op_rep2 : OpR X (binaryOp .Mult) (rRep2 X.K) := by
  intro pins s σ H x y v u Q I rx ry h
  obtain ⟨l, xs, rfl, rfl, hT, hz, q⟩ := h
  cases xs with
  | cons z zs =>
    refine op_repT pins s σ H _ _ v u Q I rx ry ⟨l, 2, z :: zs, rfl, rfl, .inl hT, by simp, by decide, by decide, hz, fun p hp => ?_⟩
    rw [show (List.replicate (2 : Int).toNat (z :: zs)).flatten = (z :: zs) ++ (z :: zs) by rw [show (2 : Int).toNat = 2 from rfl, List.replicate_succ, List.replicate_succ, List.replicate_zero, List.flatten_cons, List.flatten_cons, List.flatten_nil, List.append_nil]]
    exact q p _ (same_new hp) (.inl upd_same) (.inr hp)
  | nil =>
    cases rx
    obtain ⟨t, rfl⟩ := ry
    obtain ⟨its, r, ⟨⟨cls, y, data, sl⟩, ho, hc, n, hd⟩, _⟩ := I.tuple (.inl hT)
    cases r
    simp only at hc hd
    subst hc hd
    exact wpAny_binaryOp_repeat_ref (T := "tuple") (U := "int") (by decide) ⟨_, ho, rfl⟩ (fun s' => typeIs_int s' 2 t) noFill_tuple_mul F.fills_int_mul F.slot_int_rmul repeat_tuple F.slot_int_index.lookup
      (call_meets F.slot_int_rmul (typeIs_int s 2 t) F.entry_int_rmul (F.args_int_rmul_2 _ _) (int_rmul_tuple 2 t l #[] n y sl)
        ⟨ho, rfl, ⟨_, ho, rfl⟩, call_meets F.slot_tuple_mul ⟨_, ho, rfl⟩ F.entry_tuple_mul (F.args_tuple_mul_2 _ _) (mul_emp l n y sl t) ⟨ho, .ref l, H, I, rfl, q l H (Same.refl H) hT (.inl rfl)⟩⟩)
end
/-! ### how many unlike texts a list has, by way of a set -/
def stp (acc : List Str) (x : Str) : List Str := if acc.any (· == x) = true then acc else acc ++ [x]
def dd (xs : List Str) : List Str := xs.foldl stp []
theorem dd_snoc (xs : List Str) (x : Str) : dd (xs ++ [x]) = stp (dd xs) x := by
  unfold dd
  rw [List.foldl_append, List.foldl_cons, List.foldl_nil]
theorem stp_any (acc : List Str) (x k : Str) : (stp acc x).any (· == k) = (acc.any (· == k) || decide (k = x)) := by
  unfold stp
  split
  · rename_i h
    by_cases e : k = x
    · rw [e, h]
      rfl
    · rw [decide_eq_false e, Bool.or_false]
  · rw [List.any_append, List.any_cons, List.any_nil, Bool.or_false]
    congr 1
    by_cases e : k = x
    · rw [decide_eq_true e, e, beq_self_eq_true]
    · rw [decide_eq_false e]
      exact beq_false_of_ne fun z => e z.symm
theorem stp_len (acc : List Str) (x : Str) : (stp acc x).length = if acc.any (· == x) then acc.length else acc.length + 1 := by
  unfold stp
  split <;> simp
theorem dd_le (xs : List Str) : (dd xs).length ≤ xs.length := by
  have h : ∀ (ys acc : List Str), (ys.foldl stp acc).length ≤ acc.length + ys.length := fun ys => by
    induction ys with
    | nil => exact fun acc => Nat.le_refl _
    | cons y ys ih =>
      intro acc
      have := ih (stp acc y)
      have e := stp_len acc y
      rw [List.foldl_cons, List.length_cons]
      split at e <;> omega
  have := h xs []
  rw [List.length_nil, Nat.zero_add] at this
  exact this
theorem take_snoc {xs : List Str} {i : Nat} (h : i < xs.length) : xs.take (i + 1) = xs.take i ++ [xs.getD i Str.empty] := by
  rw [List.take_add_one, List.getD_eq_getElem?_getD, List.getElem?_eq_getElem h]
  rfl
theorem set_as {P : Program} {w : World} {h : Heap} {a : Addr} {S S2 : Str → Bool} {n m : Nat} (q : h.SetOf (PySem.strKind P w) a S n) (e1 : ∀ k, S k = S2 k) (e2 : n = m) : h.SetOf (PySem.strKind P w) a S2 m := by
  cases e2
  rw [← funext e1]
  exact q
section
variable {prog : Program} {w : World} {A : Around} {R : Result → Shared → Prop} {I S : Addr} {fp wr : List Addr} {G : Array GenState → Array GenState → Prop} {n : Nat} {P : Nat → Value → Prop} {St : Nat → Shared → Prop}
theorem set_keep {s s' : Shared} {F : Str → Bool} {m : Nat} (q : s.heap.SetOf (PySem.strKind prog w) S F m) (k : ∀ o, s.heap.get? S = some o → s'.heap.get? S = some o) : s'.heap.SetOf (PySem.strKind prog w) S F m := by
  obtain ⟨o, e1, e2, e3, e4, e5⟩ := q
  exact ⟨o, e1, e2, e3, k _ e4, e5⟩
theorem set_walk (W : WalksS prog w A.in1 I fp wr G n P St) (no : S ∉ fp) (xs : List Str) (hx : xs.length = n) (hb : n + 1 < scanBound) (hv : ∀ i v, P i v → ∃ t, v = .str (xs.getD i Str.empty) t) :
    ∀ (k i : Nat) (s : Shared), i + k = n → St i s → s.heap.SetOf (PySem.strKind prog w) S (fun z => (dd (xs.take i)).any (· == z)) (dd (xs.take i)).length →
      (∀ s2, Moved (S :: wr) G s s2 → s2.heap.SetOf (PySem.strKind prog w) S (fun z => (dd xs).any (· == z)) (dd xs).length → R (.ok (.ret .none)) s2) →
      codeAny (model prog w) A (.builtin "set.update.loop" ⟨[.ref S, .ref I], []⟩) R s
  | 0, i, s, hk, st, q, fin => by
    have nw : S ∉ wr := fun z => no (W.sub _ z)
    rw [List.take_of_length_le (by omega)] at q
    refine codeAny_builtin PyProof.Rows.F.entry_set_update_loop (by
      rw [Around.under_plainId PyProof.Rows.F.plain_set_update_loop _]
      refine wpAny_bind (W.done s _ _ (by rw [show n = i by omega]; exact st) fun s2 mv => ?_)
      exact wpAny_pure (fin s2 (mv.mono fun b z => List.mem_cons_of_mem _ z) (set_keep q fun o e => mv.heap S _ nw e)))
  | k + 1, i, s, hk, st, q, fin => by
    have nw : S ∉ wr := fun z => no (W.sub _ z)
    have sub : ∀ b ∈ wr, b ∈ S :: wr := fun b z => List.mem_cons_of_mem _ z
    refine codeAny_builtin PyProof.Rows.F.entry_set_update_loop (by
      rw [Around.under_plainId PyProof.Rows.F.plain_set_update_loop _]
      refine wpAny_bind (W.item i s _ _ (by omega) st fun v s2 hP st2 mv => ?_)
      obtain ⟨t, rfl⟩ := hv i v hP
      have q2 : s2.heap.SetOf _ S _ _ := set_keep q fun o e => mv.heap S _ nw e
      refine wpAny_bind (wpAny_holding (m := setAdd S (.str (xs.getD i Str.empty) t)) ?_)
      refine wpAny_holding (wpAny_bind ((PySem.strKind prog w).pyHash (k := xs.getD i Str.empty) (strKind_is _ _ _ _) ?_))
      refine wpAny_setAddHashed_of (knd := PySem.strKind prog w) (s := { s2 with toks := s2.toks + 1 }) (strKind_is _ _ _ _) rfl q2 (Nat.lt_of_le_of_lt (Nat.succ_le_succ (Nat.le_trans (dd_le _) (by rw [List.length_take]; omega : _ ≤ n))) hb) fun h3 sb q3 => ?_
      have q4 : h3.SetOf (PySem.strKind prog w) S (fun z => (dd (xs.take (i + 1))).any (· == z)) (dd (xs.take (i + 1))).length := by
        refine set_as q3 (fun z => ?_) ?_
        · rw [take_snoc (by omega), dd_snoc, stp_any]
        · rw [take_snoc (by omega), dd_snoc, stp_len]
      refine wpAny_pure ⟨plainId_quiet PyProof.Rows.F.plain_set_update_loop _, set_walk W no xs hx hb hv k (i + 1) _ (by omega) (W.frame _ s2 _ _ st2 (Nat.le_succ _) fun b hb2 o e => ?_) q4 fun s4 mv4 q5 => ?_⟩
      · rw [sb.2 b fun z => no (z ▸ hb2)]
        exact e
      · refine fin s4 (Moved.trans W.gtrans ((mv.mono sub).then_heap (Nat.le_succ _) fun b o nb e => ?_) mv4) q5
        rw [sb.2 b fun z => nb (z ▸ List.mem_cons_self)]
        exact e)
end
section
variable {prog : Program} {w : World} {A : Around} {E : Value → Shared → Prop} {s : Shared}
abbrev newSet (b : Bool) : Obj := { cls := .type "set", dict := none, data := .set #[] 0 (.fresh 0 0 b) }
set_option maxHeartbeats 4000000 in
theorem set_of_texts {l : Addr} {vs : Array Value} {xs : List Str} {Q : Value → Shared → Prop} (nh : A.handled = none) (hl : s.heap.IsList l vs) (hi : PyProof.Rows.StrsAre vs.toList xs) (hb : xs.length + 1 < scanBound)
    (fin : ∀ (h2 : Heap) (tk : Nat), h2.SetOf (PySem.strKind prog w) s.heap.objs.size (fun z => (dd xs).any (· == z)) (dd xs).length → (∀ b o, b < s.heap.objs.size → s.heap.get? b = some o → h2.get? b = some o) → Q (.ref s.heap.objs.size) { s with heap := h2, toks := tk }) :
    wpAny (model prog w) A (call (.type "set") [.ref l]) Q E s := by
  have c1 := PySem.F.called_set.made
  have c2 := PySem.F.called_set.sub
  have c3 := PySem.F.called_set.notType
  have c4 := PySem.F.called_set.canCreate
  have c5 := PySem.F.typeCall_set_1 (.ref l)
  obtain ⟨_, _, c6⟩ := PySem.F.called_set.mro
  refine wpAny_call (codeAny_of_tree (show wpAny _ _ (callAny (.type "set") _) _ _ _ from wpAny_pure ⟨Code.quiet_builtin _ (by decide +kernel), codeAny_builtin PySem.F.entry_type_call ?_⟩))
  rw [Around.under_plain (weight_type_call_type "set" [.ref l] []) rfl]
  repeat (any_goals (first | assumption | wp_step))
  refine codeAny_mono (code_set_new_1 (.ref l) (E := E) (Q₁ := fun v t => ∃ b : Bool, v = .ref s.heap.objs.size ∧ t = { s with heap := s.heap.push (newSet b) }) fun b => ⟨b, rfl, rfl⟩) fun r s1 hr => ?_
  match r, hr with
  | .error e, hr => exact hr
  | .ok (.ret v), hr =>
    obtain ⟨b, rfl, rfl⟩ := hr
    have n1 : (s.heap.push (newSet b)).get? s.heap.objs.size = some (newSet b) := Heap.get?_push_size _ rfl
    have n2 : Shared.TypeIs { s with heap := s.heap.push (newSet b) } (.ref s.heap.objs.size) "set" := ⟨_, n1, rfl⟩
    have c7 := PySem.F.called_set.init.lookup
    have c8 := PySem.F.called_set.init.bind (.ref s.heap.objs.size)
    repeat (any_goals (first | assumption | wp_step))
    refine codeAny_mono (codeAny_call_builtin (R := wants (fun v t => v = .none ∧ ∃ h2 tk, t = { s with heap := h2, toks := tk } ∧ h2.SetOf (PySem.strKind prog w) s.heap.objs.size (fun z => (dd xs).any (· == z)) (dd xs).length ∧ ∀ b o, b < s.heap.objs.size → s.heap.get? b = some o → h2.get? b = some o) E)
      PySem.F.called_set.init.plain PySem.F.entry_set_init (check_set_init_1 n2 ?_)) fun r2 s2 hr2 => ?_
    · obtain ⟨⟨cls, dct, data, sl⟩, ho, hc, m, hd⟩ := hl
      simp only at hc hd
      cases hc
      cases hd
      have n3 : (s.heap.push (newSet b)).get? l = some { cls := .type "list", dict := dct, data := .seq vs m, slots := sl } := Heap.get?_push_of_some _ ho
      have n4 := PySem.F.sub_list_set
      have n5 := PySem.F.sub_list_frozenset
      have n6 : (Value.type "list" == Value.type "dict") = false := by decide
      have n7 : (s.heap.push (newSet b)).IsList l vs := ⟨_, n3, rfl, m, rfl⟩
      unfold Builtin.«set.__init__» noKeywords Builtin.Frozenset.updateFrom
      generalize hp : pyIter = IT
      wp_walk
      subst hp
      refine wpAny_pyIter_list n7 (wpAny_bind (wpAny_runValue ?_))
      have lt := Heap.lt_size ho
      have z1 : l ≠ (s.heap.push (newSet b)).objs.size := by
        rw [Heap.size_push]
        exact Nat.ne_of_lt (Nat.lt_succ_of_lt lt)
      have z2 : s.heap.objs.size ∉ [(s.heap.push (newSet b)).objs.size, l] := by
        rw [Heap.size_push]
        intro z
        rcases List.mem_cons.mp z with z | z
        · exact Nat.ne_of_lt (Nat.lt_succ_self _) z
        · exact Nat.ne_of_gt lt (List.mem_singleton.mp z)
      have z3 : xs.length = vs.size := by
        rw [← StrsAre.len_eq hi, Array.length_toList]
      refine set_walk ((Walks.list (by simp [nh] : A.in1.in1.in1.handled = none) _ l z1 vs).toS) z2 xs z3 (by omega) (fun i v hv => SS.strs_at hi i v (by rw [Array.getElem?_toList]; exact hv)) vs.size 0 _ (Nat.zero_add _) ⟨⟨_, Heap.get?_push_size _ rfl, rfl, rfl⟩, n7.push _⟩ ?_ ?_
      · exact set_as ((PyProof.Rows.setObjOf_fresh (knd := PySem.strKind prog w) b).setOf (Heap.get?_push_of_some _ n1) (by unfold scanBound; omega)) (fun _ => rfl) rfl
      · rintro ⟨h2, g, dr, tk, os⟩ mv q
        cases (mv.gens : g = s.gens)
        cases (mv.drawn : dr = s.drawn)
        cases (mv.os : os = s.os)
        refine wpAny_pure (show wpAny _ _ (ret Value.none) _ _ _ from wpAny_pure ⟨rfl, h2, tk, rfl, q, fun b2 o lt2 e => mv.heap b2 o ?_ (Heap.get?_push_of_some _ (Heap.get?_push_of_some _ e))⟩)
        rw [Heap.size_push]
        intro z
        rcases List.mem_cons.mp z with z | z
        · exact Nat.ne_of_lt lt2 z
        · exact Nat.ne_of_lt (Nat.lt_succ_of_lt lt2) (List.mem_singleton.mp z)
    · match r2, hr2 with
      | .error e, hr2 => exact hr2
      | .ok (.ret v), hr2 =>
        obtain ⟨rfl, h2, tk, rfl, q, kk⟩ := hr2
        repeat (any_goals (first | assumption | wp_step))
        exact fin _ _ q kk
      | .ok .next, hr2 => exact hr2.elim
      | .ok .brk, hr2 => exact hr2.elim
      | .ok .cont, hr2 => exact hr2.elim
end
section
variable {X : Cx}
/-- len(set(xs)) of a list of texts -/
def tLenSetT (K : PySem.W.Frag) (ta : TE) : TE := fun σ H Q => ta σ H fun x H1 => ∃ (l : Addr) (xs : List Str), x = .ref l ∧ SqL K H1 l (xs.map V.str) ∧ xs.length ≤ 20 ∧ Q (.int (dd xs).length) H1
theorem pe_lenSetT {a : Expr} {ta : TE} {p p2 q pos : Pos} (hc : X.calm = true) (g1 : Gl X "len") (m1 : X.mg "len" = none) (g2 : Gl X "set") (m2 : X.mg "set" = none) (ha : PE X a ta) (na : starEach [a] X.env = (false, eval a X.env) :: starEach [] X.env := by rfl) :
    PE X (.Call (.Name "len" p) [.Call (.Name "set" p2) [a] [] q] [] pos) (tLenSetT X.K ta) := by
  refine ⟨fun pins s σ H Q I h => Call_ (ld_blt I g1 m1 boot_len (PyProof.Rows.callWith_builtin1 (PyProof.Rows.args_cons (Call_ (ld_blt I g2 m2 boot_set (PyProof.Rows.callWith_type1 (PyProof.Rows.args_cons (thn (ha.run pins s σ H _ I h) fun v s1 w => PyProof.Rows.args_nil ?_) na) na rfl))) rfl) rfl rfl))⟩
  obtain ⟨x, H1, I1, r1, l, xs, rfl, hl, hz, k⟩ := w
  cases r1
  obtain ⟨its, r, pl, _⟩ := I1.list hl
  have b1 : xs.length + 1 < scanBound := by
    unfold scanBound
    omega
  have b2 := dd_le xs
  refine set_of_texts (I1.ok.hd hc) pl.isList (by simpa using strsAre_of r) b1 fun h2 tk hS hk => PyProof.Rows.args_nil ?_
  obtain ⟨o, es, ep, t, ho, hex, hd, _, _, _, hf, hn⟩ := hS
  have I2 : Inv X pins σ H1 { s1 with heap := h2, toks := tk } := I1.kept fun b o e => hk b o (Heap.lt_size e) e
  exact call_len_set ho hex hd hf (by rw [hn]; omega) ⟨.int (dd xs).length, H1, I2.tok _, ⟨_, by rw [hn]⟩, k⟩
end
/-! ### enumerate of a tuple -/
abbrev tupIt (l : Addr) : Obj := { cls := .type "tuple_iterator", data := .fields #[.ref l, .int 0 0] }
abbrev enumOb (i : Addr) : Obj := { cls := .type "enumerate", data := .fields #[.none, .bool false, .ref i, rawInt 0, .none, .none] }
theorem enum_tup_new (l : Addr) (xs : Array Value) (n : Nat) (y : Option Addr) (sl : Array (Option Value)) :
    Meets (Builtin.«enumerate.__new__» ⟨[.type "enumerate", .ref l], []⟩) (fun _ R s => s.heap.get? l = some { cls := .type "tuple", dict := y, data := .seq xs n, slots := sl } ∧
      R (.ok (.ret (.ref (s.heap.push (tupIt l)).objs.size))) { s with heap := (s.heap.push (tupIt l)).push (enumOb s.heap.objs.size) }) := by
  refine .of_wp fun prog w A R s h => ?_
  cases s
  have k1 := h.1
  have k2 := h.2
  have k3 := sub_enumerate
  have k4 : Heap.IsTuple _ l xs := ⟨_, k1, rfl, n, rfl⟩
  wp_walk using AutoSeq1.wpAny_loadPart' k1
  refine wpAny_stack_any fun st => wpAny_pure ?_
  split
  · rename_i c _ _ _ _ _
    cases (c == Value.type "enumerate") <;> (wp_walk using AutoSeq1.wpAny_loadPart' k1, wpAny_pyIter_tuple k4 <;> exact ⟨_, rfl, k2⟩)
  · wp_walk using AutoSeq1.wpAny_loadPart' k1, wpAny_pyIter_tuple k4
    exact ⟨_, rfl, k2⟩
section
variable {prog : Program} {w : World} {A : Around} {E : Value → Shared → Prop} {s : Shared}
theorem call_enum_tup {l : Addr} {xs : Array Value} {Q : Value → Shared → Prop} (hl : s.heap.IsTuple l xs)
    (fin : ∀ h2, IsEnum h2 (s.heap.objs.size + 1) s.heap.objs.size 0 .none → h2.IsTupleIter s.heap.objs.size l 0 → (∀ b o, s.heap.get? b = some o → h2.get? b = some o) → Q (.ref (s.heap.objs.size + 1)) { s with heap := h2 }) :
    wpAny (model prog w) A (call (.type "enumerate") [.ref l]) Q E s := by
  obtain ⟨⟨c, y, data, sl⟩, ho, hc, n, hd⟩ := hl
  simp only at hc hd
  cases hc
  cases hd
  have e1 : (s.heap.push (tupIt l)).objs.size = s.heap.objs.size + 1 := Heap.size_push ..
  have e2 : ((s.heap.push (tupIt l)).push (enumOb s.heap.objs.size)).get? (s.heap.objs.size + 1) = some (enumOb s.heap.objs.size) := by
    rw [← e1]
    exact Heap.get?_push_size _ rfl
  refine callType_new F.called_enumerate (by decide) (F.typeCall_enumerate_1 _) (F.newCall_enumerate_1 _) (fun obj => F.args_object_init_2 obj _) F.entry_enumerate_new (enum_tup_new l xs n y sl) ⟨ho, ?_⟩
  rw [e1]
  exact ⟨⟨_, e2, rfl⟩, fin _ e2 ⟨_, Heap.get?_push_of_some _ (Heap.get?_push_size _ rfl), rfl, rfl⟩ fun b o q => Heap.get?_push_of_some _ (Heap.get?_push_of_some _ q)⟩
end
/-- the tuple at a, each item in a new pair behind its number -/
def ItT (K : PySem.W.Frag) (a : Addr) : It :=
  ⟨fun i H => ∃ (xs : List V) (x : V), SqT K H a xs ∧ xs[i]? = some x,
    fun i H v H' => ∃ T x, v = .ref T ∧ H T = none ∧ H' = upd H T (.tup [.int (i : Nat), x]) ∧ ∀ xs, SqT K H a xs → xs[i]? = some x,
    fun i H => ∃ xs : List V, SqT K H a xs ∧ xs.length ≤ i⟩
theorem turn_enumT {P : Program} {w : World} {K : PySem.W.Frag} {elts : List Expr} {kk : Nat} {tpos : Pos} (a e it : Addr) :
    Turn P w K (.Tuple elts kk tpos) (ItT K a) [e, it] e (fun i h => (∃ old, IsEnum h e it ((i : Nat) : Int) old) ∧ h.IsTupleIter it a i ∧ e ≠ it) where
  mem := List.mem_cons_self
  obj := fun i h st b hb => by
    obtain ⟨⟨old, he⟩, ⟨o, ho, hc, hd⟩, _⟩ := st
    rcases List.mem_cons.mp hb with z | z
    · subst z
      exact ⟨_, he, fun v q => nomatch q⟩
    · rw [List.mem_singleton.mp z]
      refine ⟨o, ho, fun v q => ?_⟩
      rw [hd] at q
      cases q
  keep := fun i h h2 st k => ⟨st.1.imp fun old he => k e List.mem_cons_self _ he, st.2.1.at fun o q => k it (List.mem_cons_of_mem _ (List.mem_singleton.mpr rfl)) o q, st.2.2⟩
  item := by
    intro X hP hw hK hc i pins s σ H E I hf st hg
    cases hP
    cases hw
    cases hK
    obtain ⟨⟨old, he⟩, hit, hne⟩ := st
    obtain ⟨xs, x, hq, hx⟩ := hg
    obtain ⟨its, rv, p, hz⟩ := I.tuple hq
    obtain ⟨u, hu, ru⟩ := rv.get hx
    have lt1 : e < s.heap.objs.size := Heap.lt_size he
    have lt2 : it < s.heap.objs.size := by
      obtain ⟨_, q, _⟩ := id hit
      exact Heap.lt_size q
    have pT : s.heap.IsTuple a its.toArray := p
    have nea : e ≠ a := fun z => by
      obtain ⟨o, q1, q2, _⟩ := id pT
      rw [← z] at q1
      cases (he.symm.trans q1)
      exact absurd (Value.type.inj q2) (by decide)
    have nia : a ≠ it := fun z => by
      obtain ⟨o, q1, q2, _⟩ := id pT
      obtain ⟨o2, q3, q4, _⟩ := id hit
      rw [z] at q1
      cases (q1.symm.trans q3)
      rw [q2] at q4
      exact absurd (Value.type.inj q4) (by decide)
    have no : e ∉ [it, a] := fun z => by
      rcases List.mem_cons.mp z with z | z
      · exact hne z
      · exact nea (List.mem_singleton.mp z)
    have hlt : i < its.toArray.size := by
      rw [List.size_toArray, ← rv.length]
      exact (List.getElem?_eq_some_iff.mp hx).1
    refine wpAny_pyNext_enum_itemD (Draws.tuple (by rw [show X.A.in1.handled = X.A.handled from rfl]; exact I.ok.hd hc) it a nia its.toArray) he ⟨hit, pT⟩ hlt hne no fun v h2 tk hv ho st2 hT hsz hk => ?_
    have ev : v = u := by
      have q1 : its.toArray[i]? = some u := by simpa using hu
      rw [q1] at hv
      exact (Option.some.inj hv).symm
    cases ev
    refine ⟨_, rfl, wpAny_letOwnedTupleGo_enum (s := { s with heap := h2, toks := tk + 1 }) ho fun h3 he3 sb => ?_⟩
    have hT3 : h3.get? s.heap.objs.size = some { cls := .type "tuple", data := .seq #[.int i tk, u] } := (sb.2 _ (Nat.ne_of_gt lt1)).trans hT
    have new : ObjOk X.prog X.w (upd H s.heap.objs.size (.tup [.int (i : Nat), x])) h3 s.heap.objs.size (.tup [.int (i : Nat), x]) := ⟨by show 2 ≤ sizeLine; decide, [.int i tk, u], .cons ⟨_, rfl⟩ (.cons ru .nil), ⟨_, hT3, rfl, _, rfl⟩⟩
    have mem1 : ∀ {b : Addr}, b ∉ [e, it] → b ≠ e ∧ b ≠ it := fun h => ⟨fun z => h (z ▸ List.mem_cons_self), fun z => h (z ▸ List.mem_cons_of_mem _ (List.mem_singleton.mpr rfl))⟩
    have I1 : Inv X pins σ (upd H s.heap.objs.size (.tup [.int (i : Nat), x])) { s with heap := h3, toks := tk + 1 } :=
      I.turnedNew (ch := [e, it]) (fun b ob hb q => (sb.2 b (mem1 hb).1).trans (hk b ob (mem1 hb).1 (mem1 hb).2 q)) hf (Nat.le_refl _) new
    refine ⟨.ref s.heap.objs.size, _, I1, rfl, ⟨_, x, rfl, I.hok.fresh (Nat.le_refl _), rfl, fun ys hy => by rw [I.tuple_inj hy hq]; exact hx⟩, ⟨⟨u, ?_⟩, st2.1.at fun o q => (sb.2 it (Ne.symm hne)).trans q, hne⟩, fun b hb => ?_⟩
    · rw [show ((i + 1 : Nat) : Int) = (i : Int) + 1 from by omega]
      exact he3
    · rw [upd_ne]
      · exact (hf b hb).1
      · rcases List.mem_cons.mp hb with z | z
        · rw [z]
          exact Nat.ne_of_lt lt1
        · rw [List.mem_singleton.mp z]
          exact Nat.ne_of_lt lt2
  done := by
    intro X hP hw hK hc i pins s σ H E I hf st hg
    cases hP
    cases hw
    cases hK
    obtain ⟨⟨old, he⟩, hit, hne⟩ := st
    obtain ⟨xs, hq, hx⟩ := hg
    obtain ⟨its, rv, p, hz⟩ := I.tuple hq
    obtain ⟨f0, f1, f2, f3, f4, f5⟩ := hf it (List.mem_cons_of_mem _ (List.mem_singleton.mpr rfl))
    have pT : s.heap.IsTuple a its.toArray := p
    have hl := rv.length
    have D : Draws X.prog X.w X.A.in1 it [it, a] i (fun _ _ => False) (fun j h => j = i ∧ h.IsTupleIter it a i ∧ h.IsTuple a its.toArray) := {
      live := fun _ _ st => let ⟨o, ho, _⟩ := st.2.1; ⟨o, ho⟩
      frame := fun _ _ _ st hk => ⟨st.1, st.2.1.at fun o e => hk it List.mem_cons_self o e, st.2.2.at fun o e => hk a (List.mem_cons_of_mem _ (List.mem_singleton.mpr rfl)) o e⟩
      item := fun j s Q E hj st _ => absurd st.1 (Nat.ne_of_lt hj)
      done := fun s Q E st hE => wpAny_nextOf_tuple_end (I.ok.hd hc) st.2.1 st.2.2 (by rw [List.getElem?_toArray]; exact List.getElem?_eq_none (by omega)) hE }
    exact wpAny_pyNext_enum_endD D he ⟨rfl, hit, pT⟩ fun h2 eb => ⟨rfl, I.turned (t' := s.toks) (fun b o hb q => eb b o hb q) f0 f1 f3 f4 f5⟩
  self := fun A i s Q E st h => wpAny_pyIter_enum st.1.choose_spec h
def iEnumT (K : PySem.W.Frag) (ta : TA) : TI := fun σ H R => ta σ H fun vs H1 => ∃ a xs, vs = [.ref a] ∧ SqT K H1 a xs ∧ R (ItT K a) H1
theorem pi_enumT {X : Cx} {e : Expr} {ta : TA} {p pos tpos : Pos} {elts : List Expr} {kk : Nat} (g : Gl X "enumerate") (m : X.mg "enumerate" = none) (ha : PA X [e] ta) (hs : starEach [e] X.env = [(false, eval e X.env)] := by rfl) :
    PI X (.Tuple elts kk tpos) (.Call (.Name "enumerate" p) [e] [] pos) (iEnumT X.K ta) := by
  refine ⟨fun pins s σ H R I h => Call_ (ld_blt I g m boot_enumerate (PyProof.Rows.callWith_type1 (thn (ha.run pos pins s σ H _ I h) fun us s1 w => ?_) hs rfl))⟩
  obtain ⟨vs, H1, I1, r1, a, xs, rfl, hq, k⟩ := w
  cases r1 with
  | cons r rr =>
    cases rr
    cases r
    obtain ⟨its, rv, pl, _⟩ := I1.tuple hq
    refine call_enum_tup (show s1.heap.IsTuple a its.toArray from pl) fun h2 he hit hk => wpAny_pyIter_enum he ?_
    have I2 : Inv X pins σ H1 { s1 with heap := h2 } := I1.kept (t' := s1.toks) hk
    refine ⟨s1.heap.objs.size + 1, [s1.heap.objs.size + 1, s1.heap.objs.size], _, _, H1, rfl, I2, turn_enumT a _ s1.heap.objs.size, ⟨⟨.none, he⟩, hit, Nat.succ_ne_self _⟩, fun b hb => ?_, k⟩
    have le : s1.heap.objs.size ≤ b := by
      rcases List.mem_cons.mp hb with z | z
      · rw [z]
        exact Nat.le_add_right _ _
      · exact Nat.le_of_eq (List.mem_singleton.mp z).symm
    exact I1.fpOk le (I1.hok.fresh le)
/-! ### what is wrong with a value as a line -/
def abcS (L : Int) : Str := cutS "abc" none (some L)
def inL (L : Int) (c : Nat) : Bool := decide (c ∈ (abcS L).cps.toList)
def wordD (L most : Int) (d : PyData) : Bool := match d with
  | .str z => decide ((z.length : Int) ≤ most) && z.cps.toList.all (inL L)
  | _ => false
def slen (d : PyData) : Nat := match d with
  | .str z => z.length
  | _ => 0
def letD (L : Int) (d : PyData) : Bool := wordD L 1 d && decide (slen d = 1)
def tupAll (n : Int) (f : PyData → Bool) (d : PyData) : Bool := match d with
  | .tuple xs => decide ((xs.length : Int) = n) && xs.all f
  | _ => false
def unitD (L : Int) (d : PyData) : Bool := tupAll L (fun x => numD x 0 9) d
def rowsD (L : Int) (rs : List PyData) : Bool := rs.all (tupAll L (fun x => numD x 0 ((rs.length : Int) - 1)))
def turnD (L : Int) (d : PyData) : Bool := match d with
  | .tuple rs => (decide (1 ≤ rs.length) && decide (rs.length ≤ 4)) && rowsD L rs
  | _ => false
def tlen (d : PyData) : Nat := match d with
  | .tuple rs => rs.length
  | _ => 0
def putD (L n : Int) (d : PyData) : Bool := tupAll n (tupAll L (letD L)) d
def pairD (L : Int) (p : PyData) : Bool := match p with
  | .tuple [x, y] => (wordD L 2 x && wordD L 2 y) && decide (slen x = slen y)
  | _ => false
def pcs (p : PyData) : List Str := match p with
  | .tuple [.str x, .str y] => [x, y]
  | _ => []
def nodupS (xs : List Str) : Bool := decide ((dd xs).length = xs.length)
def swapD (L : Int) (d : PyData) : Bool := match d with
  | .tuple ps => ((decide (1 ≤ ps.length) && decide (ps.length ≤ 4)) && ps.all (pairD L)) && nodupS (ps.flatMap pcs)
  | _ => false
def stepL (L : Int) (x : PyData) (r : List PyData) : Bool :=
  if strIs x "cut" = true then (match r with | [u, m] => unitD L u && numD m 0 30 | _ => false)
  else if strIs x "stop" = true then (match r with | [s] => letD L s | _ => false)
  else if strIs x "pass" = true then (match r with | [a, b] => turnD L a && putD L (tlen a) b | _ => false)
  else if strIs x "swap" = true then (match r with | [p] => swapD L p | _ => false)
  else false
def stepD (L : Int) (d : PyData) : Bool := match d with
  | .tuple (x :: y :: r) => stepL L x (y :: r)
  | _ => false
def errE : Option (Option Nat × Str) → PyData
  | none => .none
  | some (none, s) => .tuple [.none, .str s]
  | some (some k, s) => .tuple [.int k, .str s]
def firstBad (L : Int) : List PyData → Nat → Option Nat
  | [], _ => none
  | d :: ds, k => if stepD L d = true then firstBad L ds (k + 1) else some k
def lineE (L : Int) (d : PyData) : Option (Option Nat × Str) := match d with
  | .tuple ds => match firstBad L ds 0 with
    | some k => some (some k, "step")
    | none => if ds.length ≤ 3 then none else some (none, "many")
  | _ => some (none, "line")
theorem walk_enumT {K : PySem.W.Frag} {a : Addr} {xs : List V} : Walk (ItT K a) xs.length (fun H => SqT K H a xs) (YPair (fun i => some (.int (i : Nat))) (fun i => xs[i]?)) := by
  refine ⟨fun i _ hi q => ⟨xs, xs[i], q, List.getElem?_eq_getElem hi⟩, fun _ q => ⟨xs, q, Nat.le_refl _⟩, fun i H v H' _ q y => ?_⟩
  obtain ⟨T, x, h1, h2, h3, h4⟩ := y
  exact ⟨T, .int (i : Nat), x, h1, h2, h3, rfl, h4 xs q⟩
def BInv {α : Type} (f : α → Bool) (ds : List α) (H : Hp) (D : Addr) (i : Nat) (H' : Hp) : Prop := Same H H' ∧ H' D = some (.lst ((ds.take i).map fun d => V.bl (f d)))
theorem bturn {B : Addr → Prop} {K : PySem.W.Frag} {H H' : Hp} {D : Addr} {xs : List V} {ds : List PyData} {f : PyData → Bool} {i : Nat} {y : V} (ha : DtAll B K H xs ds) (hz : ds.length < sizeLine) (hD : H D = none) (hy : xs[i]? = some y) (p : BInv f ds H D i H') :
    ∃ d, d ∈ ds ∧ Dt B K H' y d ∧ ∀ H'', Same H' H'' → ∀ b, b = f d → ∃ acc, H'' D = some (.lst acc) ∧ acc.length < sizeLine ∧ BInv f ds H D (i + 1) (upd H'' D (.lst (acc ++ [V.bl b]))) := by
  obtain ⟨sm, hD'⟩ := p
  obtain ⟨d, hd1, hd2⟩ := ha.getV hy
  refine ⟨d, List.mem_of_getElem? hd1, same_dt sm hd2, fun H'' s2 b eb => ⟨_, s2 _ _ hD', ?_, fun p o z => ?_, ?_⟩⟩
  · rw [List.length_map, List.length_take]
    omega
  · rw [upd_ne (ne_of_none z hD)]
    exact s2 _ _ (sm _ _ z)
  · rw [upd_same, List.take_add_one, hd1, List.map_append, eb]
    rfl
theorem bend {α : Type} {K : PySem.W.Frag} {H H' : Hp} {D : Addr} {n : Nat} {ds : List α} {f : α → Bool} (e : n = ds.length) (p : BInv f ds H D n H') : Same H H' ∧ SqL K H' D ((ds.map f).map V.bl) := by
  obtain ⟨sm, hD'⟩ := p
  rw [e, List.take_length] at hD'
  refine ⟨sm, SqL.of ?_⟩
  rw [hD', List.map_map]
  rfl
def rLen (K : PySem.W.Frag) : List V → Hp → VK → Prop := fun xs H Q => ∃ p ys, xs = [.ref p] ∧ (SqL K H p ys ∨ SqT K H p ys) ∧ Q (.int ys.length) H
theorem three_of {ds : List PyData} (h : ds.length = 3) : ∃ l r e, ds = [l, r, e] := by
  match ds, h with
  | [l, r, e], _ => exact ⟨l, r, e, rfl⟩
theorem dt_three {B : Addr → Prop} {K : PySem.W.Frag} {H : Hp} {xs : List V} {l r e : PyData} (h : DtAll B K H xs [l, r, e]) : ∃ vl vr ve, xs = [vl, vr, ve] ∧ Dt B K H vl l ∧ Dt B K H vr r ∧ Dt B K H ve e := by
  cases h with
  | cons h1 h =>
    cases h with
    | cons h2 h =>
      cases h with
      | cons h3 h =>
        cases h
        exact ⟨_, _, _, rfl, h1, h2, h3⟩
/-- what a comprehension holds that picks the items that fail -/
def FInv {α : Type} (f : α → Bool) (ds : List α) (H : Hp) (D : Addr) (i : Nat) (H' : Hp) : Prop :=
  Same H H' ∧ ∃ acc : List V, H' D = some (.lst acc) ∧ acc.length ≤ i ∧ (acc = [] ↔ (ds.take i).all f = true)
theorem fstart {α : Type} {f : α → Bool} {ds : List α} {H : Hp} {D : Addr} (hD : H D = none) : FInv f ds H D 0 (upd H D (.lst [])) :=
  ⟨same_new hD, [], upd_same, Nat.le_refl _, by simp⟩
theorem fturn {B : Addr → Prop} {K : PySem.W.Frag} {H H' : Hp} {D : Addr} {xs : List V} {ds : List PyData} {f : PyData → Bool} {i : Nat} {y : V} (ha : DtAll B K H xs ds) (hz : ds.length < sizeLine) (hD : H D = none) (hy : xs[i]? = some y) (p : FInv f ds H D i H') :
    ∃ d, d ∈ ds ∧ Dt B K H' y d ∧ (∀ H'', Same H' H'' → f d = true → FInv f ds H D (i + 1) H'') ∧
      ∀ H'', Same H' H'' → f d = false → ∃ acc, H'' D = some (.lst acc) ∧ acc.length < sizeLine ∧ FInv f ds H D (i + 1) (upd H'' D (.lst (acc ++ [y]))) := by
  obtain ⟨sm, acc, hD', hl, hi⟩ := p
  obtain ⟨d, hd1, hd2⟩ := ha.getV hy
  have hlt := (List.getElem?_eq_some_iff.mp hd1).1
  have ht : (ds.take (i + 1)).all f = ((ds.take i).all f && f d) := by
    rw [List.take_add_one, hd1, List.all_append]
    simp
  refine ⟨d, List.mem_of_getElem? hd1, same_dt sm hd2, fun H'' s2 fd => ⟨fun b o z => s2 b o (sm b o z), acc, s2 _ _ hD', by omega, ?_⟩, fun H'' s2 fd => ⟨acc, s2 _ _ hD', by omega, fun b o z => ?_, _, upd_same, ?_, ?_⟩⟩
  · rw [ht, fd, Bool.and_true]
    exact hi
  · rw [upd_ne (ne_of_none z hD)]
    exact s2 _ _ (sm _ _ z)
  · rw [List.length_append, List.length_singleton]
    omega
  · rw [ht, fd, Bool.and_false]
    exact ⟨fun z => absurd z (by simp), fun z => absurd z Bool.false_ne_true⟩
theorem fend {α : Type} {K : PySem.W.Frag} {H H' : Hp} {D : Addr} {n : Nat} {ds : List α} {f : α → Bool} (e : n = ds.length) (p : FInv f ds H D n H') : Same H H' ∧ ∃ acc, SqL K H' D acc ∧ decide (acc = []) = ds.all f := by
  obtain ⟨sm, acc, hD', hl, hi⟩ := p
  rw [e, List.take_length] at hi
  refine ⟨sm, acc, SqL.of hD', ?_⟩
  cases z : ds.all f
  · exact decide_eq_false (fun q => by rw [hi.mp q] at z; cases z)
  · exact decide_eq_true (hi.mpr z)
theorem not_cases {b : Bool} (h : (!b) = true) : b = false := by
  cases b
  · rfl
  · cases h
theorem not_cases' {b : Bool} (h : ¬ (!b) = true) : b = true := by
  cases b
  · exact absurd rfl h
  · rfl
section
variable {P : Program} {w : World} {K : PySem.W.Frag} {mg : Str → Option Value} {base : Heap}
theorem all_take' {α : Type} {f : α → Bool} {ds : List α} : ((ds.map f).all id) = ds.all f := by
  rw [List.all_map]
  rfl
def spWord (K : PySem.W.Frag) : Sp := fun vs H Q _ => ∃ (B : Addr → Prop) (x : V) (d : PyData) (L m : Int), vs = [x, .int L, .int m] ∧ Dt B K H x d ∧ nodes d ≤ 100000 ∧ 1 ≤ L ∧ L ≤ 3 ∧ ∀ H', Same H H' → Q (.bl (wordD L m d)) H'
theorem scWord : FnScope ["value", "letters", "most", "sign"] ["value", "letters", "most"] (defScope sWord) := ⟨rfl, rfl, rfl, by decide +kernel, rfl, by decide +kernel, by decide +kernel⟩
theorem ok_word {f : Addr} {fd : FuncData} (F : Fun K "is_word" "is_word" sWord f fd) (T : Mg mg) : FnOk P w K mg base CX0 1 f fd ["value", "letters", "most"] (spWord K) := by
  refine F.ok scWord (fun vs H Q E h => ?_) (fun cdv A outer s H vs Q E hr h => ?_)
  · obtain ⟨B, x, d, L, m, rfl, _⟩ := h
    rfl
  · obtain ⟨B, x, d, L, m, rfl, hd, hn, L1, L3, k⟩ := h
    obtain ⟨tt, le⟩ := T.le
    refine ⟨_, pss_cons (ps_if (PW.pt (pw_or (pt_not (pt_val (pe_callB call_isi (by rfl) T.isi PyProof.Rows.boot_isinstance (pa_cons (pv 0) (pa_cons (pe_bltn (v := .ty "str") (by rfl) T.str (by decide +kernel) rfl) pa_nil)))))
        (pw_or1 (pt_cmpR op_gt (pe_callB call_len_str (by rfl) T.len PySem.boot_len (pa_cons (pv 0) pa_nil)) (pv 2) (nomark _)))))
      (pss_one (ps_ret pe_bl)) pss_nil)
      (pss_one (ps_ret (pe_callB (cr_all rfl) (by rfl) T.all (by decide +kernel) (pa_cons (pe_lc (own := [("sign", 3)]) (g := gName 3) (tt := tYes) rfl scWord.nd (pi_str (pv 0)) (blkOk_by (N := ["value", "letters", "most", "sign"]) (sc := defScope sWord) (by decide +kernel)) (fun _ _ _ _ _ => pg_name (i := 3) scWord.nd rfl (Or.inl rfl)) (fun _ _ _ _ _ => pts_nil)
        (fun _ _ _ _ _ => pe_cmpR op_in_sign (pv 3) (pe_slice sl_str (pe_glob (v := .str "abc") (by rfl) le ⟨_, rfl⟩) po_none (po_some (pv 1))) (by rfl))) pa_nil)))), ?_⟩
    refine ⟨x, rfl, x, .ty "str", _, _, _, rfl, .ty _, tyD hd, kitS d, _, rfl, ?_⟩
    cases d with
    | none => exact k H (Same.refl H)
    | bool _ => exact k H (Same.refl H)
    | int _ => exact k H (Same.refl H)
    | tuple _ => exact k H (Same.refl H)
    | list _ => exact k H (Same.refl H)
    | dict _ => exact k H (Same.refl H)
    | str z =>
      cases hd
      have hz : z.length ≤ 100000 := by
        rw [nodes] at hn
        omega
      refine ⟨_, rfl, z, rfl, sz_of hz, _, rfl, _, _, rfl, rfl, _, rfl, ite2 (fun h1 => ?_) (fun h1 => ?_)⟩
      · have e : wordD L m (.str z) = false := by
          have := of_decide_eq_true h1
          show (decide ((z.length : Int) ≤ m) && _) = false
          rw [decide_eq_false (by omega)]
          rfl
        rw [e] at k
        exact k H (Same.refl H)
      · have e : wordD L m (.str z) = z.cps.toList.all (inL L) := by
          have : ¬ (m < (z.length : Int)) := fun q => h1 (decide_eq_true q)
          show (decide ((z.length : Int) ≤ m) && _) = _
          rw [decide_eq_true (by omega)]
          rfl
        rw [e] at k
        refine ⟨_, rfl, z, rfl, fun D hD => ?_⟩
        refine lc_it walk_str (BInv (inL L) z.cps.toList H D) ⟨same_new hD, upd_same⟩ (fun _ _ _ _ => True.intro) ?_ ?_
        · rintro i x H1 H2 hi p ⟨rfl, c, hc, rfl⟩
          obtain ⟨sm, hD'⟩ := p
          have e1 : z.cps.toList[i]? = some c := by
            rw [Array.getElem?_toList]
            exact hc
          refine ⟨rfl, _, rfl, _, rfl, L, rfl, "abc", rfl, by show 3 ≤ sizeLine; decide, c, abcS L, rfl, rfl, _, hD', ?_, fun b o q => ?_, ?_⟩
          · rw [List.length_map, List.length_take]
            exact Nat.lt_of_le_of_lt (show _ ≤ 100000 from Nat.le_trans (Nat.min_le_right _ _) (by rw [Array.length_toList]; exact hz)) (by decide)
          · rw [upd_ne (ne_of_none q hD)]
            exact sm _ _ q
          · rw [upd_same, List.take_add_one, e1, List.map_append]
            rfl
        · rintro H1 p
          obtain ⟨sm, hS⟩ := bend (K := K) (Array.length_toList).symm p
          refine ⟨D, _, rfl, hS, ?_⟩
          rw [all_take']
          exact k H1 sm
end
section
variable {P : Program} {w : World} {K : PySem.W.Frag} {mg : Str → Option Value} {base : Heap}
theorem tupAll_no {n : Int} {f : PyData → Bool} {xs : List PyData} (h : ¬ ((xs.length : Int) = n)) : tupAll n f (.tuple xs) = false := by
  show (decide ((xs.length : Int) = n) && xs.all f) = false
  rw [decide_eq_false h]
  rfl
theorem tupAll_yes {n : Int} {f : PyData → Bool} {xs : List PyData} (h : (xs.length : Int) = n) : tupAll n f (.tuple xs) = xs.all f := by
  show (decide ((xs.length : Int) = n) && xs.all f) = _
  rw [decide_eq_true h]
  rfl
theorem ne_int {n m : Int} (h : (!decide (V.int n = V.int m)) = true) : ¬ n = m := fun e => by
  rw [e, decide_eq_true rfl] at h
  cases h
theorem ne_int' {n m : Int} (h : ¬ (!decide (V.int n = V.int m)) = true) : n = m := by
  by_cases e : n = m
  · exact e
  · exfalso
    apply h
    rw [decide_eq_false fun q => e (V.int.inj q)]
    rfl
def spUnit (K : PySem.W.Frag) : Sp := fun vs H Q _ => ∃ (B : Addr → Prop) (x : V) (d : PyData) (L : Int), vs = [x, .int L] ∧ Dt B K H x d ∧ nodes d ≤ 100000 ∧ ∀ H', Same H H' → Q (.bl (unitD L d)) H'
theorem scUnit : FnScope ["value", "letters", "part"] ["value", "letters"] (defScope sUnit) := ⟨rfl, rfl, rfl, by decide +kernel, rfl, by decide +kernel, by decide +kernel⟩
theorem ok_unit {f fN : Addr} {fd fdN : FuncData} (F : Fun K "is_unit" "is_unit" sUnit f fd) (N : FnOk P w K mg base CX0 2 fN fdN ["value", "least", "most"] (spNum K)) (FN : Fun K "is_number" "is_number" sNumber fN fdN) (bN : Binds K fdN ["value", "least", "most"] []) (gN : mg "is_number" = some (.ref fN)) (T : Mg mg) :
    FnOk P w K mg base CX0 3 f fd ["value", "letters"] (spUnit K) := by
  refine F.ok scUnit (fun vs H Q E h => ?_) (fun cdv A outer s H vs Q E hr h => ?_)
  · obtain ⟨B, x, d, L, rfl, _⟩ := h
    rfl
  · obtain ⟨B, x, d, L, rfl, hd, hn, k⟩ := h
    obtain ⟨tt, mc⟩ := T.mcount
    refine ⟨_, pss_cons (ps_if (PW.pt (pw_or (pt_not (pt_val (pe_callB call_isi (by rfl) T.isi PyProof.Rows.boot_isinstance (pa_cons (pv 0) (pa_cons (pe_bltn (v := .ty "tuple") (by rfl) T.tuple PyProof.Rows.boot_tuple rfl) pa_nil)))))
        (pw_or1 (pt_cmpR op_ne (pe_callB call_len_seq (by rfl) T.len PySem.boot_len (pa_cons (pv 0) pa_nil)) (pv 1) (nomark _)))))
      (pss_one (ps_ret pe_bl)) pss_nil)
      (pss_one (ps_ret (pe_callB (cr_all rfl) (by rfl) T.all (by decide +kernel) (pa_cons (pe_lc (own := [("part", 2)]) (g := gName 2) (tt := tYes) rfl scUnit.nd (pi_tup (pv 0)) (blkOk_by (N := ["value", "letters", "part"]) (sc := defScope sUnit) (by decide +kernel)) (fun _ _ _ _ _ => pg_name (i := 2) scUnit.nd rfl (Or.inl rfl)) (fun _ _ _ _ _ => pts_nil)
        (fun _ _ _ _ _ => pe_call N hr (by rfl) gN FN.kp bN .nil pass0 (pa_cons (pv 2) (pa_cons pe_int (pa_cons (pe_glob (v := .int 9) (by rfl) mc ⟨_, rfl⟩) pa_nil))))) pa_nil)))), ?_⟩
    refine ⟨x, rfl, x, .ty "tuple", _, _, _, rfl, .ty _, tyD hd, kitT d, _, rfl, ?_⟩
    cases d with
    | none => exact k H (Same.refl H)
    | bool _ => exact k H (Same.refl H)
    | int _ => exact k H (Same.refl H)
    | str _ => exact k H (Same.refl H)
    | list _ => exact k H (Same.refl H)
    | dict _ => exact k H (Same.refl H)
    | tuple ds =>
      obtain ⟨a, xs, rfl, nb, hs, ha, hl⟩ := hd.tup_ref
      have hz : ds.length < sizeLine := by
        have := len_nodes ds
        rw [nodes_tup] at hn
        exact Nat.lt_of_le_of_lt (show _ ≤ 100000 by omega) (by decide)
      unfold unitD at k
      refine ⟨.ref a, rfl, a, xs, rfl, .inr hs, _, rfl, rfl, _, rfl, ite2 (fun h1 => ?_) (fun h1 => ?_)⟩
      · rw [tupAll_no (by rw [← hl]; exact ne_int h1)] at k
        exact k H (Same.refl H)
      · rw [tupAll_yes (by rw [← hl]; exact ne_int' h1)] at k
        refine ⟨.ref a, rfl, a, rfl, ⟨xs, hs⟩, fun D hD => ?_⟩
        refine lc_tup (K := K) (a := a) (xs := xs) (BInv (fun x => numD x 0 9) ds H D) ⟨same_new hD, upd_same⟩ (fun i H' _ q => same_seqT q.1 hs) ?_ ?_
        · rintro i y H' hy p
          obtain ⟨d, hm, hd', fin⟩ := bturn ha hz hD hy p
          exact ⟨rfl, y, rfl, B, y, d, 0, 9, rfl, hd', fin H' (Same.refl H') _ rfl⟩
        · rintro H' p
          obtain ⟨sm, hS⟩ := bend (K := K) hl p
          refine ⟨D, _, rfl, hS, ?_⟩
          rw [all_take']
          exact k H' sm
def spLet (K : PySem.W.Frag) : Sp := fun vs H Q _ => ∃ (B : Addr → Prop) (x : V) (d : PyData) (L : Int), vs = [x, .int L] ∧ Dt B K H x d ∧ nodes d ≤ 100000 ∧ 1 ≤ L ∧ L ≤ 3 ∧ ∀ H', Same H H' → Q (.bl (letD L d)) H'
theorem scLetter : FnScope ["value", "letters"] ["value", "letters"] (defScope sLetter) := ⟨rfl, rfl, rfl, by decide +kernel, rfl, by decide +kernel, by decide +kernel⟩
theorem ok_letter {f fW : Addr} {fd fdW : FuncData} (F : Fun K "is_letter" "is_letter" sLetter f fd) (W : FnOk P w K mg base CX0 1 fW fdW ["value", "letters", "most"] (spWord K)) (FW : Fun K "is_word" "is_word" sWord fW fdW) (bW : Binds K fdW ["value", "letters", "most"] []) (gW : mg "is_word" = some (.ref fW)) (T : Mg mg) :
    FnOk P w K mg base CX0 2 f fd ["value", "letters"] (spLet K) := by
  refine F.ok scLetter (fun vs H Q E h => ?_) (fun cdv A outer s H vs Q E hr h => ?_)
  · obtain ⟨B, x, d, L, rfl, _⟩ := h
    rfl
  · obtain ⟨B, x, d, L, rfl, hd, hn, L1, L3, k⟩ := h
    refine ⟨_, pss_one (ps_ret (pe_and (pe_call W hr (by rfl) gW FW.kp bW .nil pass0 (pa_cons (pv 0) (pa_cons (pv 1) (pa_cons pe_int pa_nil)))) (pe_one (pe_cmpR op_eq (pe_callB call_len_str (by rfl) T.len PySem.boot_len (pa_cons (pv 0) pa_nil)) pe_int (nomark _))))), ?_⟩
    refine ⟨x, rfl, _, rfl, B, x, d, L, 1, rfl, hd, hn, L1, L3, fun H1 s1 => ⟨_, rfl, ite2 (fun h1 => ?_) (fun h1 => ?_)⟩⟩
    · have e : letD L d = decide (slen d = 1) := by
        unfold letD
        rw [h1]
        rfl
      rw [e] at k
      cases d with
      | str z =>
        cases hd
        rw [nodes] at hn
        refine ⟨_, rfl, z, rfl, sz_of (by omega), rfl, ?_⟩
        have e2 : decide (V.int (z.length : Int) = V.int 1) = decide (slen (.str z) = 1) := by
          show _ = decide (z.length = 1)
          by_cases q : z.length = 1
          · rw [decide_eq_true q, decide_eq_true (by rw [q]; rfl)]
          · rw [decide_eq_false q, decide_eq_false fun y => q (by have := V.int.inj y; omega)]
        rw [e2]
        exact k H1 s1
      | _ => cases h1
    · have e : letD L d = false := by
        unfold letD
        rw [Bool.eq_false_iff.mpr h1]
        rfl
      rw [e] at k
      exact k H1 s1
end
theorem all_no {α : Type} {f : α → Bool} {ds : List α} {i : Nat} {d : α} (h : ds[i]? = some d) (hf : f d = false) : ds.all f = false := by
  cases e : ds.all f
  · rfl
  · rw [List.all_eq_true.mp e d (List.mem_of_getElem? h)] at hf
    cases hf
theorem all_up {α : Type} {f : α → Bool} {ds : List α} {i : Nat} {d : α} (h : ds[i]? = some d) (hf : f d = true) (ha : (ds.take i).all f = true) : (ds.take (i + 1)).all f = true := by
  rw [List.take_add_one, h, List.all_append, ha]
  simp [hf]
section
variable {P : Program} {w : World} {K : PySem.W.Frag} {mg : Str → Option Value} {base : Heap}
theorem scTurning : FnScope ["value", "letters", "row", "turn"] ["value", "letters"] (defScope sTurning) := ⟨rfl, rfl, rfl, by decide +kernel, rfl, by decide +kernel, by decide +kernel⟩
def spTurn (K : PySem.W.Frag) : Sp := fun vs H Q _ => ∃ (B : Addr → Prop) (x : V) (d : PyData) (L : Int), vs = [x, .int L] ∧ Dt B K H x d ∧ nodes d ≤ 100000 ∧ ∀ H', Same H H' → Q (.bl (turnD L d)) H'
theorem ok_turning {f fN : Addr} {fd fdN : FuncData} (F : Fun K "is_turning" "is_turning" sTurning f fd) (N : FnOk P w K mg base CX0 2 fN fdN ["value", "least", "most"] (spNum K)) (FN : Fun K "is_number" "is_number" sNumber fN fdN) (bN : Binds K fdN ["value", "least", "most"] []) (gN : mg "is_number" = some (.ref fN)) (T : Mg mg) :
    FnOk P w K mg base CX0 3 f fd ["value", "letters"] (spTurn K) := by
  refine F.ok scTurning (fun vs H Q E h => ?_) (fun cdv A outer s H vs Q E hr h => ?_)
  · obtain ⟨B, x, d, L, rfl, _⟩ := h
    rfl
  · obtain ⟨B, x, d, L, rfl, hd, hn, k⟩ := h
    obtain ⟨tt, mc⟩ := T.mpass
    refine ⟨_, pss_cons (ps_if (PW.pt (pw_or (pt_not (pt_val (pe_callB call_isi (by rfl) T.isi PyProof.Rows.boot_isinstance (pa_cons (pv 0) (pa_cons (pe_bltn (v := .ty "tuple") (by rfl) T.tuple PyProof.Rows.boot_tuple rfl) pa_nil)))))
        (pw_or1 (pt_not (pt_chain op_le op_le pe_int (pe_callB call_len_seq (by rfl) T.len PySem.boot_len (pa_cons (pv 0) pa_nil)) (pe_glob (v := .int 4) (by rfl) mc ⟨_, rfl⟩))))))
      (pss_one (ps_ret pe_bl)) pss_nil)
      (pss_cons (ps_for PassesOwn.never rfl (pi_tup (pv 0)) (pg_name (i := 2) scTurning.nd rfl (.inl rfl))
        (pss_cons (ps_if (PW.pt (pw_or (pt_not (pt_val (pe_callB call_isi (by rfl) T.isi PyProof.Rows.boot_isinstance (pa_cons (pv 2) (pa_cons (pe_bltn (v := .ty "tuple") (by rfl) T.tuple PyProof.Rows.boot_tuple rfl) pa_nil)))))
          (pw_or1 (pt_cmpR op_ne (pe_callB call_len_seq (by rfl) T.len PySem.boot_len (pa_cons (pv 2) pa_nil)) (pv 1) (nomark _))))) (pss_one (ps_ret pe_bl)) pss_nil)
        (pss_one (ps_if (pt_not (pt_val (pe_callB (cr_all rfl) (by rfl) T.all (by decide +kernel) (pa_cons (pe_lc (own := [("turn", 3)]) (g := gName 3) (tt := tYes) rfl scTurning.nd (pi_tup (pv 2)) (blkOk_by (N := ["value", "letters", "row", "turn"]) (sc := defScope sTurning) (by decide +kernel)) (fun _ _ _ _ _ => pg_name (i := 3) scTurning.nd rfl (Or.inl rfl)) (fun _ _ _ _ _ => pts_nil)
          (fun _ _ _ _ _ => pe_call N hr (by rfl) gN FN.kp bN .nil pass0 (pa_cons (pv 3) (pa_cons pe_int (pa_cons (pe_op op_sub (pe_callB (r := rLen K) call_len_seq (by rfl) T.len PySem.boot_len (pa_cons (pv 0) pa_nil)) pe_int) pa_nil))))) pa_nil)))) (pss_one (ps_ret pe_bl)) pss_nil))))
      (pss_one (ps_ret pe_bl))), ?_⟩
    refine ⟨x, rfl, x, .ty "tuple", _, _, _, rfl, .ty _, tyD hd, kitT d, _, rfl, ?_⟩
    cases d with
    | none => exact k H (Same.refl H)
    | bool _ => exact k H (Same.refl H)
    | int _ => exact k H (Same.refl H)
    | str _ => exact k H (Same.refl H)
    | list _ => exact k H (Same.refl H)
    | dict _ => exact k H (Same.refl H)
    | tuple ds =>
      obtain ⟨a, xs, rfl, nb, hs, ha, hl⟩ := hd.tup_ref
      have hk : turnD L (.tuple ds) = ((decide (1 ≤ ds.length) && decide (ds.length ≤ 4)) && rowsD L ds) := rfl
      rw [hk] at k
      rw [nodes_tup] at hn
      refine ⟨.ref a, rfl, a, xs, rfl, .inr hs, 1, _, rfl, rfl, _, rfl, ite2 (fun h5 => ?_) (fun h5 => ?_)⟩
      rotate_left
      · have e : decide (1 ≤ ds.length) = false := decide_eq_false fun q => h5 (decide_eq_true (by omega))
        rw [e] at k
        exact ⟨_, rfl, k H (Same.refl H)⟩
      · have h5 := of_decide_eq_true h5
        rw [decide_eq_true (by omega : 1 ≤ ds.length), Bool.true_and] at k
        refine ⟨_, 4, rfl, rfl, _, rfl, ite2 (fun h6 => ?_) (fun h6 => ?_)⟩
        · have e : decide (ds.length ≤ 4) = false := decide_eq_false fun q => by
            rw [decide_eq_true (by omega : (xs.length : Int) ≤ 4)] at h6
            cases h6
          rw [e] at k
          exact k H (Same.refl H)
        · have h7 : (xs.length : Int) ≤ 4 := by
            cases z : decide ((xs.length : Int) ≤ 4)
            · rw [z] at h6
              exact absurd rfl h6
            · exact of_decide_eq_true z
          rw [decide_eq_true (by omega : ds.length ≤ 4), Bool.true_and] at k
          refine ⟨.ref a, rfl, a, rfl, ⟨xs, hs⟩, ?_⟩
          refine for_tup (K := K) (a := a) (xs := xs) (fun i σ H' => (∃ z2, σ = [some (V.ref a), some (V.int L), z2, none]) ∧ Same H H' ∧ (ds.take i).all (tupAll L fun x => numD x 0 ((ds.length : Int) - 1)) = true) ⟨⟨none, rfl⟩, Same.refl H, rfl⟩ (fun i σ H' _ q => same_seqT q.2.1 hs) ?_ ?_
          · rintro i y σ H1 hy ⟨⟨z2, rfl⟩, sm, hall⟩
            obtain ⟨d, hdi, hd1⟩ := ha.getV hy
            have hd2 := same_dt sm hd1
            have bad : ∀ H2, Same H1 H2 → tupAll L (fun x => numD x 0 ((ds.length : Int) - 1)) d = false → Q (.bl false) H2 := fun H2 s2 e => by
              have e2 : rowsD L ds = false := all_no hdi e
              rw [e2] at k
              exact k H2 (sm.trans s2)
            refine ⟨y, rfl, y, .ty "tuple", _, _, _, rfl, .ty _, tyD hd2, kitT d, _, rfl, ?_⟩
            cases d with
            | none => exact bad H1 (Same.refl H1) rfl
            | bool _ => exact bad H1 (Same.refl H1) rfl
            | int _ => exact bad H1 (Same.refl H1) rfl
            | str _ => exact bad H1 (Same.refl H1) rfl
            | list _ => exact bad H1 (Same.refl H1) rfl
            | dict _ => exact bad H1 (Same.refl H1) rfl
            | tuple es =>
              obtain ⟨b, ys, rfl, nb2, hs2, ha2, hl2⟩ := hd2.tup_ref
              have hz : es.length < sizeLine := by
                have q1 := len_nodes es
                have q2 := mem_nodes (List.mem_of_getElem? hdi)
                rw [nodes_tup] at q2
                exact Nat.lt_of_le_of_lt (show _ ≤ 100000 by omega) (by decide)
              refine ⟨.ref b, rfl, b, ys, rfl, .inr hs2, _, rfl, rfl, _, rfl, ite2 (fun h1 => ?_) (fun h1 => ?_)⟩
              · exact bad H1 (Same.refl H1) (tupAll_no (by rw [← hl2]; exact ne_int h1))
              · have e3 : tupAll L (fun x => numD x 0 ((ds.length : Int) - 1)) (.tuple es) = es.all (fun x => numD x 0 ((ds.length : Int) - 1)) := tupAll_yes (by rw [← hl2]; exact ne_int' h1)
                refine ⟨.ref b, rfl, b, rfl, ⟨ys, hs2⟩, fun D hD => ?_⟩
                refine lc_tup (K := K) (a := b) (xs := ys) (BInv (fun x => numD x 0 ((ds.length : Int) - 1)) es H1 D) ⟨same_new hD, upd_same⟩ (fun i H' _ q => same_seqT q.1 hs2) ?_ ?_
                · rintro i2 y2 H' hy2 p
                  obtain ⟨d, hm, hd', fin⟩ := bturn ha2 hz hD hy2 p
                  exact ⟨rfl, y2, rfl, .ref a, rfl, a, xs, rfl, .inr (same_seqT (sm.trans p.1) hs), _, 1, rfl, rfl, B, y2, d, 0, (ds.length : Int) - 1, (by rw [hl]; rfl), hd', fin H' (Same.refl H') _ rfl⟩
                · rintro H' p
                  obtain ⟨sm2, hS⟩ := bend (K := K) hl2 p
                  refine ⟨D, _, rfl, hS, _, rfl, ?_⟩
                  rw [all_take', ← e3]
                  refine ite2 (fun h2 => ?_) (fun h2 => ?_)
                  · exact bad H' sm2 (not_cases h2)
                  · exact ⟨⟨_, rfl⟩, sm.trans sm2, all_up hdi (not_cases' h2) hall⟩
          · rintro σ H1 ⟨⟨z2, rfl⟩, sm, hall⟩
            rw [hl, List.take_length] at hall
            have e2 : rowsD L ds = true := hall
            rw [e2] at k
            exact k H1 sm
end
section
variable {P : Program} {w : World} {K : PySem.W.Frag} {mg : Str → Option Value} {base : Heap}
theorem scPutting : FnScope ["value", "letters", "turns", "row", "sign"] ["value", "letters", "turns"] (defScope sPutting) := ⟨rfl, rfl, rfl, by decide +kernel, rfl, by decide +kernel, by decide +kernel⟩
def spPut (K : PySem.W.Frag) : Sp := fun vs H Q _ => ∃ (B : Addr → Prop) (x : V) (d : PyData) (L n : Int), vs = [x, .int L, .int n] ∧ Dt B K H x d ∧ nodes d ≤ 100000 ∧ 1 ≤ L ∧ L ≤ 3 ∧ ∀ H', Same H H' → Q (.bl (putD L n d)) H'
theorem ok_putting {f fN : Addr} {fd fdN : FuncData} (F : Fun K "is_putting" "is_putting" sPutting f fd) (N : FnOk P w K mg base CX0 2 fN fdN ["value", "letters"] (spLet K)) (FN : Fun K "is_letter" "is_letter" sLetter fN fdN) (bN : Binds K fdN ["value", "letters"] []) (gN : mg "is_letter" = some (.ref fN)) (T : Mg mg) :
    FnOk P w K mg base CX0 3 f fd ["value", "letters", "turns"] (spPut K) := by
  refine F.ok scPutting (fun vs H Q E h => ?_) (fun cdv A outer s H vs Q E hr h => ?_)
  · obtain ⟨B, x, d, L, n, rfl, _⟩ := h
    rfl
  · obtain ⟨B, x, d, L, n, rfl, hd, hn, L1, L3, k⟩ := h
    refine ⟨_, pss_cons (ps_if (PW.pt (pw_or (pt_not (pt_val (pe_callB call_isi (by rfl) T.isi PyProof.Rows.boot_isinstance (pa_cons (pv 0) (pa_cons (pe_bltn (v := .ty "tuple") (by rfl) T.tuple PyProof.Rows.boot_tuple rfl) pa_nil)))))
        (pw_or1 (pt_cmpR op_ne (pe_callB call_len_seq (by rfl) T.len PySem.boot_len (pa_cons (pv 0) pa_nil)) (pv 2) (nomark _)))))
      (pss_one (ps_ret pe_bl)) pss_nil)
      (pss_cons (ps_for PassesOwn.never rfl (pi_tup (pv 0)) (pg_name (i := 3) scPutting.nd rfl (.inl rfl))
        (pss_cons (ps_if (PW.pt (pw_or (pt_not (pt_val (pe_callB call_isi (by rfl) T.isi PyProof.Rows.boot_isinstance (pa_cons (pv 3) (pa_cons (pe_bltn (v := .ty "tuple") (by rfl) T.tuple PyProof.Rows.boot_tuple rfl) pa_nil)))))
          (pw_or1 (pt_cmpR op_ne (pe_callB call_len_seq (by rfl) T.len PySem.boot_len (pa_cons (pv 3) pa_nil)) (pv 1) (nomark _))))) (pss_one (ps_ret pe_bl)) pss_nil)
        (pss_one (ps_if (pt_not (pt_val (pe_callB (cr_all rfl) (by rfl) T.all (by decide +kernel) (pa_cons (pe_lc (own := [("sign", 4)]) (g := gName 4) (tt := tYes) rfl scPutting.nd (pi_tup (pv 3)) (blkOk_by (N := ["value", "letters", "turns", "row", "sign"]) (sc := defScope sPutting) (by decide +kernel)) (fun _ _ _ _ _ => pg_name (i := 4) scPutting.nd rfl (Or.inl rfl)) (fun _ _ _ _ _ => pts_nil)
          (fun _ _ _ _ _ => pe_call N hr (by rfl) gN FN.kp bN .nil pass0 (pa_cons (pv 4) (pa_cons (pv 1) pa_nil)))) pa_nil)))) (pss_one (ps_ret pe_bl)) pss_nil))))
      (pss_one (ps_ret pe_bl))), ?_⟩
    refine ⟨x, rfl, x, .ty "tuple", _, _, _, rfl, .ty _, tyD hd, kitT d, _, rfl, ?_⟩
    cases d with
    | none => exact k H (Same.refl H)
    | bool _ => exact k H (Same.refl H)
    | int _ => exact k H (Same.refl H)
    | str _ => exact k H (Same.refl H)
    | list _ => exact k H (Same.refl H)
    | dict _ => exact k H (Same.refl H)
    | tuple ds =>
      obtain ⟨a, xs, rfl, nb, hs, ha, hl⟩ := hd.tup_ref
      rw [nodes_tup] at hn
      unfold putD at k
      refine ⟨.ref a, rfl, a, xs, rfl, .inr hs, _, rfl, rfl, _, rfl, ite2 (fun h5 => ?_) (fun h5 => ?_)⟩
      · rw [tupAll_no (by rw [← hl]; exact ne_int h5)] at k
        exact k H (Same.refl H)
      · rw [tupAll_yes (by rw [← hl]; exact ne_int' h5)] at k
        · skip
          refine ⟨.ref a, rfl, a, rfl, ⟨xs, hs⟩, ?_⟩
          refine for_tup (K := K) (a := a) (xs := xs) (fun i σ H' => (∃ z2, σ = [some (V.ref a), some (V.int L), some (V.int n), z2, none]) ∧ Same H H' ∧ (ds.take i).all (tupAll L (letD L)) = true) ⟨⟨none, rfl⟩, Same.refl H, rfl⟩ (fun i σ H' _ q => same_seqT q.2.1 hs) ?_ ?_
          · rintro i y σ H1 hy ⟨⟨z2, rfl⟩, sm, hall⟩
            obtain ⟨d, hdi, hd1⟩ := ha.getV hy
            have hd2 := same_dt sm hd1
            have bad : ∀ H2, Same H1 H2 → tupAll L (letD L) d = false → Q (.bl false) H2 := fun H2 s2 e => by
              have e2 : ds.all (tupAll L (letD L)) = false := all_no hdi e
              rw [e2] at k
              exact k H2 (sm.trans s2)
            refine ⟨y, rfl, y, .ty "tuple", _, _, _, rfl, .ty _, tyD hd2, kitT d, _, rfl, ?_⟩
            cases d with
            | none => exact bad H1 (Same.refl H1) rfl
            | bool _ => exact bad H1 (Same.refl H1) rfl
            | int _ => exact bad H1 (Same.refl H1) rfl
            | str _ => exact bad H1 (Same.refl H1) rfl
            | list _ => exact bad H1 (Same.refl H1) rfl
            | dict _ => exact bad H1 (Same.refl H1) rfl
            | tuple es =>
              obtain ⟨b, ys, rfl, nb2, hs2, ha2, hl2⟩ := hd2.tup_ref
              have hz : es.length < sizeLine := by
                have q1 := len_nodes es
                have q2 := mem_nodes (List.mem_of_getElem? hdi)
                rw [nodes_tup] at q2
                exact Nat.lt_of_le_of_lt (show _ ≤ 100000 by omega) (by decide)
              have hes : nodesAll es ≤ 100000 := by
                have q2 := mem_nodes (List.mem_of_getElem? hdi)
                rw [nodes_tup] at q2
                omega
              refine ⟨.ref b, rfl, b, ys, rfl, .inr hs2, _, rfl, rfl, _, rfl, ite2 (fun h1 => ?_) (fun h1 => ?_)⟩
              · exact bad H1 (Same.refl H1) (tupAll_no (by rw [← hl2]; exact ne_int h1))
              · have e3 : tupAll L (letD L) (.tuple es) = es.all (letD L) := tupAll_yes (by rw [← hl2]; exact ne_int' h1)
                refine ⟨.ref b, rfl, b, rfl, ⟨ys, hs2⟩, fun D hD => ?_⟩
                refine lc_tup (K := K) (a := b) (xs := ys) (BInv (letD L) es H1 D) ⟨same_new hD, upd_same⟩ (fun i H' _ q => same_seqT q.1 hs2) ?_ ?_
                · rintro i2 y2 H' hy2 p
                  obtain ⟨d, hm, hd', fin⟩ := bturn ha2 hz hD hy2 p
                  exact ⟨rfl, y2, rfl, .int L, rfl, B, y2, d, L, rfl, hd', by have := mem_nodes hm; omega, L1, L3, fun H3 s3 => fin H3 s3 _ rfl⟩
                · rintro H' p
                  obtain ⟨sm2, hS⟩ := bend (K := K) hl2 p
                  refine ⟨D, _, rfl, hS, _, rfl, ?_⟩
                  rw [all_take', ← e3]
                  refine ite2 (fun h2 => ?_) (fun h2 => ?_)
                  · exact bad H' sm2 (not_cases h2)
                  · exact ⟨⟨_, rfl⟩, sm.trans sm2, all_up hdi (not_cases' h2) hall⟩
          · rintro σ H1 ⟨⟨z2, rfl⟩, sm, hall⟩
            rw [hl, List.take_length] at hall
            have e2 : ds.all (tupAll L (letD L)) = true := hall
            rw [e2] at k
            exact k H1 sm
end
section
variable {P : Program} {w : World} {K : PySem.W.Frag} {mg : Str → Option Value} {base : Heap}
theorem scSwapping : FnScope ["value", "letters", "pieces", "pair", "piece"] ["value", "letters"] (defScope sSwapping) := ⟨rfl, rfl, rfl, by decide +kernel, rfl, by decide +kernel, by decide +kernel⟩
def spSwap (K : PySem.W.Frag) : Sp := fun vs H Q _ => ∃ (B : Addr → Prop) (x : V) (d : PyData) (L : Int), vs = [x, .int L] ∧ Dt B K H x d ∧ nodes d ≤ 100000 ∧ 1 ≤ L ∧ L ≤ 3 ∧ ∀ H', Same H H' → Q (.bl (swapD L d)) H'
theorem ok_swapping {f fN : Addr} {fd fdN : FuncData} (F : Fun K "is_swapping" "is_swapping" sSwapping f fd) (N : FnOk P w K mg base CX0 1 fN fdN ["value", "letters", "most"] (spWord K)) (FN : Fun K "is_word" "is_word" sWord fN fdN) (bN : Binds K fdN ["value", "letters", "most"] []) (gN : mg "is_word" = some (.ref fN)) (T : Mg mg) :
    FnOk P w K mg base CX0 2 f fd ["value", "letters"] (spSwap K) := by
  refine F.ok scSwapping (fun vs H Q E h => ?_) (fun cdv A outer s H vs Q E hr h => ?_)
  · obtain ⟨B, x, d, L, rfl, _⟩ := h
    rfl
  · obtain ⟨B, x, d, L, rfl, hd, hn, L1, L3, k⟩ := h
    obtain ⟨tt, mc⟩ := T.mpairs
    obtain ⟨tu, mp⟩ := T.mpiece
    refine ⟨_, pss_cons (ps_if (PW.pt (pw_or (pt_not (pt_val (pe_callB call_isi (by rfl) T.isi PyProof.Rows.boot_isinstance (pa_cons (pv 0) (pa_cons (pe_bltn (v := .ty "tuple") (by rfl) T.tuple PyProof.Rows.boot_tuple rfl) pa_nil)))))
        (pw_or1 (pt_not (pt_chain op_le op_le pe_int (pe_callB call_len_seq (by rfl) T.len PySem.boot_len (pa_cons (pv 0) pa_nil)) (pe_glob (v := .int 4) (by rfl) mc ⟨_, rfl⟩))))))
      (pss_one (ps_ret pe_bl)) pss_nil)
      (pss_cons (ps_set (i := 2) scSwapping.nd rfl (.inl rfl) (pe_lstA pa_nil))
      (pss_cons (ps_for PassesOwn.never rfl (pi_tup (pv 0)) (pg_name (i := 3) scSwapping.nd rfl (.inl rfl))
        (pss_cons (ps_if (PW.pt (pw_or (pt_not (pt_val (pe_callB call_isi (by rfl) T.isi PyProof.Rows.boot_isinstance (pa_cons (pv 3) (pa_cons (pe_bltn (v := .ty "tuple") (by rfl) T.tuple PyProof.Rows.boot_tuple rfl) pa_nil)))))
          (pw_or1 (pt_cmpR op_ne (pe_callB call_len_seq (by rfl) T.len PySem.boot_len (pa_cons (pv 3) pa_nil)) pe_int (nomark _))))) (pss_one (ps_ret pe_bl)) pss_nil)
        (pss_cons (ps_if (pt_not (pt_val (pe_callB (cr_all rfl) (by rfl) T.all (by decide +kernel) (pa_cons (pe_lc (own := [("piece", 4)]) (g := gName 4) (tt := tYes) rfl scSwapping.nd (pi_tup (pv 3)) (blkOk_by (N := ["value", "letters", "pieces", "pair", "piece"]) (sc := defScope sSwapping) (by decide +kernel)) (fun _ _ _ _ _ => pg_name (i := 4) scSwapping.nd rfl (Or.inl rfl)) (fun _ _ _ _ _ => pts_nil)
          (fun _ _ _ _ _ => pe_call N hr (by rfl) gN FN.kp bN .nil pass0 (pa_cons (pv 4) (pa_cons (pv 1) (pa_cons (pe_glob (v := .int 2) (by rfl) mp ⟨_, rfl⟩) pa_nil))))) pa_nil)))) (pss_one (ps_ret pe_bl)) pss_nil)
        (pss_cons (ps_if (pt_cmpR op_ne (pe_callB call_len_str (by rfl) T.len PySem.boot_len (pa_cons (pe_ix ix_tup (pv 3) pe_int (fun _ _ => rfl)) pa_nil)) (pe_callB call_len_str (by rfl) T.len PySem.boot_len (pa_cons (pe_ix ix_tup (pv 3) pe_int (fun _ _ => rfl)) pa_nil)) (nomark _)) (pss_one (ps_ret pe_bl)) pss_nil)
        (pss_one (ps_expr (pe_bm PySem.F.plainAttrs_list PySem.F.slot_list_extend PySem.F.type_list_extend mt_extT (pv 2) (pa_cons (pv 3) pa_nil))))))))
      (pss_one (ps_ret (pe_cmpR op_eq (pe_lenSetT rfl (by rfl) T.len (by rfl) T.set (pv 2)) (pe_callB call_len_seq (by rfl) T.len PySem.boot_len (pa_cons (pv 2) pa_nil)) (nomark _)))))), ?_⟩
    refine ⟨x, rfl, x, .ty "tuple", _, _, _, rfl, .ty _, tyD hd, kitT d, _, rfl, ?_⟩
    cases d with
    | none => exact k H (Same.refl H)
    | bool _ => exact k H (Same.refl H)
    | int _ => exact k H (Same.refl H)
    | str _ => exact k H (Same.refl H)
    | list _ => exact k H (Same.refl H)
    | dict _ => exact k H (Same.refl H)
    | tuple ds =>
      obtain ⟨a, xs, rfl, nb, hs, ha, hl⟩ := hd.tup_ref
      have hk : swapD L (.tuple ds) = (((decide (1 ≤ ds.length) && decide (ds.length ≤ 4)) && ds.all (pairD L)) && nodupS (ds.flatMap pcs)) := rfl
      rw [hk] at k
      rw [nodes_tup] at hn
      refine ⟨.ref a, rfl, a, xs, rfl, .inr hs, 1, _, rfl, rfl, _, rfl, ite2 (fun h5 => ?_) (fun h5 => ?_)⟩
      rotate_left
      · have e : decide (1 ≤ ds.length) = false := decide_eq_false fun q => h5 (decide_eq_true (by omega))
        rw [e] at k
        exact ⟨_, rfl, k H (Same.refl H)⟩
      · have h5 := of_decide_eq_true h5
        rw [decide_eq_true (by omega : 1 ≤ ds.length), Bool.true_and] at k
        refine ⟨_, 4, rfl, rfl, _, rfl, ite2 (fun h6 => ?_) (fun h6 => ?_)⟩
        · have e : decide (ds.length ≤ 4) = false := decide_eq_false fun q => by
            rw [decide_eq_true (by omega : (xs.length : Int) ≤ 4)] at h6
            cases h6
          rw [e] at k
          exact k H (Same.refl H)
        · have h7 : (xs.length : Int) ≤ 4 := by
            cases z : decide ((xs.length : Int) ≤ 4)
            · rw [z] at h6
              exact absurd rfl h6
            · exact of_decide_eq_true z
          rw [decide_eq_true (by omega : ds.length ≤ 4), Bool.true_and] at k
          refine ⟨by show 0 ≤ sizeLine; decide, fun p G s0 np _ lp => ⟨_, rfl, a, rfl, ⟨xs, same_seqT s0 hs⟩, ?_⟩⟩
          refine for_tup (K := K) (a := a) (xs := xs) (fun i σ H' => (∃ z3, σ = [some (V.ref a), some (V.int L), some (V.ref p), z3, none]) ∧ Same H H' ∧ (ds.take i).all (pairD L) = true ∧ H' p = some (.lst (((ds.take i).flatMap pcs).map V.str)) ∧ ((ds.take i).flatMap pcs).length = 2 * i) ⟨⟨none, rfl⟩, s0, rfl, lp, rfl⟩ (fun i σ H' _ q => same_seqT q.2.1 hs) ?_ ?_
          · rintro i y σ H1 hy ⟨⟨z3, rfl⟩, sm, hall, lp1, hlen⟩
            obtain ⟨d, hdi, hd1⟩ := ha.getV hy
            have hd2 := same_dt sm hd1
            have hi := (List.getElem?_eq_some_iff.mp hdi).1
            have bad : ∀ H2, Same H1 H2 → pairD L d = false → Q (.bl false) H2 := fun H2 s2 e => by
              rw [all_no hdi e] at k
              exact k H2 (sm.trans s2)
            refine ⟨y, rfl, y, .ty "tuple", _, _, _, rfl, .ty _, tyD hd2, kitT d, _, rfl, ?_⟩
            cases d with
            | none => exact bad H1 (Same.refl H1) rfl
            | bool _ => exact bad H1 (Same.refl H1) rfl
            | int _ => exact bad H1 (Same.refl H1) rfl
            | str _ => exact bad H1 (Same.refl H1) rfl
            | list _ => exact bad H1 (Same.refl H1) rfl
            | dict _ => exact bad H1 (Same.refl H1) rfl
            | tuple es =>
              obtain ⟨b, ys, rfl, nb2, hs2, ha2, hl2⟩ := hd2.tup_ref
              have hes : nodesAll es ≤ 100000 := by
                have q2 := mem_nodes (List.mem_of_getElem? hdi)
                rw [nodes_tup] at q2
                omega
              refine ⟨.ref b, rfl, b, ys, rfl, .inr hs2, rfl, _, rfl, ite2 (fun h1 => ?_) (fun h1 => ?_)⟩
              · have h2 : ¬ ((es.length : Int) = 2) := by
                  rw [← hl2]
                  exact ne_int h1
                refine bad H1 (Same.refl H1) ?_
                match es, h2 with
                | [], _ => rfl
                | [_], _ => rfl
                | [_, _], h2 => exact absurd rfl h2
                | _ :: _ :: _ :: _, _ => rfl
              · have h2 : (es.length : Int) = 2 := by
                  rw [← hl2]
                  exact ne_int' h1
                obtain ⟨dx, dy, rfl⟩ : ∃ dx dy, es = [dx, dy] := by
                  match es, h2 with
                  | [dx, dy], _ => exact ⟨dx, dy, rfl⟩
                obtain ⟨vx, vy, rfl, hdx, hdy⟩ : ∃ vx vy, ys = [vx, vy] ∧ Dt B K H1 vx dx ∧ Dt B K H1 vy dy := by
                  cases ha2 with
                  | cons g1 g =>
                    cases g with
                    | cons g2 g =>
                      cases g
                      exact ⟨_, _, rfl, g1, g2⟩
                refine ⟨.ref b, rfl, b, rfl, ⟨_, hs2⟩, fun D hD => ?_⟩
                refine lc_tup (K := K) (a := b) (xs := [vx, vy]) (BInv (wordD L 2) [dx, dy] H1 D) ⟨same_new hD, upd_same⟩ (fun i H' _ q => same_seqT q.1 hs2) ?_ ?_
                · rintro i2 y2 H' hy2 p
                  obtain ⟨d, hm, hd', fin⟩ := bturn ha2 (by show 2 < sizeLine; decide) hD hy2 p
                  exact ⟨rfl, y2, rfl, .int L, rfl, B, y2, d, L, 2, rfl, hd', by have := mem_nodes hm; omega, L1, L3, fun H3 s3 => fin H3 s3 _ rfl⟩
                · rintro H' pB
                  obtain ⟨sm2, hS⟩ := bend (K := K) hl2 pB
                  refine ⟨D, _, rfl, hS, _, rfl, ?_⟩
                  rw [all_take']
                  have e3 : [dx, dy].all (wordD L 2) = (wordD L 2 dx && wordD L 2 dy) := by simp
                  have e4 : pairD L (.tuple [dx, dy]) = ((wordD L 2 dx && wordD L 2 dy) && decide (slen dx = slen dy)) := rfl
                  rw [e3]
                  refine ite2 (fun h3 => ?_) (fun h3 => ?_)
                  · refine bad H' sm2 ?_
                    rw [e4, not_cases h3]
                    rfl
                  · have h4 := not_cases' h3
                    rw [h4, Bool.true_and] at e4
                    rw [Bool.and_eq_true] at h4
                    obtain ⟨zx, rfl⟩ : ∃ z, dx = .str z := by
                      cases dx with
                      | str z => exact ⟨z, rfl⟩
                      | _ => exact absurd h4.1 Bool.false_ne_true
                    obtain ⟨zy, rfl⟩ : ∃ z, dy = .str z := by
                      cases dy with
                      | str z => exact ⟨z, rfl⟩
                      | _ => exact absurd h4.2 Bool.false_ne_true
                    cases hdx
                    cases hdy
                    rw [nodesAll_cons, nodesAll_cons, nodesAll_nil, nodes, nodes] at hes
                    have hs3 := same_seqT sm2 hs2
                    refine ⟨_, rfl, b, _, 0, .str zx, rfl, rfl, hs3, atI_nat (j := 0) rfl, zx, rfl, sz_of (by omega), _, rfl, b, _, 1, .str zy, rfl, rfl, hs3, atI_nat (j := 1) rfl, zy, rfl, sz_of (by omega), rfl, _, rfl, ite2 (fun h5 => ?_) (fun h5 => ?_)⟩
                    · refine bad H' sm2 ?_
                      rw [e4]
                      exact decide_eq_false fun q => ne_int h5 (by show (zx.length : Int) = zy.length; exact congrArg Int.ofNat q)
                    · have e5 : pairD L (.tuple [.str zx, .str zy]) = true := by
                        rw [e4]
                        have := ne_int' h5
                        exact decide_eq_true (by show zx.length = zy.length; omega)
                      have e6 : (ds.take (i + 1)).flatMap pcs = (ds.take i).flatMap pcs ++ [zx, zy] := by
                        rw [List.take_add_one, hdi]
                        simp [pcs]
                      have lp2 := sm2 _ _ lp1
                      refine ⟨_, rfl, .inl ⟨rfl, _, SqL.of lp2⟩, _, rfl, p, b, _, _, rfl, rfl, lp2, hs3, ?_, ⟨_, rfl⟩, ?_, all_up hdi e5 hall, ?_, ?_⟩
                      · rw [List.length_map, hlen]
                        exact sz_of (by show 2 * i + 2 ≤ 100000; omega)
                      · intro q o e
                        rw [upd_ne (ne_of_none e np)]
                        exact sm2 _ _ (sm _ _ e)
                      · rw [upd_same, e6, List.map_append]
                        rfl
                      · rw [e6, List.length_append, hlen]
                        show 2 * i + 2 = 2 * (i + 1)
                        omega
          · rintro σ H1 ⟨⟨z3, rfl⟩, sm, hall, lp1, hlen⟩
            rw [hl] at hlen lp1 hall
            rw [List.take_length] at hall lp1 hlen
            rw [hall, Bool.true_and] at k
            refine ⟨_, rfl, p, _, rfl, SqL.of lp1, by omega, _, rfl, p, _, rfl, .inl (SqL.of lp1), rfl, ?_⟩
            have e7 : decide (V.int ((dd (ds.flatMap pcs)).length : Int) = V.int (((ds.flatMap pcs).map V.str).length : Int)) = nodupS (ds.flatMap pcs) := by
              unfold nodupS
              rw [List.length_map]
              by_cases q : (dd (ds.flatMap pcs)).length = (ds.flatMap pcs).length
              · rw [decide_eq_true q, decide_eq_true (by rw [q])]
              · rw [decide_eq_false q, decide_eq_false fun z => q (by have := V.int.inj z; omega)]
            rw [e7]
            exact k H1 sm
end
theorem len_no {n m : Nat} (h : ¬ decide (V.int (n : Int) = V.int (m : Int)) = true) : n ≠ m := fun e => h (decide_eq_true (by rw [e]))
theorem len_yes {n m : Nat} (h : decide (V.int (n : Int) = V.int (m : Int)) = true) : n = m := by
  have := V.int.inj (of_decide_eq_true h)
  omega
section
variable {P : Program} {w : World} {K : PySem.W.Frag} {mg : Str → Option Value} {base : Heap}
def spStep (K : PySem.W.Frag) : Sp := fun vs H Q _ => ∃ (B : Addr → Prop) (x : V) (d : PyData) (L : Int), vs = [x, .int L] ∧ Dt B K H x d ∧ nodes d ≤ 100000 ∧ 1 ≤ L ∧ L ≤ 3 ∧ ∀ H', Same H H' → Q (.bl (stepD L d)) H'
theorem scStep : FnScope ["value", "letters", "name"] ["value", "letters"] (defScope sStep) := ⟨rfl, rfl, rfl, by decide +kernel, rfl, by decide +kernel, by decide +kernel⟩
theorem ok_step {f fU fN fG fR fO fW : Addr} {fd fdU fdN fdG fdR fdO fdW : FuncData} (F : Fun K "is_step" "is_step" sStep f fd)
    (U : FnOk P w K mg base CX0 3 fU fdU ["value", "letters"] (spUnit K)) (FU : Fun K "is_unit" "is_unit" sUnit fU fdU) (bU : Binds K fdU ["value", "letters"] []) (gU : mg "is_unit" = some (.ref fU))
    (N : FnOk P w K mg base CX0 2 fN fdN ["value", "least", "most"] (spNum K)) (FN : Fun K "is_number" "is_number" sNumber fN fdN) (bN : Binds K fdN ["value", "least", "most"] []) (gN : mg "is_number" = some (.ref fN))
    (G : FnOk P w K mg base CX0 2 fG fdG ["value", "letters"] (spLet K)) (FG : Fun K "is_letter" "is_letter" sLetter fG fdG) (bG : Binds K fdG ["value", "letters"] []) (gG : mg "is_letter" = some (.ref fG))
    (R : FnOk P w K mg base CX0 3 fR fdR ["value", "letters"] (spTurn K)) (FR : Fun K "is_turning" "is_turning" sTurning fR fdR) (bR : Binds K fdR ["value", "letters"] []) (gR : mg "is_turning" = some (.ref fR))
    (O : FnOk P w K mg base CX0 3 fO fdO ["value", "letters", "turns"] (spPut K)) (FO : Fun K "is_putting" "is_putting" sPutting fO fdO) (bO : Binds K fdO ["value", "letters", "turns"] []) (gO : mg "is_putting" = some (.ref fO))
    (W : FnOk P w K mg base CX0 2 fW fdW ["value", "letters"] (spSwap K)) (FW : Fun K "is_swapping" "is_swapping" sSwapping fW fdW) (bW : Binds K fdW ["value", "letters"] []) (gW : mg "is_swapping" = some (.ref fW)) (T : Mg mg) :
    FnOk P w K mg base CX0 4 f fd ["value", "letters"] (spStep K) := by
  refine F.ok scStep (fun vs H Q E h => ?_) (fun cdv A outer s H vs Q E hr h => ?_)
  · obtain ⟨B, x, d, L, rfl, _⟩ := h
    rfl
  · obtain ⟨B, x, d, L, rfl, hd, hn, L1, L3, k⟩ := h
    have hu0 := hr.units0
    obtain ⟨tt, mc⟩ := T.mcut
    refine ⟨_, pss_cons (ps_if (PW.pt (pw_or (pt_not (pt_val (pe_callB (r := rIsi K) call_isi (by rfl) T.isi PyProof.Rows.boot_isinstance (pa_cons (pv 0) (pa_cons (pe_bltn (v := .ty "tuple") (by rfl) T.tuple PyProof.Rows.boot_tuple rfl) pa_nil)))))
        (pw_or1 (pt_cmpR op_lt (pe_callB (r := rLen K) call_len_seq (by rfl) T.len PySem.boot_len (pa_cons (pv 0) pa_nil)) pe_int (nomark _))))) (pss_one (ps_ret pe_bl)) pss_nil)
      (pss_cons (ps_set (i := 2) scStep.nd rfl (.inl rfl) (pe_ix (r := rIxT K) ix_tup (pv 0) pe_int (fun _ _ => rfl)))
      (pss_cons (ps_if (pt_cmpR (op_eqStr hu0) (pv 2) pe_str (nomark _)) (pss_one (ps_ret (pe_and (pe_cmpR op_eq (pe_callB (r := rLen K) call_len_seq (by rfl) T.len PySem.boot_len (pa_cons (pv 0) pa_nil)) pe_int (nomark _)) (pe_and (pe_call U (hr.mono (by decide)) (by rfl) gU FU.kp bU .nil pass0 (pa_cons (pe_ix (r := rIxT K) ix_tup (pv 0) pe_int (fun _ _ => rfl)) (pa_cons (pv 1) pa_nil))) (pe_one (pe_call N (hr.mono (by decide)) (by rfl) gN FN.kp bN .nil pass0 (pa_cons (pe_ix (r := rIxT K) ix_tup (pv 0) pe_int (fun _ _ => rfl)) (pa_cons pe_int (pa_cons (pe_glob (v := .int 30) (by rfl) mc ⟨_, rfl⟩) pa_nil))))))))) pss_nil)
      (pss_cons (ps_if (pt_cmpR (op_eqStr hu0) (pv 2) pe_str (nomark _)) (pss_one (ps_ret (pe_and (pe_cmpR op_eq (pe_callB (r := rLen K) call_len_seq (by rfl) T.len PySem.boot_len (pa_cons (pv 0) pa_nil)) pe_int (nomark _)) (pe_one (pe_call G (hr.mono (by decide)) (by rfl) gG FG.kp bG .nil pass0 (pa_cons (pe_ix (r := rIxT K) ix_tup (pv 0) pe_int (fun _ _ => rfl)) (pa_cons (pv 1) pa_nil))))))) pss_nil)
      (pss_cons (ps_if (pt_cmpR (op_eqStr hu0) (pv 2) pe_str (nomark _)) (pss_one (ps_ret (pe_and (pe_cmpR op_eq (pe_callB (r := rLen K) call_len_seq (by rfl) T.len PySem.boot_len (pa_cons (pv 0) pa_nil)) pe_int (nomark _)) (pe_and (pe_call R (hr.mono (by decide)) (by rfl) gR FR.kp bR .nil pass0 (pa_cons (pe_ix (r := rIxT K) ix_tup (pv 0) pe_int (fun _ _ => rfl)) (pa_cons (pv 1) pa_nil))) (pe_one (pe_call O (hr.mono (by decide)) (by rfl) gO FO.kp bO .nil pass0 (pa_cons (pe_ix (r := rIxT K) ix_tup (pv 0) pe_int (fun _ _ => rfl)) (pa_cons (pv 1) (pa_cons (pe_callB (r := rLen K) call_len_seq (by rfl) T.len PySem.boot_len (pa_cons (pe_ix (r := rIxT K) ix_tup (pv 0) pe_int (fun _ _ => rfl)) pa_nil)) pa_nil))))))))) pss_nil)
      (pss_cons (ps_if (pt_cmpR (op_eqStr hu0) (pv 2) pe_str (nomark _)) (pss_one (ps_ret (pe_and (pe_cmpR op_eq (pe_callB (r := rLen K) call_len_seq (by rfl) T.len PySem.boot_len (pa_cons (pv 0) pa_nil)) pe_int (nomark _)) (pe_one (pe_call W (hr.mono (by decide)) (by rfl) gW FW.kp bW .nil pass0 (pa_cons (pe_ix (r := rIxT K) ix_tup (pv 0) pe_int (fun _ _ => rfl)) (pa_cons (pv 1) pa_nil))))))) pss_nil)
      (pss_one (ps_ret pe_bl))))))), ?_⟩
    refine ⟨x, rfl, x, .ty "tuple", _, _, _, rfl, .ty _, tyD hd, kitT d, _, rfl, ?_⟩
    cases d with
    | none => exact k H (Same.refl H)
    | bool _ => exact k H (Same.refl H)
    | int _ => exact k H (Same.refl H)
    | str _ => exact k H (Same.refl H)
    | list _ => exact k H (Same.refl H)
    | dict _ => exact k H (Same.refl H)
    | tuple ds =>
      obtain ⟨a, xs, rfl, nb, hs, ha, hl⟩ := hd.tup_ref
      refine ⟨.ref a, rfl, a, xs, rfl, .inr hs, _, 2, rfl, rfl, _, rfl, ite2 (fun h1 => ?_) (fun h1 => ?_)⟩
      · have h2 := of_decide_eq_true h1
        have e : stepD L (.tuple ds) = false := by
          match ds, hl with
          | [], _ => rfl
          | [_], _ => rfl
          | _ :: _ :: _, hl =>
            rw [List.length_cons, List.length_cons] at hl
            omega
        rw [e] at k
        exact k H (Same.refl H)
      · have h2 : ¬ ((xs.length : Int) < 2) := fun q => h1 (decide_eq_true q)
        obtain ⟨d0, d1, r, rfl⟩ : ∃ d0 d1 r, ds = d0 :: d1 :: r := by
          match ds, hl with
          | [], hl => exact absurd (by rw [hl]; decide) h2
          | [_], hl => exact absurd (by rw [hl]; show ((1 : Nat) : Int) < 2; decide) h2
          | d0 :: d1 :: r, _ => exact ⟨d0, d1, r, rfl⟩
        obtain ⟨v0, v1, rs, rfl, hd0, hd1, hr2⟩ : ∃ v0 v1 rs, xs = v0 :: v1 :: rs ∧ Dt B K H v0 d0 ∧ Dt B K H v1 d1 ∧ DtAll B K H rs r := by
          cases ha with
          | cons g1 g =>
            cases g with
            | cons g2 g => exact ⟨_, _, _, rfl, g1, g2, g⟩
        rw [nodes_tup, nodesAll_cons, nodesAll_cons] at hn
        have lr : rs.length = r.length := hr2.len
        have kk : ∀ (H' : Hp) (b : Bool), Same H H' → stepL L d0 (d1 :: r) = b → Q (.bl b) H' := fun H' b sm e => by
          rw [← e]
          exact k H' sm
        clear k
        unfold stepL at kk
        have len2 : (v0 :: v1 :: rs).length = 2 + rs.length := by
          rw [List.length_cons, List.length_cons]
          omega
        refine ⟨_, rfl, a, _, 0, v0, rfl, rfl, hs, atI_nat (j := 0) rfl, ?_⟩
        refine ⟨_, rfl, B, d0, "cut", rfl, hd0, _, rfl, ite2 (fun c1 => ?_) (fun c1 => ?_)⟩
        · rw [if_pos c1] at kk
          refine ⟨_, rfl, a, _, rfl, .inr hs, rfl, _, rfl, ite2 (fun q1 => ?_) (fun q1 => ?_)⟩
          · have q2 : (v0 :: v1 :: rs).length = 3 := len_yes q1
            obtain ⟨d2, rfl⟩ : ∃ d2, r = [d2] := by
              match r, lr with
              | [d2], _ => exact ⟨d2, rfl⟩
              | [], lr => rw [List.length_nil] at lr; omega
              | _ :: _ :: _, lr => rw [List.length_cons, List.length_cons] at lr; omega
            obtain ⟨v2, rfl, hd2⟩ : ∃ v2, rs = [v2] ∧ Dt B K H v2 d2 := by
              cases hr2 with
              | cons g1 g =>
                cases g
                exact ⟨_, rfl, g1⟩
            rw [nodesAll_cons] at hn
            refine ⟨_, rfl, a, _, 1, v1, rfl, rfl, hs, atI_nat (j := 1) rfl, _, rfl, B, v1, d1, L, rfl, hd1, by omega, fun H1 s1 => ⟨_, rfl, ite2 (fun u1 => ?_) (fun u1 => ?_)⟩⟩
            · refine ⟨_, rfl, a, _, 2, v2, rfl, rfl, same_seqT s1 hs, atI_nat (j := 2) rfl, B, v2, d2, 0, 30, rfl, same_dt s1 hd2, kk H1 _ s1 ?_⟩
              show (unitD L d1 && numD d2 0 30) = _
              rw [u1]
              rfl
            · refine kk H1 false s1 ?_
              show (unitD L d1 && numD d2 0 30) = _
              rw [Bool.eq_false_iff.mpr u1]
              rfl
          · have q2 : (v0 :: v1 :: rs).length ≠ 3 := len_no q1
            refine kk H false (Same.refl H) ?_
            match r, lr with
            | [], _ => rfl
            | [_], lr => rw [List.length_singleton] at lr; omega
            | _ :: _ :: _, _ => rfl
        · rw [if_neg c1] at kk
          refine ⟨_, rfl, B, d0, "stop", rfl, hd0, _, rfl, ite2 (fun c2 => ?_) (fun c2 => ?_)⟩
          · rw [if_pos c2] at kk
            refine ⟨_, rfl, a, _, rfl, .inr hs, rfl, _, rfl, ite2 (fun q1 => ?_) (fun q1 => ?_)⟩
            · have q2 : (v0 :: v1 :: rs).length = 2 := len_yes q1
              obtain rfl : r = [] := List.eq_nil_of_length_eq_zero (by omega)
              exact ⟨_, rfl, a, _, 1, v1, rfl, rfl, hs, atI_nat (j := 1) rfl, _, rfl, B, v1, d1, L, rfl, hd1, by omega, L1, L3, fun H1 s1 => kk H1 _ s1 rfl⟩
            · have q2 : (v0 :: v1 :: rs).length ≠ 2 := len_no q1
              refine kk H false (Same.refl H) ?_
              match r, lr with
              | [], lr => rw [List.length_nil] at lr; omega
              | _ :: _, _ => rfl
          · rw [if_neg c2] at kk
            refine ⟨_, rfl, B, d0, "pass", rfl, hd0, _, rfl, ite2 (fun c3 => ?_) (fun c3 => ?_)⟩
            · rw [if_pos c3] at kk
              refine ⟨_, rfl, a, _, rfl, .inr hs, rfl, _, rfl, ite2 (fun q1 => ?_) (fun q1 => ?_)⟩
              · have q2 : (v0 :: v1 :: rs).length = 3 := len_yes q1
                obtain ⟨d2, rfl⟩ : ∃ d2, r = [d2] := by
                  match r, lr with
                  | [d2], _ => exact ⟨d2, rfl⟩
                  | [], lr => rw [List.length_nil] at lr; omega
                  | _ :: _ :: _, lr => rw [List.length_cons, List.length_cons] at lr; omega
                obtain ⟨v2, rfl, hd2⟩ : ∃ v2, rs = [v2] ∧ Dt B K H v2 d2 := by
                  cases hr2 with
                  | cons g1 g =>
                    cases g
                    exact ⟨_, rfl, g1⟩
                rw [nodesAll_cons] at hn
                refine ⟨_, rfl, a, _, 1, v1, rfl, rfl, hs, atI_nat (j := 1) rfl, _, rfl, B, v1, d1, L, rfl, hd1, by omega, fun H1 s1 => ⟨_, rfl, ite2 (fun u1 => ?_) (fun u1 => ?_)⟩⟩
                · obtain ⟨es, rfl⟩ : ∃ es, d1 = .tuple es := by
                    cases d1 with
                    | tuple es => exact ⟨es, rfl⟩
                    | _ => cases u1
                  obtain ⟨b, ys, rfl, nb2, hs2, ha2, hl2⟩ := hd1.tup_ref
                  refine ⟨_, rfl, a, _, 2, v2, rfl, rfl, same_seqT s1 hs, atI_nat (j := 2) rfl, _, rfl, _, rfl, a, _, 1, .ref b, rfl, rfl, same_seqT s1 hs, atI_nat (j := 1) rfl, b, ys, rfl, .inr (same_seqT s1 hs2), B, v2, d2, L, (es.length : Int), (by rw [hl2]; rfl), same_dt s1 hd2, by omega, L1, L3, fun H2 s2 => kk H2 _ (s1.trans s2) ?_⟩
                  show (turnD L (.tuple es) && putD L (es.length : Int) d2) = _
                  rw [u1]
                  rfl
                · refine kk H1 false s1 ?_
                  show (turnD L d1 && putD L (tlen d1) d2) = _
                  rw [Bool.eq_false_iff.mpr u1]
                  rfl
              · have q2 : (v0 :: v1 :: rs).length ≠ 3 := len_no q1
                refine kk H false (Same.refl H) ?_
                match r, lr with
                | [], _ => rfl
                | [_], lr => rw [List.length_singleton] at lr; omega
                | _ :: _ :: _, _ => rfl
            · rw [if_neg c3] at kk
              refine ⟨_, rfl, B, d0, "swap", rfl, hd0, _, rfl, ite2 (fun c4 => ?_) (fun c4 => ?_)⟩
              · rw [if_pos c4] at kk
                refine ⟨_, rfl, a, _, rfl, .inr hs, rfl, _, rfl, ite2 (fun q1 => ?_) (fun q1 => ?_)⟩
                · have q2 : (v0 :: v1 :: rs).length = 2 := len_yes q1
                  obtain rfl : r = [] := List.eq_nil_of_length_eq_zero (by omega)
                  exact ⟨_, rfl, a, _, 1, v1, rfl, rfl, hs, atI_nat (j := 1) rfl, _, rfl, B, v1, d1, L, rfl, hd1, by omega, L1, L3, fun H1 s1 => kk H1 _ s1 rfl⟩
                · have q2 : (v0 :: v1 :: rs).length ≠ 2 := len_no q1
                  refine kk H false (Same.refl H) ?_
                  match r, lr with
                  | [], lr => rw [List.length_nil] at lr; omega
                  | _ :: _, _ => rfl
              · rw [if_neg c4] at kk
                exact kk H false (Same.refl H) rfl
end
theorem fb_some {L : Int} : ∀ {ds : List PyData} {i k : Nat} {d : PyData}, (ds.take i).all (stepD L) = true → ds[i]? = some d → stepD L d = false → firstBad L ds k = some (k + i)
  | [], _, _, _, _, e, _ => by simp at e
  | x :: ds, 0, k, d, _, e, h => by
    simp at e
    subst e
    unfold firstBad
    rw [if_neg (by rw [h]; exact Bool.false_ne_true)]
    rfl
  | x :: ds, i + 1, k, d, ha, e, h => by
    rw [List.take_succ_cons, List.all_cons, Bool.and_eq_true] at ha
    unfold firstBad
    rw [if_pos ha.1, fb_some (i := i) ha.2 (by simpa using e) h]
    congr 1
    omega
theorem fb_none {L : Int} : ∀ {ds : List PyData} {k : Nat}, ds.all (stepD L) = true → firstBad L ds k = none
  | [], _, _ => rfl
  | x :: ds, k, ha => by
    rw [List.all_cons, Bool.and_eq_true] at ha
    unfold firstBad
    rw [if_pos ha.1]
    exact fb_none ha.2
theorem lineE_bad {L : Int} {ds : List PyData} {i : Nat} {d : PyData} (ha : (ds.take i).all (stepD L) = true) (e : ds[i]? = some d) (h : stepD L d = false) : lineE L (.tuple ds) = some (some i, ("step" : Str)) := by
  have q := fb_some (k := 0) ha e h
  rw [Nat.zero_add] at q
  show (match firstBad L ds 0 with | some k => some (some k, ("step" : Str)) | none => if ds.length ≤ 3 then none else some (none, ("many" : Str))) = _
  rw [q]
theorem lineE_ok {L : Int} {ds : List PyData} (ha : ds.all (stepD L) = true) : lineE L (.tuple ds) = if ds.length ≤ 3 then none else some (none, ("many" : Str)) := by
  show (match firstBad L ds 0 with | some k => some (some k, ("step" : Str)) | none => if ds.length ≤ 3 then none else some (none, ("many" : Str))) = _
  rw [fb_none ha]
section
variable {P : Program} {w : World} {K : PySem.W.Frag} {mg : Str → Option Value} {base : Heap}
def spLErr (K : PySem.W.Frag) : Sp := fun vs H Q _ => ∃ (B : Addr → Prop) (x : V) (d : PyData) (L : Int), vs = [.int L, x] ∧ Dt B K H x d ∧ nodes d ≤ 100000 ∧ 1 ≤ L ∧ L ≤ 3 ∧ ∀ H' v', Same H H' → Dt (fun _ => False) K H' v' (errE (lineE L d)) → Q v' H'
theorem scLErr : FnScope ["letters", "value", "index", "step"] ["letters", "value"] (defScope sLErr) := ⟨rfl, rfl, rfl, by decide +kernel, rfl, by decide +kernel, by decide +kernel⟩
theorem ok_lErr {f fS : Addr} {fd fdS : FuncData} (F : Fun K "line_error" "line_error" sLErr f fd) (S : FnOk P w K mg base CX0 4 fS fdS ["value", "letters"] (spStep K)) (FS : Fun K "is_step" "is_step" sStep fS fdS) (bS : Binds K fdS ["value", "letters"] []) (gS : mg "is_step" = some (.ref fS)) (T : Mg mg) :
    FnOk P w K mg base CX0 5 f fd ["letters", "value"] (spLErr K) := by
  refine F.ok scLErr (fun vs H Q E h => ?_) (fun cdv A outer s H vs Q E hr h => ?_)
  · obtain ⟨B, x, d, L, rfl, _⟩ := h
    rfl
  · obtain ⟨B, x, d, L, rfl, hd, hn, L1, L3, k⟩ := h
    obtain ⟨tt, mc⟩ := T.mline
    refine ⟨_, pss_cons (ps_if (pt_not (pt_val (pe_callB (r := rIsi K) call_isi (by rfl) T.isi PyProof.Rows.boot_isinstance (pa_cons (pv 1) (pa_cons (pe_bltn (v := .ty "tuple") (by rfl) T.tuple PyProof.Rows.boot_tuple rfl) pa_nil))))) (pss_one (ps_ret (pe_tup (pa_cons pe_non (pa_cons pe_str pa_nil))))) pss_nil)
      (pss_cons (ps_for PassesOwn.never rfl (pi_enumT (by rfl) T.enum (pa_cons (pv 1) pa_nil)) (pg_tup rfl (pgs_cons (pg_name (i := 2) scLErr.nd rfl (.inl rfl)) (pgs_cons (pg_name (i := 3) scLErr.nd rfl (.inl rfl)) pgs_nil)))
        (pss_one (ps_if (pt_not (pt_val (pe_call S hr (by rfl) gS FS.kp bS .nil pass0 (pa_cons (pv 3) (pa_cons (pv 0) pa_nil))))) (pss_one (ps_ret (pe_tup (pa_cons (pv 2) (pa_cons pe_str pa_nil))))) pss_nil)))
      (pss_cons (ps_if (pt_cmpR op_gt (pe_callB (r := rLen K) call_len_seq (by rfl) T.len PySem.boot_len (pa_cons (pv 1) pa_nil)) (pe_glob (v := .int 3) (by rfl) mc ⟨_, rfl⟩) (nomark _)) (pss_one (ps_ret (pe_tup (pa_cons pe_non (pa_cons pe_str pa_nil))))) pss_nil)
      (pss_one (ps_ret pe_non)))), ?_⟩
    refine ⟨x, rfl, x, .ty "tuple", _, _, _, rfl, .ty _, tyD hd, kitT d, _, rfl, ?_⟩
    have no : lineE L d = some (none, ("line" : Str)) → 2 ≤ sizeLine ∧ ∀ p, H p = none → Q (.ref p) (upd H p (.tup [.non, .str "line"])) := fun e => ⟨by decide, fun p hp => k _ _ (same_new hp) (by
      rw [e]
      exact .tup (fun z => z) (.inl upd_same) (.cons .non (.cons (.str _) .nil)))⟩
    cases d with
    | none => exact no rfl
    | bool _ => exact no rfl
    | int _ => exact no rfl
    | str _ => exact no rfl
    | list _ => exact no rfl
    | dict _ => exact no rfl
    | tuple ds =>
      clear no
      obtain ⟨a, xs, rfl, nb, hs, ha, hl⟩ := hd.tup_ref
      rw [nodes_tup] at hn
      refine ⟨_, rfl, a, xs, rfl, hs, ?_⟩
      refine for_it (walk_enumT (K := K) (a := a) (xs := xs)) (fun i σ H' => (∃ y2 y3, σ = [some (V.int L), some (V.ref a), y2, y3]) ∧ Same H H' ∧ (ds.take i).all (stepD L) = true) ⟨⟨none, none, rfl⟩, Same.refl H, rfl⟩ (fun i σ H' _ q => same_seqT q.2.1 hs) ?_ ?_
      · rintro i x σ H1 H2 hi ⟨⟨y2, y3, rfl⟩, sm, hall⟩ ⟨T1, va, vb, rfl, nT, rfl, ea, eb⟩
        cases ea
        obtain ⟨d, hdi, hd1⟩ := ha.getV eb
        have s1 := sm.trans (same_new (o := .tup [V.int (i : Nat), vb]) nT)
        refine ⟨T1, _, rfl, SqT.of upd_same, rfl, _, _, rfl, _, _, rfl, rfl, ?_⟩
        have hn2 := mem_nodes (List.mem_of_getElem? hdi)
        refine ⟨_, rfl, _, rfl, B, vb, d, L, rfl, same_dt s1 hd1, by omega, L1, L3, fun H3 s3 => ⟨_, rfl, ite2 (fun h1 => ?_) (fun h1 => ?_)⟩⟩
        · refine ⟨_, rfl, by show 2 ≤ sizeLine; decide, fun p hp => k _ _ ((s1.trans s3).trans (same_new hp)) ?_⟩
          rw [lineE_bad hall hdi (not_cases h1)]
          exact .tup (fun z => z) (.inl upd_same) (.cons (.int _) (.cons (.str _) .nil))
        · exact ⟨⟨_, _, rfl⟩, s1.trans s3, all_up hdi (not_cases' h1) hall⟩
      · rintro σ H1 ⟨⟨y2, y3, rfl⟩, sm, hall⟩
        rw [hl, List.take_length] at hall
        rw [lineE_ok hall] at k
        refine ⟨_, rfl, a, xs, rfl, .inr (same_seqT sm hs), _, 3, rfl, rfl, _, rfl, ite2 (fun h1 => ?_) (fun h1 => ?_)⟩
        · have h2 := of_decide_eq_true h1
          rw [if_neg (by omega)] at k
          exact ⟨by show 2 ≤ sizeLine; decide, fun p hp => k _ _ (sm.trans (same_new hp)) (.tup (fun z => z) (.inl upd_same) (.cons .non (.cons (.str _) .nil)))⟩
        · have h2 : ¬ ((xs.length : Int) > 3) := fun q => h1 (decide_eq_true q)
          rw [if_pos (by omega)] at k
          exact k _ _ sm .non
end
def ofD (L lo hi : Int) (d : PyData) : Bool := match d with
  | .str z => (decide (lo ≤ (z.length : Int)) && decide ((z.length : Int) ≤ hi)) && z.cps.toList.all (inL L)
  | _ => false
section
variable {P : Program} {w : World} {K : PySem.W.Frag} {mg : Str → Option Value} {base : Heap}
def spOf (K : PySem.W.Frag) : Sp := fun vs H Q _ => ∃ (B : Addr → Prop) (x : V) (d : PyData) (L lo hi : Int), vs = [.int L, x, .int lo, .int hi] ∧ Dt B K H x d ∧ nodes d ≤ 100000 ∧ ∀ H', Same H H' → Q (.bl (ofD L lo hi d)) H'
theorem scOf : FnScope ["_law_letters", "_law_value", "_law_least", "_law_most", "_law_sign"] ["_law_letters", "_law_value", "_law_least", "_law_most"] (defScope sOfLet) := ⟨rfl, rfl, rfl, by decide +kernel, rfl, by decide +kernel, by decide +kernel⟩
theorem ok_of {f : Addr} {fd : FuncData} (F : Fun K "_law_is_of_letters" "_law_is_of_letters" sOfLet f fd) (T : Mg mg) : FnOk P w K mg base CX0 1 f fd ["_law_letters", "_law_value", "_law_least", "_law_most"] (spOf K) := by
  refine F.ok scOf (fun vs H Q E h => ?_) (fun cdv A outer s H vs Q E hr h => ?_)
  · obtain ⟨B, x, d, L, lo, hi, rfl, _⟩ := h
    rfl
  · obtain ⟨B, x, d, L, lo, hi, rfl, hd, hn, k⟩ := h
    have hu0 := hr.units0
    refine ⟨_, pss_cons (ps_if (PW.pt (pw_or (pt_not (pt_val (pe_callB (r := rIsi K) call_isi (by rfl) T.isi PyProof.Rows.boot_isinstance (pa_cons (pv 1) (pa_cons (pe_bltn (v := .ty "str") (by rfl) T.str (by decide +kernel) rfl) pa_nil)))))
        (pw_or1 (pt_not (pt_chain op_le op_le (pv 2) (pe_callB call_len_str (by rfl) T.len PySem.boot_len (pa_cons (pv 1) pa_nil)) (pv 3)))))) (pss_one (ps_ret pe_bl)) pss_nil)
      (pss_one (ps_ret (pe_cmpR (op_eqNilL hu0) (pe_lc (own := [("_law_sign", 4)]) (g := gName 4) rfl scOf.nd (pi_str (pv 1)) (blkOk_by (N := ["_law_letters", "_law_value", "_law_least", "_law_most", "_law_sign"]) (sc := defScope sOfLet) (by decide +kernel)) (fun _ _ _ _ _ => pg_name (i := 4) scOf.nd rfl (Or.inl rfl)) (fun _ _ _ _ _ => pts_one (pt_cmpR op_notIn_sign (pv 4) (pe_slice sl_str pe_str po_none (po_some (pv 0))) (by rfl))) (fun _ _ _ _ _ => pv 4)) (pe_lst pa_nil) (nomark _)))), ?_⟩
    refine ⟨x, rfl, x, .ty "str", _, _, _, rfl, .ty _, tyD hd, kitS d, _, rfl, ?_⟩
    cases d with
    | none => exact k H (Same.refl H)
    | bool _ => exact k H (Same.refl H)
    | int _ => exact k H (Same.refl H)
    | tuple _ => exact k H (Same.refl H)
    | list _ => exact k H (Same.refl H)
    | dict _ => exact k H (Same.refl H)
    | str z =>
      cases hd
      have hz : z.length ≤ 100000 := by
        rw [nodes] at hn
        omega
      have hk : ofD L lo hi (.str z) = ((decide (lo ≤ (z.length : Int)) && decide ((z.length : Int) ≤ hi)) && z.cps.toList.all (inL L)) := rfl
      rw [hk] at k
      refine ⟨_, rfl, _, rfl, z, rfl, sz_of hz, _, _, rfl, rfl, _, rfl, ite2 (fun h1 => ?_) (fun h1 => ?_)⟩
      rotate_left
      · rw [Bool.eq_false_iff.mpr h1] at k
        exact ⟨_, rfl, k H (Same.refl H)⟩
      · rw [h1, Bool.true_and] at k
        refine ⟨_, rfl, _, _, rfl, rfl, _, rfl, ite2 (fun h2 => ?_) (fun h2 => ?_)⟩
        · rw [not_cases h2] at k
          exact k H (Same.refl H)
        · rw [not_cases' h2, Bool.true_and] at k
          refine ⟨_, rfl, z, rfl, fun D hD => ?_⟩
          refine lc_it walk_str (FInv (inL L) z.cps.toList H D) (fstart hD) (fun _ _ _ _ => True.intro) ?_ ?_
          · rintro i x H1 H2 hi2 p ⟨rfl, c, hc, rfl⟩
            obtain ⟨sm, acc, hD', hl, hiff⟩ := p
            have e1 : z.cps.toList[i]? = some c := by
              rw [Array.getElem?_toList]
              exact hc
            have ht : (z.cps.toList.take (i + 1)).all (inL L) = ((z.cps.toList.take i).all (inL L) && inL L c) := by
              rw [List.take_add_one, e1, List.all_append]
              simp
            refine ⟨rfl, _, rfl, _, rfl, L, rfl, "abc", rfl, by show 3 ≤ sizeLine; decide, c, abcS L, rfl, rfl, _, rfl, ?_⟩
            refine ite2 (fun h3 => ?_) (fun h3 => ?_)
            · have e2 : inL L c = false := not_cases h3
              have hi3 : acc.length ≤ 100000 := by
                have : i < z.length := hi2
                omega
              refine ⟨_, rfl, acc, hD', Nat.lt_of_le_of_lt hi3 (by decide), fun b o q => ?_, _, upd_same, ?_, ?_⟩
              · rw [upd_ne (ne_of_none q hD)]
                exact sm _ _ q
              · rw [List.length_append, List.length_singleton]
                omega
              · rw [ht, e2, Bool.and_false]
                exact ⟨fun z => absurd z (by simp), fun z => absurd z Bool.false_ne_true⟩
            · have e2 : inL L c = true := not_cases' h3
              refine ⟨sm, acc, hD', by omega, ?_⟩
              rw [ht, e2, Bool.and_true]
              exact hiff
          · rintro H1 p
            obtain ⟨sm, acc, hS, he⟩ := fend (K := K) (Array.length_toList).symm p
            refine ⟨by show 0 ≤ sizeLine; decide, fun N hN => ?_⟩
            refine ⟨D, N, acc, rfl, rfl, same_seqL (same_new hN) hS, SqL.of upd_same, ?_⟩
            rw [id, he]
            exact k _ (sm.trans (same_new hN))
end
theorem of_let {L : Int} : ∀ d : PyData, ofD L 1 1 d = letD L d := fun d => by
  cases d with
  | str z =>
    show ((decide ((1 : Int) ≤ (z.length : Int)) && decide ((z.length : Int) ≤ 1)) && z.cps.toList.all (inL L)) = ((decide ((z.length : Int) ≤ 1) && z.cps.toList.all (inL L)) && decide (z.length = 1))
    by_cases h1 : z.length = 1
    · rw [h1]
      simp
    · rw [decide_eq_false h1, Bool.and_false]
      by_cases h2 : (1 : Int) ≤ z.length
      · rw [decide_eq_false (by omega : ¬ ((z.length : Int) ≤ 1)), Bool.and_false]
        rfl
      · rw [decide_eq_false h2]
        rfl
  | _ => rfl
def shpD (L : Int) (d : PyData) : Bool := tupAll L (fun _ => true) d
theorem shp_no {L : Int} {f : PyData → Bool} {d : PyData} (h : shpD L d = false) : tupAll L f d = false := by
  cases d with
  | tuple xs =>
    have e : (decide ((xs.length : Int) = L) && xs.all (fun _ => true)) = false := h
    have e2 : xs.all (fun _ => true) = true := by simp
    rw [e2, Bool.and_true] at e
    show (decide ((xs.length : Int) = L) && xs.all f) = false
    rw [e]
    rfl
  | _ => rfl
theorem shp_yes {L : Int} {d : PyData} (h : shpD L d = true) : ∃ xs, d = .tuple xs ∧ (xs.length : Int) = L := by
  cases d with
  | tuple xs =>
    have e : (decide ((xs.length : Int) = L) && xs.all (fun _ => true)) = true := h
    rw [Bool.and_eq_true] at e
    exact ⟨xs, rfl, of_decide_eq_true e.1⟩
  | _ => cases h
section
variable {P : Program} {w : World} {K : PySem.W.Frag} {mg : Str → Option Value} {base : Heap}
def spRows (K : PySem.W.Frag) : Sp := fun vs H Q _ => ∃ (B : Addr → Prop) (x y : V) (d e : PyData) (L : Int), vs = [.int L, x, y] ∧ Dt B K H x d ∧ Dt B K H y e ∧ nodes d ≤ 100000 ∧ nodes e ≤ 100000 ∧ ∀ H', Same H H' → Q (.bl (turnD L d && putD L (tlen d) e)) H'
theorem scRows : FnScope ["_law_letters", "_law_rows", "_law_outs", "_law_row", "_law_items", "_law_signs", "_law_item", "_law_sign"] ["_law_letters", "_law_rows", "_law_outs"] (defScope sAreRows) := ⟨rfl, rfl, rfl, by decide +kernel, rfl, by decide +kernel, by decide +kernel⟩
theorem ok_rows {f fW fO : Addr} {fd fdW fdO : FuncData} (F : Fun K "_law_are_rows" "_law_are_rows" sAreRows f fd)
    (W : FnOk P w K mg base CX0 1 fW fdW ["_law_value", "_law_least", "_law_most"] (spNum K)) (FW : Fun K "_law_whole" "_law_whole" sWhole fW fdW) (bW : Binds K fdW ["_law_value", "_law_least", "_law_most"] []) (gW : mg "_law_whole" = some (.ref fW))
    (O : FnOk P w K mg base CX0 1 fO fdO ["_law_letters", "_law_value", "_law_least", "_law_most"] (spOf K)) (FO : Fun K "_law_is_of_letters" "_law_is_of_letters" sOfLet fO fdO) (bO : Binds K fdO ["_law_letters", "_law_value", "_law_least", "_law_most"] []) (gO : mg "_law_is_of_letters" = some (.ref fO)) (T : Mg mg) :
    FnOk P w K mg base CX0 2 f fd ["_law_letters", "_law_rows", "_law_outs"] (spRows K) := by
  refine F.ok scRows (fun vs H Q E h => ?_) (fun cdv A outer s H vs Q E hr h => ?_)
  · obtain ⟨B, x, y, d, e, L, rfl, _⟩ := h
    rfl
  · obtain ⟨B, x, y, d, e, L, rfl, hd, he, hn, hm, k⟩ := h
    have hu0 := hr.units0
    refine ⟨_, pss_cons (ps_if (PW.pt (pw_or (pt_not (pt_val (pe_callB (r := rIsi K) call_isi (by rfl) T.isi PyProof.Rows.boot_isinstance (pa_cons (pv 1) (pa_cons (pe_bltn (v := .ty "tuple") (by rfl) T.tuple PyProof.Rows.boot_tuple rfl) pa_nil))))) (pw_or (pt_not (pt_val (pe_callB (r := rIsi K) call_isi (by rfl) T.isi PyProof.Rows.boot_isinstance (pa_cons (pv 2) (pa_cons (pe_bltn (v := .ty "tuple") (by rfl) T.tuple PyProof.Rows.boot_tuple rfl) pa_nil))))) (pw_or (pt_not (pt_chain op_le op_le pe_int (pe_callB (r := rLen K) call_len_seq (by rfl) T.len PySem.boot_len (pa_cons (pv 1) pa_nil)) pe_int)) (pw_or1 (pt_cmpR op_ne (pe_callB (r := rLen K) call_len_seq (by rfl) T.len PySem.boot_len (pa_cons (pv 2) pa_nil)) (pe_callB (r := rLen K) call_len_seq (by rfl) T.len PySem.boot_len (pa_cons (pv 1) pa_nil)) (nomark _))))))) (pss_one (ps_ret pe_bl)) pss_nil)
      (pss_cons (ps_for PassesOwn.never rfl (pi_tup (pe_op op_catS (pv 1) (pv 2))) (pg_name (i := 3) scRows.nd rfl (.inl rfl))
        (pss_one (ps_if (PW.pt (pw_or (pt_not (pt_val (pe_callB (r := rIsi K) call_isi (by rfl) T.isi PyProof.Rows.boot_isinstance (pa_cons (pv 3) (pa_cons (pe_bltn (v := .ty "tuple") (by rfl) T.tuple PyProof.Rows.boot_tuple rfl) pa_nil))))) (pw_or1 (pt_cmpR op_ne (pe_callB (r := rLen K) call_len_seq (by rfl) T.len PySem.boot_len (pa_cons (pv 3) pa_nil)) (pv 0) (nomark _))))) (pss_one (ps_ret pe_bl)) pss_nil)))
      (pss_cons (ps_par (i := 4) (j := 5) rfl scRows.nd rfl rfl (by decide) rfl rfl (pa_cons (pe_lstA pa_nil) (pa_cons (pe_lstA pa_nil) pa_nil)) (by rfl))
      (pss_cons (ps_for PassesOwn.never rfl (pi_tup (pv 1)) (pg_name (i := 3) scRows.nd rfl (.inl rfl)) (pss_one (ps_expr (pe_bm PySem.F.plainAttrs_list PySem.F.slot_list_extend PySem.F.type_list_extend mt_extend (pv 4) (pa_cons (pe_lc (own := [("_law_item", 6)]) (g := gName 6) rfl scRows.nd (pi_tup (pv 3)) (blkOk_by (N := ["_law_letters", "_law_rows", "_law_outs", "_law_row", "_law_items", "_law_signs", "_law_item", "_law_sign"]) (sc := defScope sAreRows) (by decide +kernel)) (fun _ _ _ _ _ => pg_name (i := 6) scRows.nd rfl (Or.inl rfl)) (fun _ _ _ _ _ => pts_one (pt_not (pt_val (pe_call W hr (by rfl) gW FW.kp bW .nil pass0 (pa_cons (pv 6) (pa_cons pe_int (pa_cons (pe_op op_sub (pe_callB (r := rLen K) call_len_seq (by rfl) T.len PySem.boot_len (pa_cons (pv 1) pa_nil)) pe_int) pa_nil))))))) (fun _ _ _ _ _ => pv 6)) pa_nil)))))
      (pss_cons (ps_for PassesOwn.never rfl (pi_tup (pv 2)) (pg_name (i := 3) scRows.nd rfl (.inl rfl)) (pss_one (ps_expr (pe_bm PySem.F.plainAttrs_list PySem.F.slot_list_extend PySem.F.type_list_extend mt_extend (pv 5) (pa_cons (pe_lc (own := [("_law_sign", 7)]) (g := gName 7) rfl scRows.nd (pi_tup (pv 3)) (blkOk_by (N := ["_law_letters", "_law_rows", "_law_outs", "_law_row", "_law_items", "_law_signs", "_law_item", "_law_sign"]) (sc := defScope sAreRows) (by decide +kernel)) (fun _ _ _ _ _ => pg_name (i := 7) scRows.nd rfl (Or.inl rfl)) (fun _ _ _ _ _ => pts_one (pt_not (pt_val (pe_call O hr (by rfl) gO FO.kp bO .nil pass0 (pa_cons (pv 0) (pa_cons (pv 7) (pa_cons pe_int (pa_cons pe_int pa_nil)))))))) (fun _ _ _ _ _ => pv 7)) pa_nil)))))
      (pss_one (ps_ret (pe_and (pe_cmpR (op_eqNilL hu0) (pv 4) (pe_lst pa_nil) (nomark _)) (pe_one (pe_cmpR (op_eqNilL hu0) (pv 5) (pe_lst pa_nil) (nomark _)))))))))), ?_⟩
    refine ⟨_, rfl, x, .ty "tuple", _, _, _, rfl, .ty _, tyD hd, kitT d, _, rfl, ?_⟩
    cases d with
    | none => exact k H (Same.refl H)
    | bool _ => exact k H (Same.refl H)
    | int _ => exact k H (Same.refl H)
    | str _ => exact k H (Same.refl H)
    | list _ => exact k H (Same.refl H)
    | dict _ => exact k H (Same.refl H)
    | tuple ds =>
      obtain ⟨a, xs, rfl, na, hsa, ha, hl⟩ := hd.tup_rd
      refine ⟨_, rfl, y, .ty "tuple", _, _, _, rfl, .ty _, tyD he, kitT e, _, rfl, ?_⟩
      have noE : ∀ e', putD L (tlen (.tuple ds)) e' = false → (turnD L (.tuple ds) && putD L (tlen (.tuple ds)) e') = false := fun e' q => by
        rw [q, Bool.and_false]
      cases e with
      | none =>
        rw [noE _ rfl] at k
        exact k H (Same.refl H)
      | bool _ =>
        rw [noE _ rfl] at k
        exact k H (Same.refl H)
      | int _ =>
        rw [noE _ rfl] at k
        exact k H (Same.refl H)
      | str _ =>
        rw [noE _ rfl] at k
        exact k H (Same.refl H)
      | list _ =>
        rw [noE _ rfl] at k
        exact k H (Same.refl H)
      | dict _ =>
        rw [noE _ rfl] at k
        exact k H (Same.refl H)
      | tuple es =>
        obtain ⟨b, ys, rfl, nb, hsb, hb, hm2⟩ := he.tup_rd
        rw [nodes_tup] at hn hm
        have lds := len_nodes ds
        have les := len_nodes es
        have kk : ∀ (H' : Hp) (c : Bool), Same H H' → (((decide (1 ≤ ds.length) && decide (ds.length ≤ 4)) && rowsD L ds) && tupAll (ds.length : Int) (tupAll L (letD L)) (.tuple es)) = c → Q (.bl c) H' := fun H' c sm q => by
          rw [← q]
          exact k H' sm
        clear k noE
        refine ⟨_, rfl, a, xs, rfl, .inr (.inl hsa), 1, _, rfl, rfl, _, rfl, ite2 (fun h5 => ?_) (fun h5 => ?_)⟩
        rotate_left
        · refine ⟨_, rfl, kk H false (Same.refl H) ?_⟩
          rw [decide_eq_false fun q => h5 (decide_eq_true (by omega))]
          rfl
        · have h5 := of_decide_eq_true h5
          refine ⟨_, 4, rfl, rfl, _, rfl, ite2 (fun h6 => ?_) (fun h6 => ?_)⟩
          · refine kk H false (Same.refl H) ?_
            have : ¬ (ds.length ≤ 4) := fun q => by
              rw [decide_eq_true (by omega : (xs.length : Int) ≤ 4)] at h6
              cases h6
            rw [decide_eq_false this, Bool.and_false]
            rfl
          · have h6 := of_decide_eq_true (not_cases' h6)
            refine ⟨_, rfl, b, ys, rfl, .inr (.inl hsb), _, rfl, a, xs, rfl, .inr (.inl hsa), rfl, _, rfl, ite2 (fun h7 => ?_) (fun h7 => ?_)⟩
            · refine kk H false (Same.refl H) ?_
              rw [tupAll_no (by rw [← hm2, ← hl]; exact ne_int h7), Bool.and_false]
            · have h7 : ys.length = xs.length := by
                have := ne_int' h7
                omega
              have k2 : ∀ (H' : Hp) (c : Bool), Same H H' → (rowsD L ds && es.all (tupAll L (letD L))) = c → Q (.bl c) H' := fun H' c sm q => by
                refine kk H' c sm ?_
                rw [decide_eq_true (by omega : 1 ≤ ds.length), decide_eq_true (by omega : ds.length ≤ 4), tupAll_yes (by omega)]
                exact q
              clear kk
              refine ⟨_, rfl, _, rfl, a, b, xs, ys, rfl, rfl, hsa, hsb, sz_of (by omega), fun q H0 s0 hq wq => ⟨q, rfl, ⟨_, .inl hq⟩, ?_⟩⟩
              refine for_tup (K := K) (a := q) (xs := xs ++ ys) (fun i σ H' => (∃ z3, σ = [some (V.int L), some (V.ref a), some (V.ref b), z3, none, none, none, none]) ∧ Same H0 H' ∧ ((ds ++ es).take i).all (shpD L) = true) ⟨⟨none, rfl⟩, Same.refl H0, rfl⟩ (fun i σ H' _ p => same_seqT p.2.1 (.inl hq)) ?_ ?_
              · rintro i v σ H1 hv ⟨⟨z3, rfl⟩, sm, hall⟩
                have hab := (same_all s0 ha).append (same_all s0 hb)
                obtain ⟨d, hdi, hd1⟩ := hab.getV hv
                have hd2 := same_dt sm hd1
                have bad : shpD L d = false → Q (.bl false) H1 := fun e1 => by
                  refine k2 H1 false (s0.trans sm) ?_
                  rcases List.mem_append.mp (List.mem_of_getElem? hdi) with hmem | hmem
                  · obtain ⟨j, hj⟩ := List.getElem?_of_mem hmem
                    have e2 : rowsD L ds = false := all_no hj (shp_no e1)
                    rw [e2]
                    rfl
                  · obtain ⟨j, hj⟩ := List.getElem?_of_mem hmem
                    rw [all_no hj (shp_no e1), Bool.and_false]
                refine ⟨_, rfl, v, .ty "tuple", _, _, _, rfl, .ty _, tyD hd2, kitT d, _, rfl, ?_⟩
                cases d with
                | none => exact bad rfl
                | bool _ => exact bad rfl
                | int _ => exact bad rfl
                | str _ => exact bad rfl
                | list _ => exact bad rfl
                | dict _ => exact bad rfl
                | tuple us =>
                  obtain ⟨u, ws, rfl, nu, hsu, hau, hlu⟩ := hd2.tup_rd
                  refine ⟨_, rfl, u, ws, rfl, .inr (.inl hsu), _, rfl, rfl, _, rfl, ite2 (fun h8 => ?_) (fun h8 => ?_)⟩
                  · exact bad (tupAll_no (by rw [← hlu]; exact ne_int h8))
                  · refine ⟨⟨_, rfl⟩, sm, all_up hdi ?_ hall⟩
                    have e1 : shpD L (.tuple us) = us.all (fun _ => true) := tupAll_yes (by rw [← hlu]; exact ne_int' h8)
                    rw [e1]
                    simp
              · rintro σ H1 ⟨⟨z3, rfl⟩, sm, hall⟩
                rw [List.take_of_length_le (by rw [List.length_append, List.length_append]; omega), List.all_append, Bool.and_eq_true] at hall
                obtain ⟨shd, she⟩ := hall
                have s1 := s0.trans sm
                refine ⟨by show 0 ≤ sizeLine; decide, fun p1 G1 t1 n1 _ l1 => ⟨by show 0 ≤ sizeLine; decide, fun p2 G2 t2 n2 _ l2 => ⟨_, _, rfl, ?_⟩⟩⟩
                have s2 := s1.trans (t1.trans t2)
                have ne12 : p1 ≠ p2 := ne_of_none l1 n2
                have np1 : H p1 = none := s1.free n1
                have np2 : H p2 = none := (s1.trans t1).free n2
                refine ⟨_, rfl, a, rfl, ⟨xs, .inl (same_rd s2 hsa)⟩, ?_⟩
                refine for_tup (K := K) (a := a) (xs := xs) (fun i σ H' => (∃ z3, σ = [some (V.int L), some (V.ref a), some (V.ref b), z3, some (V.ref p1), some (V.ref p2), none, none]) ∧ Same H H' ∧ H' p2 = some (.lst []) ∧ ∃ acc, H' p1 = some (.lst acc) ∧ acc.length ≤ 100000 * i ∧ (acc = [] ↔ (ds.take i).all (tupAll L fun x => numD x 0 ((ds.length : Int) - 1)) = true)) ⟨⟨_, rfl⟩, s2, l2, [], t2 _ _ l1, Nat.zero_le _, by simp⟩ (fun i σ H' _ p => .inl (same_rd p.2.1 hsa)) ?_ ?_
                · rintro i v σ H3 hv ⟨⟨z3, rfl⟩, sm3, l23, acc, l13, la, hiff⟩
                  obtain ⟨d, hdi, hd1⟩ := ha.getV hv
                  obtain ⟨us, rfl, hus⟩ := shp_yes (List.all_eq_true.mp shd d (List.mem_of_getElem? hdi))
                  obtain ⟨u, ws, rfl, nu, hsu, hau, hlu⟩ := (same_dt sm3 hd1).tup_rd
                  have hi := (List.getElem?_eq_some_iff.mp hdi).1
                  have q1 := len_nodes us
                  have q2 := mem_nodes (List.mem_of_getElem? hdi)
                  rw [nodes_tup] at q2
                  refine ⟨_, rfl, .inl ⟨rfl, _, SqL.of l13⟩, _, rfl, u, rfl, ⟨ws, .inl hsu⟩, fun D hD => ?_⟩
                  refine lc_tup (K := K) (a := u) (xs := ws) (FInv (fun x => numD x 0 ((ds.length : Int) - 1)) us H3 D) (fstart hD) (fun i H' _ p => same_seqT p.1 (.inl hsu)) ?_ ?_
                  · rintro j y H4 hy p
                    obtain ⟨d2, hm3, hd3, c1, c2⟩ := fturn hau (Nat.lt_of_le_of_lt (show _ ≤ 100000 by omega) (by decide)) hD hy p
                    refine ⟨rfl, _, rfl, _, rfl, a, xs, rfl, .inr (.inl (same_rd (sm3.trans p.1) hsa)), _, 1, rfl, rfl, B, y, d2, 0, (ds.length : Int) - 1, (by rw [hl]; rfl), hd3, _, rfl, ite2 (fun h9 => ?_) (fun h9 => ?_)⟩
                    · obtain ⟨acc2, e1, e2, e3⟩ := c2 H4 (Same.refl H4) (not_cases h9)
                      exact ⟨_, rfl, acc2, e1, e2, e3⟩
                    · exact c1 H4 (Same.refl H4) (not_cases' h9)
                  · rintro H4 ⟨sm4, acc2, lD, la2, hiff2⟩
                    rw [hlu, List.take_length] at hiff2
                    have l14 := sm4 _ _ l13
                    have e9 : tupAll L (fun x => numD x 0 ((ds.length : Int) - 1)) (.tuple us) = us.all (fun x => numD x 0 ((ds.length : Int) - 1)) := tupAll_yes hus
                    have la3 : acc2.length ≤ 100000 := by omega
                    refine ⟨p1, D, acc, acc2, rfl, rfl, l14, lD, Nat.le_trans (show _ ≤ 500000 by omega) (by decide), ⟨_, rfl⟩, fun c o z => ?_, ?_, acc ++ acc2, upd_same, ?_, ?_⟩
                    · rw [upd_ne (ne_of_none z np1)]
                      exact sm4 _ _ (sm3 _ _ z)
                    · rw [upd_ne ne12.symm]
                      exact sm4 _ _ l23
                    · rw [List.length_append, Nat.mul_add]
                      omega
                    · rw [List.take_add_one, hdi, List.all_append, Bool.and_eq_true, ← hiff, List.append_eq_nil_iff, hiff2, ← e9]
                      simp
                · rintro σ H3 ⟨⟨z3, rfl⟩, sm3, l23, acc, l13, la, hiff⟩
                  rw [hl, List.take_length] at hiff
                  refine ⟨_, rfl, b, rfl, ⟨ys, .inl (same_rd sm3 hsb)⟩, ?_⟩
                  refine for_tup (K := K) (a := b) (xs := ys) (fun i σ H' => (∃ z3, σ = [some (V.int L), some (V.ref a), some (V.ref b), z3, some (V.ref p1), some (V.ref p2), none, none]) ∧ Same H H' ∧ H' p1 = some (.lst acc) ∧ ∃ acc3, H' p2 = some (.lst acc3) ∧ acc3.length ≤ 100000 * i ∧ (acc3 = [] ↔ (es.take i).all (tupAll L (letD L)) = true)) ⟨⟨_, rfl⟩, sm3, l13, [], l23, Nat.zero_le _, by simp⟩ (fun i σ H' _ p => .inl (same_rd p.2.1 hsb)) ?_ ?_
                  · rintro i v σ H5 hv ⟨⟨z3, rfl⟩, sm5, l15, acc3, l25, la5, hiff5⟩
                    obtain ⟨d, hdi, hd1⟩ := hb.getV hv
                    obtain ⟨us, rfl, hus⟩ := shp_yes (List.all_eq_true.mp she d (List.mem_of_getElem? hdi))
                    obtain ⟨u, ws, rfl, nu, hsu, hau, hlu⟩ := (same_dt sm5 hd1).tup_rd
                    have hi := (List.getElem?_eq_some_iff.mp hdi).1
                    have q1 := len_nodes us
                    have q2 := mem_nodes (List.mem_of_getElem? hdi)
                    rw [nodes_tup] at q2
                    refine ⟨_, rfl, .inl ⟨rfl, _, SqL.of l25⟩, _, rfl, u, rfl, ⟨ws, .inl hsu⟩, fun D hD => ?_⟩
                    refine lc_tup (K := K) (a := u) (xs := ws) (FInv (letD L) us H5 D) (fstart hD) (fun i H' _ p => same_seqT p.1 (.inl hsu)) ?_ ?_
                    · rintro j y H4 hy p
                      obtain ⟨d2, hm3, hd3, c1, c2⟩ := fturn hau (Nat.lt_of_le_of_lt (show _ ≤ 100000 by omega) (by decide)) hD hy p
                      have q3 := mem_nodes hm3
                      refine ⟨rfl, _, rfl, _, rfl, B, y, d2, L, 1, 1, rfl, hd3, by omega, fun H6 s6 => ⟨_, rfl, ite2 (fun h9 => ?_) (fun h9 => ?_)⟩⟩
                      · rw [of_let] at h9
                        obtain ⟨acc2, e1, e2, e3⟩ := c2 H6 s6 (not_cases h9)
                        exact ⟨_, rfl, acc2, e1, e2, e3⟩
                      · rw [of_let] at h9
                        exact c1 H6 s6 (not_cases' h9)
                    · rintro H4 ⟨sm4, acc2, lD, la2, hiff2⟩
                      rw [hlu, List.take_length] at hiff2
                      have l24 := sm4 _ _ l25
                      have e9 : tupAll L (letD L) (.tuple us) = us.all (letD L) := tupAll_yes hus
                      have la3 : acc2.length ≤ 100000 := by omega
                      have hes : es.length ≤ 4 := by omega
                      refine ⟨p2, D, acc3, acc2, rfl, rfl, l24, lD, Nat.le_trans (show _ ≤ 500000 by omega) (by decide), ⟨_, rfl⟩, fun c o z => ?_, ?_, acc3 ++ acc2, upd_same, ?_, ?_⟩
                      · rw [upd_ne (ne_of_none z np2)]
                        exact sm4 _ _ (sm5 _ _ z)
                      · rw [upd_ne ne12]
                        exact sm4 _ _ l15
                      · rw [List.length_append, Nat.mul_add]
                        omega
                      · rw [List.take_add_one, hdi, List.all_append, Bool.and_eq_true, ← hiff5, List.append_eq_nil_iff, hiff2, ← e9]
                        simp
                  · rintro σ H5 ⟨⟨z3, rfl⟩, sm5, l15, acc3, l25, la5, hiff5⟩
                    rw [hm2, List.take_length] at hiff5
                    have f1 : decide (acc = []) = rowsD L ds := by
                      cases z : rowsD L ds
                      · refine decide_eq_false fun e => ?_
                        have : rowsD L ds = true := hiff.mp e
                        rw [z] at this
                        cases this
                      · exact decide_eq_true (hiff.mpr z)
                    have f2 : decide (acc3 = []) = es.all (tupAll L (letD L)) := by
                      cases z : es.all (tupAll L (letD L))
                      · refine decide_eq_false fun e => ?_
                        rw [hiff5.mp e] at z
                        cases z
                      · exact decide_eq_true (hiff5.mpr z)
                    refine ⟨_, rfl, by show 0 ≤ sizeLine; decide, fun N hN => ⟨p1, N, acc, rfl, rfl, SqL.of ((same_new hN) _ _ l15), SqL.of upd_same, _, rfl, ?_⟩⟩
                    rw [id, f1]
                    refine ite2 (fun g1 => ?_) (fun g1 => ?_)
                    · refine ⟨_, rfl, by show 0 ≤ sizeLine; decide, fun N2 hN2 => ⟨p2, N2, acc3, rfl, rfl, SqL.of ((same_new hN2) _ _ ((same_new hN) _ _ l25)), SqL.of upd_same, ?_⟩⟩
                      rw [id, f2]
                      refine k2 _ _ (sm5.trans ((same_new hN).trans (same_new hN2))) ?_
                      rw [g1]
                      rfl
                    · refine k2 _ _ (sm5.trans (same_new hN)) ?_
                      rw [Bool.eq_false_iff.mpr g1]
                      rfl
end
def pairE (L : Int) (p : PyData) : Bool := match p with
  | .tuple [x, y] => (ofD L 1 2 x && ofD L 1 2 y) && decide (slen x = slen y)
  | _ => false
def pairsE (L : Int) (d : PyData) : Bool := match d with
  | .tuple ps => ((decide (1 ≤ ps.length) && decide (ps.length ≤ 4)) && ps.all (pairE L)) && nodupS (ps.flatMap pcs)
  | _ => false
theorem of_word {L : Int} {d : PyData} : ofD L 1 2 d = (wordD L 2 d && decide (1 ≤ slen d)) := by
  cases d with
  | str z =>
    show ((decide ((1 : Int) ≤ (z.length : Int)) && decide ((z.length : Int) ≤ 2)) && z.cps.toList.all (inL L)) = ((decide ((z.length : Int) ≤ 2) && z.cps.toList.all (inL L)) && decide (1 ≤ z.length))
    by_cases h : 1 ≤ z.length
    · rw [decide_eq_true h, decide_eq_true (by omega : (1 : Int) ≤ z.length)]
      simp
    · rw [decide_eq_false h, decide_eq_false (by omega : ¬ ((1 : Int) ≤ z.length))]
      simp
  | _ => rfl
theorem pair_of {L : Int} {p : PyData} (h : pairE L p = true) : pairD L p = true := by
  unfold pairE at h
  split at h
  · rw [of_word, of_word, Bool.and_eq_true, Bool.and_eq_true, Bool.and_eq_true, Bool.and_eq_true] at h
    obtain ⟨⟨⟨h1, _⟩, ⟨h2, _⟩⟩, h3⟩ := h
    show ((wordD L 2 _ && wordD L 2 _) && decide _) = true
    rw [h1, h2, h3]
    rfl
  · cases h
theorem pair_emp {L : Int} {p : PyData} (h : pairD L p = true) (h2 : pairE L p = false) : ∃ z, pcs p = [z, z] := by
  unfold pairD at h
  split at h
  · rename_i x y
    rw [Bool.and_eq_true, Bool.and_eq_true] at h
    obtain ⟨⟨h1, h3⟩, h4⟩ := h
    have h4 := of_decide_eq_true h4
    have e : pairE L (.tuple [x, y]) = ((ofD L 1 2 x && ofD L 1 2 y) && decide (slen x = slen y)) := rfl
    rw [e, of_word, of_word, h1, h3, decide_eq_true h4, Bool.true_and, Bool.true_and, Bool.and_true] at h2
    cases x with
    | str zx =>
      cases y with
      | str zy =>
        have h5 : zx.length = zy.length := h4
        have h6 : zx.length = 0 := by
          cases Nat.eq_zero_or_pos zx.length with
          | inl q => exact q
          | inr q =>
            have q1 : decide (1 ≤ slen (.str zx)) = true := decide_eq_true q
            have q2 : decide (1 ≤ slen (.str zy)) = true := decide_eq_true (by show 1 ≤ zy.length; omega)
            rw [q1, q2] at h2
            cases h2
        have e1 : zx = zy := by
          have a1 : zx.cps = #[] := Array.eq_empty_of_size_eq_zero h6
          have a2 : zy.cps = #[] := Array.eq_empty_of_size_eq_zero (by show zy.length = 0; omega)
          cases zx
          cases zy
          simp only at a1 a2
          rw [a1, a2]
        exact ⟨zx, by rw [← e1]; rfl⟩
      | _ => cases h3
    | _ => cases h1
  · cases h
theorem dd_twice (l1 l2 : List Str) (z : Str) : nodupS (l1 ++ ([z, z] ++ l2)) = false := by
  have h : ∀ (ys acc : List Str), (ys.foldl stp acc).length ≤ acc.length + ys.length := fun ys => by
    induction ys with
    | nil => exact fun acc => Nat.le_refl _
    | cons y ys ih =>
      intro acc
      have := ih (stp acc y)
      have e := stp_len acc y
      rw [List.foldl_cons, List.length_cons]
      split at e <;> omega
  have e1 : dd (l1 ++ ([z, z] ++ l2)) = l2.foldl stp (stp (stp (dd l1) z) z) := by
    unfold dd
    rw [List.foldl_append, List.foldl_append]
    rfl
  have e2 : stp (stp (dd l1) z) z = stp (dd l1) z := by
    have q : (stp (dd l1) z).any (· == z) = true := by
      rw [stp_any, decide_eq_true rfl, Bool.or_true]
    unfold stp at q ⊢
    rw [if_pos q]
  have e3 := h l2 (stp (dd l1) z)
  have e4 := stp_len (dd l1) z
  have e5 := dd_le l1
  unfold nodupS
  refine decide_eq_false fun q => ?_
  rw [e1, e2, List.length_append, List.length_append] at q
  have : ([z, z] : List Str).length = 2 := rfl
  split at e4 <;> omega
theorem swap_pairs {L : Int} {d : PyData} : swapD L d = pairsE L d := by
  cases d with
  | tuple ps =>
    show (((decide (1 ≤ ps.length) && decide (ps.length ≤ 4)) && ps.all (pairD L)) && nodupS (ps.flatMap pcs)) = (((decide (1 ≤ ps.length) && decide (ps.length ≤ 4)) && ps.all (pairE L)) && nodupS (ps.flatMap pcs))
    cases hE : ps.all (pairE L) with
    | true =>
      have : ps.all (pairD L) = true := List.all_eq_true.mpr fun p hp => pair_of (List.all_eq_true.mp hE p hp)
      rw [this]
    | false =>
      cases hD : ps.all (pairD L) with
      | false => rfl
      | true =>
        obtain ⟨p, hp, hne⟩ : ∃ p ∈ ps, pairE L p = false := by
          rw [List.all_eq_false] at hE
          obtain ⟨p, hp, hq⟩ := hE
          exact ⟨p, hp, by simpa using hq⟩
        obtain ⟨z, ez⟩ := pair_emp (List.all_eq_true.mp hD p hp) hne
        obtain ⟨s, t, rfl⟩ := List.append_of_mem hp
        have : nodupS ((s ++ p :: t).flatMap pcs) = false := by
          rw [List.flatMap_append, List.flatMap_cons, ez]
          exact dd_twice _ _ _
        rw [this, Bool.and_false, Bool.and_false]
  | _ => rfl
section
variable {P : Program} {w : World} {K : PySem.W.Frag} {mg : Str → Option Value} {base : Heap}
theorem scPairs : FnScope ["_law_letters", "_law_value", "_law_pieces", "_law_pair", "_law_piece"] ["_law_letters", "_law_value"] (defScope sArePairs) := ⟨rfl, rfl, rfl, by decide +kernel, rfl, by decide +kernel, by decide +kernel⟩
def spPairs (K : PySem.W.Frag) : Sp := fun vs H Q _ => ∃ (B : Addr → Prop) (x : V) (d : PyData) (L : Int), vs = [.int L, x] ∧ Dt B K H x d ∧ nodes d ≤ 100000 ∧ ∀ H', Same H H' → Q (.bl (swapD L d)) H'
theorem ok_pairs {f fN : Addr} {fd fdN : FuncData} (F : Fun K "_law_are_pairs" "_law_are_pairs" sArePairs f fd) (N : FnOk P w K mg base CX0 1 fN fdN ["_law_letters", "_law_value", "_law_least", "_law_most"] (spOf K)) (FN : Fun K "_law_is_of_letters" "_law_is_of_letters" sOfLet fN fdN) (bN : Binds K fdN ["_law_letters", "_law_value", "_law_least", "_law_most"] []) (gN : mg "_law_is_of_letters" = some (.ref fN)) (T : Mg mg) :
    FnOk P w K mg base CX0 2 f fd ["_law_letters", "_law_value"] (spPairs K) := by
  refine F.ok scPairs (fun vs H Q E h => ?_) (fun cdv A outer s H vs Q E hr h => ?_)
  · obtain ⟨B, x, d, L, rfl, _⟩ := h
    rfl
  · obtain ⟨B, x, d, L, rfl, hd, hn, k0⟩ := h
    have k : ∀ H', Same H H' → Q (.bl (pairsE L d)) H' := fun H' sm => by
      rw [← swap_pairs]
      exact k0 H' sm
    clear k0
    have hu0 := hr.units0
    refine ⟨_, pss_cons (ps_if (PW.pt (pw_or (pt_not (pt_val (pe_callB call_isi (by rfl) T.isi PyProof.Rows.boot_isinstance (pa_cons (pv 1) (pa_cons (pe_bltn (v := .ty "tuple") (by rfl) T.tuple PyProof.Rows.boot_tuple rfl) pa_nil)))))
        (pw_or1 (pt_not (pt_chain op_le op_le pe_int (pe_callB call_len_seq (by rfl) T.len PySem.boot_len (pa_cons (pv 1) pa_nil)) pe_int))))) (pss_one (ps_ret pe_bl)) pss_nil)
      (pss_cons (ps_set (i := 2) scPairs.nd rfl (.inl rfl) (pe_lstA pa_nil))
      (pss_cons (ps_for PassesOwn.never rfl (pi_tup (pv 1)) (pg_name (i := 3) scPairs.nd rfl (.inl rfl))
        (pss_cons (ps_if (PW.pt (pw_or (pt_not (pt_val (pe_callB call_isi (by rfl) T.isi PyProof.Rows.boot_isinstance (pa_cons (pv 3) (pa_cons (pe_bltn (v := .ty "tuple") (by rfl) T.tuple PyProof.Rows.boot_tuple rfl) pa_nil)))))
          (pw_or1 (pt_cmpR op_ne (pe_callB call_len_seq (by rfl) T.len PySem.boot_len (pa_cons (pv 3) pa_nil)) pe_int (nomark _))))) (pss_one (ps_ret pe_bl)) pss_nil)
        (pss_cons (ps_if (PW.pt (pw_or (pt_cmpR (op_neNilL hu0) (pe_lc (own := [("_law_piece", 4)]) (g := gName 4) rfl scPairs.nd (pi_tup (pv 3)) (blkOk_by (N := ["_law_letters", "_law_value", "_law_pieces", "_law_pair", "_law_piece"]) (sc := defScope sArePairs) (by decide +kernel)) (fun _ _ _ _ _ => pg_name (i := 4) scPairs.nd rfl (Or.inl rfl)) (fun _ _ _ _ _ => pts_one (pt_not (pt_val (pe_call N hr (by rfl) gN FN.kp bN .nil pass0 (pa_cons (pv 0) (pa_cons (pv 4) (pa_cons pe_int (pa_cons pe_int pa_nil)))))))) (fun _ _ _ _ _ => pv 4)) (pe_lst pa_nil) (nomark _))
          (pw_or1 (pt_cmpR op_ne (pe_callB call_len_str (by rfl) T.len PySem.boot_len (pa_cons (pe_ix ix_tup (pv 3) pe_int (fun _ _ => rfl)) pa_nil)) (pe_callB call_len_str (by rfl) T.len PySem.boot_len (pa_cons (pe_ix ix_tup (pv 3) pe_int (fun _ _ => rfl)) pa_nil)) (nomark _))))) (pss_one (ps_ret pe_bl)) pss_nil)
        (pss_one (ps_expr (pe_bm PySem.F.plainAttrs_list PySem.F.slot_list_extend PySem.F.type_list_extend mt_extT (pv 2) (pa_cons (pv 3) pa_nil)))))))
      (pss_one (ps_ret (pe_cmpR op_eq (pe_callB call_len_seq (by rfl) T.len PySem.boot_len (pa_cons (pv 2) pa_nil)) (pe_lenSetT rfl (by rfl) T.len (by rfl) T.set (pv 2)) (nomark _)))))), ?_⟩
    refine ⟨_, rfl, x, .ty "tuple", _, _, _, rfl, .ty _, tyD hd, kitT d, _, rfl, ?_⟩
    cases d with
    | none => exact k H (Same.refl H)
    | bool _ => exact k H (Same.refl H)
    | int _ => exact k H (Same.refl H)
    | str _ => exact k H (Same.refl H)
    | list _ => exact k H (Same.refl H)
    | dict _ => exact k H (Same.refl H)
    | tuple ds =>
      obtain ⟨a, xs, rfl, nb, hs, ha, hl⟩ := hd.tup_ref
      have hk : pairsE L (.tuple ds) = (((decide (1 ≤ ds.length) && decide (ds.length ≤ 4)) && ds.all (pairE L)) && nodupS (ds.flatMap pcs)) := rfl
      rw [hk] at k
      rw [nodes_tup] at hn
      refine ⟨.ref a, rfl, a, xs, rfl, .inr hs, 1, _, rfl, rfl, _, rfl, ite2 (fun h5 => ?_) (fun h5 => ?_)⟩
      rotate_left
      · have e : decide (1 ≤ ds.length) = false := decide_eq_false fun q => h5 (decide_eq_true (by omega))
        rw [e] at k
        exact ⟨_, rfl, k H (Same.refl H)⟩
      · have h5 := of_decide_eq_true h5
        rw [decide_eq_true (by omega : 1 ≤ ds.length), Bool.true_and] at k
        refine ⟨_, 4, rfl, rfl, _, rfl, ite2 (fun h6 => ?_) (fun h6 => ?_)⟩
        · have e : decide (ds.length ≤ 4) = false := decide_eq_false fun q => by
            rw [decide_eq_true (by omega : (xs.length : Int) ≤ 4)] at h6
            cases h6
          rw [e] at k
          exact k H (Same.refl H)
        · have h7 : (xs.length : Int) ≤ 4 := by
            cases z : decide ((xs.length : Int) ≤ 4)
            · rw [z] at h6
              exact absurd rfl h6
            · exact of_decide_eq_true z
          rw [decide_eq_true (by omega : ds.length ≤ 4), Bool.true_and] at k
          refine ⟨by show 0 ≤ sizeLine; decide, fun p G s0 np _ lp => ⟨_, rfl, a, rfl, ⟨xs, same_seqT s0 hs⟩, ?_⟩⟩
          refine for_tup (K := K) (a := a) (xs := xs) (fun i σ H' => (∃ z3, σ = [some (V.int L), some (V.ref a), some (V.ref p), z3, none]) ∧ Same H H' ∧ (ds.take i).all (pairE L) = true ∧ H' p = some (.lst (((ds.take i).flatMap pcs).map V.str)) ∧ ((ds.take i).flatMap pcs).length = 2 * i) ⟨⟨none, rfl⟩, s0, rfl, lp, rfl⟩ (fun i σ H' _ q => same_seqT q.2.1 hs) ?_ ?_
          · rintro i y σ H1 hy ⟨⟨z3, rfl⟩, sm, hall, lp1, hlen⟩
            obtain ⟨d, hdi, hd1⟩ := ha.getV hy
            have hd2 := same_dt sm hd1
            have hi := (List.getElem?_eq_some_iff.mp hdi).1
            have bad : ∀ H2, Same H1 H2 → pairE L d = false → Q (.bl false) H2 := fun H2 s2 e => by
              rw [all_no hdi e] at k
              exact k H2 (sm.trans s2)
            refine ⟨y, rfl, y, .ty "tuple", _, _, _, rfl, .ty _, tyD hd2, kitT d, _, rfl, ?_⟩
            cases d with
            | none => exact bad H1 (Same.refl H1) rfl
            | bool _ => exact bad H1 (Same.refl H1) rfl
            | int _ => exact bad H1 (Same.refl H1) rfl
            | str _ => exact bad H1 (Same.refl H1) rfl
            | list _ => exact bad H1 (Same.refl H1) rfl
            | dict _ => exact bad H1 (Same.refl H1) rfl
            | tuple es =>
              obtain ⟨b, ys, rfl, nb2, hs2, ha2, hl2⟩ := hd2.tup_ref
              have hes : nodesAll es ≤ 100000 := by
                have q2 := mem_nodes (List.mem_of_getElem? hdi)
                rw [nodes_tup] at q2
                omega
              refine ⟨.ref b, rfl, b, ys, rfl, .inr hs2, rfl, _, rfl, ite2 (fun h1 => ?_) (fun h1 => ?_)⟩
              · have h2 : ¬ ((es.length : Int) = 2) := by
                  rw [← hl2]
                  exact ne_int h1
                refine bad H1 (Same.refl H1) ?_
                match es, h2 with
                | [], _ => rfl
                | [_], _ => rfl
                | [_, _], h2 => exact absurd rfl h2
                | _ :: _ :: _ :: _, _ => rfl
              · have h2 : (es.length : Int) = 2 := by
                  rw [← hl2]
                  exact ne_int' h1
                obtain ⟨dx, dy, rfl⟩ : ∃ dx dy, es = [dx, dy] := by
                  match es, h2 with
                  | [dx, dy], _ => exact ⟨dx, dy, rfl⟩
                obtain ⟨vx, vy, rfl, hdx, hdy⟩ : ∃ vx vy, ys = [vx, vy] ∧ Dt B K H1 vx dx ∧ Dt B K H1 vy dy := by
                  cases ha2 with
                  | cons g1 g =>
                    cases g with
                    | cons g2 g =>
                      cases g
                      exact ⟨_, _, rfl, g1, g2⟩
                refine ⟨.ref b, rfl, b, rfl, ⟨_, hs2⟩, fun D hD => ?_⟩
                refine lc_tup (K := K) (a := b) (xs := [vx, vy]) (FInv (ofD L 1 2) [dx, dy] H1 D) (fstart hD) (fun i H' _ q => same_seqT q.1 hs2) ?_ ?_
                · rintro i2 y2 H' hy2 pB
                  obtain ⟨d2, hm, hd3, c1, c2⟩ := fturn ha2 (by show 2 < sizeLine; decide) hD hy2 pB
                  refine ⟨rfl, _, rfl, _, rfl, B, y2, d2, L, 1, 2, rfl, hd3, by have := mem_nodes hm; omega, fun H3 s3 => ⟨_, rfl, ite2 (fun h9 => ?_) (fun h9 => ?_)⟩⟩
                  · obtain ⟨acc2, e1, e2, e3⟩ := c2 H3 s3 (not_cases h9)
                    exact ⟨_, rfl, acc2, e1, e2, e3⟩
                  · exact c1 H3 s3 (not_cases' h9)
                · rintro H0 pB
                  obtain ⟨sm0, acc, hS, he⟩ := fend (K := K) hl2 pB
                  refine ⟨by show 0 ≤ sizeLine; decide, fun N0 hN0 => ⟨D, N0, acc, rfl, rfl, same_seqL (same_new hN0) hS, SqL.of upd_same, _, rfl, ?_⟩⟩
                  have sm2 : Same H1 (upd H0 N0 (.lst [])) := sm0.trans (same_new hN0)
                  generalize upd H0 N0 (.lst []) = H' at *
                  rw [he]
                  have e3 : [dx, dy].all (ofD L 1 2) = (ofD L 1 2 dx && ofD L 1 2 dy) := by simp
                  have e4 : pairE L (.tuple [dx, dy]) = ((ofD L 1 2 dx && ofD L 1 2 dy) && decide (slen dx = slen dy)) := rfl
                  rw [e3]
                  refine ite2 (fun h3 => ?_) (fun h3 => ?_)
                  · refine bad H' sm2 ?_
                    rw [e4, not_cases h3]
                    rfl
                  · have h4 := not_cases' h3
                    rw [h4, Bool.true_and] at e4
                    rw [Bool.and_eq_true] at h4
                    obtain ⟨zx, rfl⟩ : ∃ z, dx = .str z := by
                      cases dx with
                      | str z => exact ⟨z, rfl⟩
                      | _ => exact absurd h4.1 Bool.false_ne_true
                    obtain ⟨zy, rfl⟩ : ∃ z, dy = .str z := by
                      cases dy with
                      | str z => exact ⟨z, rfl⟩
                      | _ => exact absurd h4.2 Bool.false_ne_true
                    cases hdx
                    cases hdy
                    rw [nodesAll_cons, nodesAll_cons, nodesAll_nil, nodes, nodes] at hes
                    have hs3 := same_seqT sm2 hs2
                    refine ⟨_, rfl, b, _, 0, .str zx, rfl, rfl, hs3, atI_nat (j := 0) rfl, zx, rfl, sz_of (by omega), _, rfl, b, _, 1, .str zy, rfl, rfl, hs3, atI_nat (j := 1) rfl, zy, rfl, sz_of (by omega), rfl, _, rfl, ite2 (fun h5 => ?_) (fun h5 => ?_)⟩
                    · refine bad H' sm2 ?_
                      rw [e4]
                      exact decide_eq_false fun q => ne_int h5 (by show (zx.length : Int) = zy.length; exact congrArg Int.ofNat q)
                    · have e5 : pairE L (.tuple [.str zx, .str zy]) = true := by
                        rw [e4]
                        have := ne_int' h5
                        exact decide_eq_true (by show zx.length = zy.length; omega)
                      have e6 : (ds.take (i + 1)).flatMap pcs = (ds.take i).flatMap pcs ++ [zx, zy] := by
                        rw [List.take_add_one, hdi]
                        simp [pcs]
                      have lp2 := sm2 _ _ lp1
                      refine ⟨_, rfl, .inl ⟨rfl, _, SqL.of lp2⟩, _, rfl, p, b, _, _, rfl, rfl, lp2, hs3, ?_, ⟨_, rfl⟩, ?_, all_up hdi e5 hall, ?_, ?_⟩
                      · rw [List.length_map, hlen]
                        exact sz_of (by show 2 * i + 2 ≤ 100000; omega)
                      · intro q o e
                        rw [upd_ne (ne_of_none e np)]
                        exact sm2 _ _ (sm _ _ e)
                      · rw [upd_same, e6, List.map_append]
                        rfl
                      · rw [e6, List.length_append, hlen]
                        show 2 * i + 2 = 2 * (i + 1)
                        omega
          · rintro σ H1 ⟨⟨z3, rfl⟩, sm, hall, lp1, hlen⟩
            rw [hl] at hlen lp1 hall
            rw [List.take_length] at hall lp1 hlen
            rw [hall, Bool.true_and] at k
            refine ⟨_, rfl, p, _, rfl, .inl (SqL.of lp1), _, rfl, p, _, rfl, SqL.of lp1, by omega, rfl, ?_⟩
            have e7 : decide (V.int (((ds.flatMap pcs).map V.str).length : Int) = V.int ((dd (ds.flatMap pcs)).length : Int)) = nodupS (ds.flatMap pcs) := by
              unfold nodupS
              rw [List.length_map]
              by_cases q : (dd (ds.flatMap pcs)).length = (ds.flatMap pcs).length
              · rw [decide_eq_true q, decide_eq_true (by rw [q])]
              · rw [decide_eq_false q, decide_eq_false fun z => q (by have := V.int.inj z; omega)]
            rw [e7]
            exact k H1 sm
end
section
variable {P : Program} {w : World} {K : PySem.W.Frag} {mg : Str → Option Value} {base : Heap}
def spIsS (K : PySem.W.Frag) : Sp := fun vs H Q _ => ∃ (B : Addr → Prop) (x : V) (d : PyData) (L : Int), vs = [.int L, x] ∧ Dt B K H x d ∧ nodes d ≤ 100000 ∧ ∀ H', Same H H' → Q (.bl (stepD L d)) H'
theorem scIsS : FnScope ["_law_letters", "_law_value", "_law_item"] ["_law_letters", "_law_value"] (defScope sIsStep) := ⟨rfl, rfl, rfl, by decide +kernel, rfl, by decide +kernel, by decide +kernel⟩
theorem ok_isS {f fW fO fR fZ : Addr} {fd fdW fdO fdR fdZ : FuncData} (F : Fun K "_law_is_step" "_law_is_step" sIsStep f fd)
    (W : FnOk P w K mg base CX0 1 fW fdW ["_law_value", "_law_least", "_law_most"] (spNum K)) (FW : Fun K "_law_whole" "_law_whole" sWhole fW fdW) (bW : Binds K fdW ["_law_value", "_law_least", "_law_most"] []) (gW : mg "_law_whole" = some (.ref fW))
    (O : FnOk P w K mg base CX0 1 fO fdO ["_law_letters", "_law_value", "_law_least", "_law_most"] (spOf K)) (FO : Fun K "_law_is_of_letters" "_law_is_of_letters" sOfLet fO fdO) (bO : Binds K fdO ["_law_letters", "_law_value", "_law_least", "_law_most"] []) (gO : mg "_law_is_of_letters" = some (.ref fO))
    (R : FnOk P w K mg base CX0 2 fR fdR ["_law_letters", "_law_rows", "_law_outs"] (spRows K)) (FR : Fun K "_law_are_rows" "_law_are_rows" sAreRows fR fdR) (bR : Binds K fdR ["_law_letters", "_law_rows", "_law_outs"] []) (gR : mg "_law_are_rows" = some (.ref fR))
    (Z : FnOk P w K mg base CX0 2 fZ fdZ ["_law_letters", "_law_value"] (spPairs K)) (FZ : Fun K "_law_are_pairs" "_law_are_pairs" sArePairs fZ fdZ) (bZ : Binds K fdZ ["_law_letters", "_law_value"] []) (gZ : mg "_law_are_pairs" = some (.ref fZ)) (T : Mg mg) :
    FnOk P w K mg base CX0 3 f fd ["_law_letters", "_law_value"] (spIsS K) := by
  refine F.ok scIsS (fun vs H Q E h => ?_) (fun cdv A outer s H vs Q E hr h => ?_)
  · obtain ⟨B, x, d, L, rfl, _⟩ := h
    rfl
  · obtain ⟨B, x, d, L, rfl, hd, hn, k⟩ := h
    have hu0 := hr.units0
    refine ⟨_, pss_cons (ps_if (PW.pt (pw_or (pt_not (pt_val (pe_callB (r := rIsi K) call_isi (by rfl) T.isi PyProof.Rows.boot_isinstance (pa_cons (pv 1) (pa_cons (pe_bltn (v := .ty "tuple") (by rfl) T.tuple PyProof.Rows.boot_tuple rfl) pa_nil))))) (pw_or (pt_cmpR op_lt (pe_callB (r := rLen K) call_len_seq (by rfl) T.len PySem.boot_len (pa_cons (pv 1) pa_nil)) pe_int (nomark _)) (pw_or1 (pt_not (pt_val (pe_callB (r := rIsi K) call_isi (by rfl) T.isi PyProof.Rows.boot_isinstance (pa_cons (pe_ix (r := rIxT K) ix_tup (pv 1) pe_int (fun _ _ => rfl)) (pa_cons (pe_bltn (v := .ty "str") (by rfl) T.str (by decide +kernel) rfl) pa_nil))))))))) (pss_one (ps_ret pe_bl)) pss_nil)
      (pss_cons (ps_if (pt_cmpR (op_eqStr hu0) (pe_ix (r := rIxT K) ix_tup (pv 1) pe_int (fun _ _ => rfl)) pe_str (nomark _)) (pss_cons (ps_if (PW.pt (pw_or (pt_cmpR op_ne (pe_callB (r := rLen K) call_len_seq (by rfl) T.len PySem.boot_len (pa_cons (pv 1) pa_nil)) pe_int (nomark _)) (pw_or (pt_not (pt_val (pe_callB (r := rIsi K) call_isi (by rfl) T.isi PyProof.Rows.boot_isinstance (pa_cons (pe_ix (r := rIxT K) ix_tup (pv 1) pe_int (fun _ _ => rfl)) (pa_cons (pe_bltn (v := .ty "tuple") (by rfl) T.tuple PyProof.Rows.boot_tuple rfl) pa_nil))))) (pw_or (pt_cmpR op_ne (pe_callB (r := rLen K) call_len_seq (by rfl) T.len PySem.boot_len (pa_cons (pe_ix (r := rIxT K) ix_tup (pv 1) pe_int (fun _ _ => rfl)) pa_nil)) (pv 0) (nomark _)) (pw_or1 (pt_not (pt_val (pe_call W (hr.mono (by decide)) (by rfl) gW FW.kp bW .nil pass0 (pa_cons (pe_ix (r := rIxT K) ix_tup (pv 1) pe_int (fun _ _ => rfl)) (pa_cons pe_int (pa_cons pe_int pa_nil))))))))))) (pss_one (ps_ret pe_bl)) pss_nil)
        (pss_one (ps_ret (pe_cmpR (op_eqNilL hu0) (pe_lc (own := [("_law_item", 2)]) (g := gName 2) rfl scIsS.nd (pi_tup (pe_ix (r := rIxT K) ix_tup (pv 1) pe_int (fun _ _ => rfl))) (blkOk_by (N := ["_law_letters", "_law_value", "_law_item"]) (sc := defScope sIsStep) (by decide +kernel)) (fun _ _ _ _ _ => pg_name (i := 2) scIsS.nd rfl (Or.inl rfl)) (fun _ _ _ _ _ => pts_one (pt_not (pt_val (pe_call W (hr.mono (by decide)) (by rfl) gW FW.kp bW .nil pass0 (pa_cons (pv 2) (pa_cons pe_int (pa_cons pe_int pa_nil))))))) (fun _ _ _ _ _ => pv 2)) (pe_lst pa_nil) (nomark _))))) pss_nil)
      (pss_cons (ps_if (pt_cmpR (op_eqStr hu0) (pe_ix (r := rIxT K) ix_tup (pv 1) pe_int (fun _ _ => rfl)) pe_str (nomark _)) (pss_one (ps_ret (pe_and (pe_cmpR op_eq (pe_callB (r := rLen K) call_len_seq (by rfl) T.len PySem.boot_len (pa_cons (pv 1) pa_nil)) pe_int (nomark _)) (pe_one (pe_call O (hr.mono (by decide)) (by rfl) gO FO.kp bO .nil pass0 (pa_cons (pv 0) (pa_cons (pe_ix (r := rIxT K) ix_tup (pv 1) pe_int (fun _ _ => rfl)) (pa_cons pe_int (pa_cons pe_int pa_nil))))))))) pss_nil)
      (pss_cons (ps_if (pt_cmpR (op_eqStr hu0) (pe_ix (r := rIxT K) ix_tup (pv 1) pe_int (fun _ _ => rfl)) pe_str (nomark _)) (pss_one (ps_ret (pe_and (pe_cmpR op_eq (pe_callB (r := rLen K) call_len_seq (by rfl) T.len PySem.boot_len (pa_cons (pv 1) pa_nil)) pe_int (nomark _)) (pe_one (pe_call R (hr.mono (by decide)) (by rfl) gR FR.kp bR .nil pass0 (pa_cons (pv 0) (pa_cons (pe_ix (r := rIxT K) ix_tup (pv 1) pe_int (fun _ _ => rfl)) (pa_cons (pe_ix (r := rIxT K) ix_tup (pv 1) pe_int (fun _ _ => rfl)) pa_nil)))))))) pss_nil)
      (pss_one (ps_ret (pe_and (pe_cmpR (op_eqStr hu0) (pe_ix (r := rIxT K) ix_tup (pv 1) pe_int (fun _ _ => rfl)) pe_str (nomark _)) (pe_and (pe_cmpR op_eq (pe_callB (r := rLen K) call_len_seq (by rfl) T.len PySem.boot_len (pa_cons (pv 1) pa_nil)) pe_int (nomark _)) (pe_one (pe_call Z (hr.mono (by decide)) (by rfl) gZ FZ.kp bZ .nil pass0 (pa_cons (pv 0) (pa_cons (pe_ix (r := rIxT K) ix_tup (pv 1) pe_int (fun _ _ => rfl)) pa_nil))))))))))), ?_⟩
    refine ⟨_, rfl, x, .ty "tuple", _, _, _, rfl, .ty _, tyD hd, kitT d, _, rfl, ?_⟩
    cases d with
    | none => exact k H (Same.refl H)
    | bool _ => exact k H (Same.refl H)
    | int _ => exact k H (Same.refl H)
    | str _ => exact k H (Same.refl H)
    | list _ => exact k H (Same.refl H)
    | dict _ => exact k H (Same.refl H)
    | tuple ds =>
      obtain ⟨a, xs, rfl, nb, hs, ha, hl⟩ := hd.tup_ref
      refine ⟨_, rfl, a, xs, rfl, .inr hs, _, 2, rfl, rfl, _, rfl, ite2 (fun h1 => ?_) (fun h1 => ?_)⟩
      · have h2 := of_decide_eq_true h1
        have e : stepD L (.tuple ds) = false := by
          match ds, hl with
          | [], _ => rfl
          | [_], _ => rfl
          | _ :: _ :: _, hl =>
            rw [List.length_cons, List.length_cons] at hl
            omega
        rw [e] at k
        exact k H (Same.refl H)
      · have h2 : ¬ ((xs.length : Int) < 2) := fun q => h1 (decide_eq_true q)
        obtain ⟨d0, d1, r, rfl⟩ : ∃ d0 d1 r, ds = d0 :: d1 :: r := by
          match ds, hl with
          | [], hl => exact absurd (by rw [hl]; decide) h2
          | [_], hl => exact absurd (by rw [hl]; show ((1 : Nat) : Int) < 2; decide) h2
          | d0 :: d1 :: r, _ => exact ⟨d0, d1, r, rfl⟩
        obtain ⟨v0, v1, rs, rfl, hd0, hd1, hr2⟩ : ∃ v0 v1 rs, xs = v0 :: v1 :: rs ∧ Dt B K H v0 d0 ∧ Dt B K H v1 d1 ∧ DtAll B K H rs r := by
          cases ha with
          | cons g1 g =>
            cases g with
            | cons g2 g => exact ⟨_, _, _, rfl, g1, g2, g⟩
        rw [nodes_tup, nodesAll_cons, nodesAll_cons] at hn
        have lr : rs.length = r.length := hr2.len
        have kk : ∀ (H' : Hp) (b : Bool), Same H H' → stepL L d0 (d1 :: r) = b → Q (.bl b) H' := fun H' b sm e => by
          rw [← e]
          exact k H' sm
        clear k
        have len2 : (v0 :: v1 :: rs).length = 2 + rs.length := by
          rw [List.length_cons, List.length_cons]
          omega
        refine ⟨_, rfl, a, _, 0, v0, rfl, rfl, hs, atI_nat (j := 0) rfl, v0, .ty "str", _, _, _, rfl, .ty _, tyD hd0, kitS d0, _, rfl, ?_⟩
        cases d0 with
        | none => exact kk H false (Same.refl H) rfl
        | bool _ => exact kk H false (Same.refl H) rfl
        | int _ => exact kk H false (Same.refl H) rfl
        | tuple _ => exact kk H false (Same.refl H) rfl
        | list _ => exact kk H false (Same.refl H) rfl
        | dict _ => exact kk H false (Same.refl H) rfl
        | str z0 =>
          unfold stepL at kk
          refine ⟨_, rfl, a, _, 0, v0, rfl, rfl, hs, atI_nat (j := 0) rfl, B, .str z0, "cut", rfl, hd0, _, rfl, ite2 (fun c1 => ?_) (fun c1 => ?_)⟩
          · rw [if_pos c1] at kk
            refine ⟨_, rfl, a, _, rfl, .inr hs, rfl, _, rfl, ite2 (fun q1 => ?_) (fun q1 => ?_)⟩
            · have q2 : ¬ (((v0 :: v1 :: rs).length : Nat) : Int) = 3 := ne_int q1
              refine kk H false (Same.refl H) ?_
              match r, lr with
              | [], _ => rfl
              | [_], lr => rw [List.length_singleton] at lr; omega
              | _ :: _ :: _, _ => rfl
            · have q2 : (((v0 :: v1 :: rs).length : Nat) : Int) = 3 := ne_int' q1
              obtain ⟨d2, rfl⟩ : ∃ d2, r = [d2] := by
                match r, lr with
                | [d2], _ => exact ⟨d2, rfl⟩
                | [], lr => rw [List.length_nil] at lr; omega
                | _ :: _ :: _, lr => rw [List.length_cons, List.length_cons] at lr; omega
              obtain ⟨v2, rfl, hd2⟩ : ∃ v2, rs = [v2] ∧ Dt B K H v2 d2 := by
                cases hr2 with
                | cons g1 g =>
                  cases g
                  exact ⟨_, rfl, g1⟩
              rw [nodesAll_cons] at hn
              have k2 : ∀ (H' : Hp) (b : Bool), Same H H' → (unitD L d1 && numD d2 0 30) = b → Q (.bl b) H' := kk
              clear kk
              refine ⟨_, rfl, a, _, 1, v1, rfl, rfl, hs, atI_nat (j := 1) rfl, v1, .ty "tuple", _, _, _, rfl, .ty _, tyD hd1, kitT d1, _, rfl, ?_⟩
              cases d1 with
              | none => exact k2 H false (Same.refl H) rfl
              | bool _ => exact k2 H false (Same.refl H) rfl
              | int _ => exact k2 H false (Same.refl H) rfl
              | str _ => exact k2 H false (Same.refl H) rfl
              | list _ => exact k2 H false (Same.refl H) rfl
              | dict _ => exact k2 H false (Same.refl H) rfl
              | tuple es =>
                obtain ⟨b, ys, rfl, nb2, hs2, ha2, hl2⟩ := hd1.tup_ref
                have les := len_nodes es
                rw [nodes_tup] at hn
                refine ⟨_, rfl, a, _, 1, .ref b, rfl, rfl, hs, atI_nat (j := 1) rfl, b, ys, rfl, .inr hs2, _, rfl, rfl, _, rfl, ite2 (fun q3 => ?_) (fun q3 => ?_)⟩
                · refine k2 H false (Same.refl H) ?_
                  have e1 : unitD L (.tuple es) = false := tupAll_no (by rw [← hl2]; exact ne_int q3)
                  rw [e1]
                  rfl
                · have e1 : unitD L (.tuple es) = es.all (fun x => numD x 0 9) := tupAll_yes (by rw [← hl2]; exact ne_int' q3)
                  rw [e1] at k2
                  refine ⟨_, rfl, a, _, 2, v2, rfl, rfl, hs, atI_nat (j := 2) rfl, B, v2, d2, 0, 30, rfl, hd2, _, rfl, ite2 (fun q4 => ?_) (fun q4 => ?_)⟩
                  · refine k2 H false (Same.refl H) ?_
                    rw [not_cases q4, Bool.and_false]
                  · rw [not_cases' q4, Bool.and_true] at k2
                    refine ⟨_, rfl, a, _, 1, .ref b, rfl, rfl, hs, atI_nat (j := 1) rfl, b, rfl, ⟨ys, hs2⟩, fun D hD => ?_⟩
                    refine lc_tup (K := K) (a := b) (xs := ys) (FInv (fun x => numD x 0 9) es H D) (fstart hD) (fun i H' _ p => same_seqT p.1 hs2) ?_ ?_
                    · rintro j y H4 hy p
                      obtain ⟨d3, hm3, hd3, c1, c2⟩ := fturn ha2 (Nat.lt_of_le_of_lt (show _ ≤ 100000 by omega) (by decide)) hD hy p
                      refine ⟨rfl, _, rfl, B, y, d3, 0, 9, rfl, hd3, _, rfl, ite2 (fun h9 => ?_) (fun h9 => ?_)⟩
                      · obtain ⟨acc2, e1, e2, e3⟩ := c2 H4 (Same.refl H4) (not_cases h9)
                        exact ⟨_, rfl, acc2, e1, e2, e3⟩
                      · exact c1 H4 (Same.refl H4) (not_cases' h9)
                    · rintro H4 p
                      obtain ⟨sm4, acc, hS, he⟩ := fend (K := K) hl2 p
                      refine ⟨by show 0 ≤ sizeLine; decide, fun N hN => ⟨D, N, acc, rfl, rfl, same_seqL (same_new hN) hS, SqL.of upd_same, ?_⟩⟩
                      rw [id, he]
                      exact k2 _ _ (sm4.trans (same_new hN)) rfl
          · rw [if_neg c1] at kk
            refine ⟨_, rfl, a, _, 0, v0, rfl, rfl, hs, atI_nat (j := 0) rfl, B, .str z0, "stop", rfl, hd0, _, rfl, ite2 (fun c2 => ?_) (fun c2 => ?_)⟩
            · rw [if_pos c2] at kk
              refine ⟨_, rfl, a, _, rfl, .inr hs, rfl, _, rfl, ite2 (fun q1 => ?_) (fun q1 => ?_)⟩
              · have q2 : (v0 :: v1 :: rs).length = 2 := len_yes q1
                obtain rfl : r = [] := List.eq_nil_of_length_eq_zero (by omega)
                refine ⟨_, rfl, _, rfl, a, _, 1, v1, rfl, rfl, hs, atI_nat (j := 1) rfl, B, v1, d1, L, 1, 1, rfl, hd1, by omega, fun H1 s1 => kk H1 _ s1 ?_⟩
                exact (of_let d1).symm
              · have q2 : (v0 :: v1 :: rs).length ≠ 2 := len_no q1
                refine kk H false (Same.refl H) ?_
                match r, lr with
                | [], lr => rw [List.length_nil] at lr; omega
                | _ :: _, _ => rfl
            · rw [if_neg c2] at kk
              refine ⟨_, rfl, a, _, 0, v0, rfl, rfl, hs, atI_nat (j := 0) rfl, B, .str z0, "pass", rfl, hd0, _, rfl, ite2 (fun c3 => ?_) (fun c3 => ?_)⟩
              · rw [if_pos c3] at kk
                refine ⟨_, rfl, a, _, rfl, .inr hs, rfl, _, rfl, ite2 (fun q1 => ?_) (fun q1 => ?_)⟩
                · have q2 : (v0 :: v1 :: rs).length = 3 := len_yes q1
                  obtain ⟨d2, rfl⟩ : ∃ d2, r = [d2] := by
                    match r, lr with
                    | [d2], _ => exact ⟨d2, rfl⟩
                    | [], lr => rw [List.length_nil] at lr; omega
                    | _ :: _ :: _, lr => rw [List.length_cons, List.length_cons] at lr; omega
                  obtain ⟨v2, rfl, hd2⟩ : ∃ v2, rs = [v2] ∧ Dt B K H v2 d2 := by
                    cases hr2 with
                    | cons g1 g =>
                      cases g
                      exact ⟨_, rfl, g1⟩
                  rw [nodesAll_cons] at hn
                  exact ⟨_, rfl, _, rfl, a, _, 1, v1, rfl, rfl, hs, atI_nat (j := 1) rfl, _, rfl, a, _, 2, v2, rfl, rfl, hs, atI_nat (j := 2) rfl, B, v1, v2, d1, d2, L, rfl, hd1, hd2, by omega, by omega, fun H1 s1 => kk H1 _ s1 rfl⟩
                · have q2 : (v0 :: v1 :: rs).length ≠ 3 := len_no q1
                  refine kk H false (Same.refl H) ?_
                  match r, lr with
                  | [], _ => rfl
                  | [_], lr => rw [List.length_singleton] at lr; omega
                  | _ :: _ :: _, _ => rfl
              · rw [if_neg c3] at kk
                refine ⟨_, rfl, a, _, 0, v0, rfl, rfl, hs, atI_nat (j := 0) rfl, B, .str z0, "swap", rfl, hd0, _, rfl, ite2 (fun c4 => ?_) (fun c4 => ?_)⟩
                · rw [if_pos c4] at kk
                  refine ⟨_, rfl, a, _, rfl, .inr hs, rfl, _, rfl, ite2 (fun q1 => ?_) (fun q1 => ?_)⟩
                  · have q2 : (v0 :: v1 :: rs).length = 2 := len_yes q1
                    obtain rfl : r = [] := List.eq_nil_of_length_eq_zero (by omega)
                    exact ⟨_, rfl, _, rfl, a, _, 1, v1, rfl, rfl, hs, atI_nat (j := 1) rfl, B, v1, d1, L, rfl, hd1, by omega, fun H1 s1 => kk H1 _ s1 rfl⟩
                  · have q2 : (v0 :: v1 :: rs).length ≠ 2 := len_no q1
                    refine kk H false (Same.refl H) ?_
                    match r, lr with
                    | [], lr => rw [List.length_nil] at lr; omega
                    | _ :: _, _ => rfl
                · rw [if_neg c4] at kk
                  exact kk H false (Same.refl H) rfl
def spDue (K : PySem.W.Frag) : Sp := fun vs H Q _ => ∃ (B : Addr → Prop) (x : V) (d : PyData) (L : Int), vs = [.int L, x] ∧ Dt B K H x d ∧ nodes d ≤ 100000 ∧ ∀ H' v', Same H H' → Dt (fun _ => False) K H' v' (errE (lineE L d)) → Q v' H'
theorem scDue : FnScope ["_law_letters", "_law_value", "_law_k"] ["_law_letters", "_law_value"] (defScope sDue) := ⟨rfl, rfl, rfl, by decide +kernel, rfl, by decide +kernel, by decide +kernel⟩
theorem ok_due {f fS : Addr} {fd fdS : FuncData} (F : Fun K "_law_due" "_law_due" sDue f fd) (S : FnOk P w K mg base CX0 3 fS fdS ["_law_letters", "_law_value"] (spIsS K)) (FS : Fun K "_law_is_step" "_law_is_step" sIsStep fS fdS) (bS : Binds K fdS ["_law_letters", "_law_value"] []) (gS : mg "_law_is_step" = some (.ref fS)) (T : Mg mg) :
    FnOk P w K mg base CX0 4 f fd ["_law_letters", "_law_value"] (spDue K) := by
  refine F.ok scDue (fun vs H Q E h => ?_) (fun cdv A outer s H vs Q E hr h => ?_)
  · obtain ⟨B, x, d, L, rfl, _⟩ := h
    rfl
  · obtain ⟨B, x, d, L, rfl, hd, hn, k⟩ := h
    refine ⟨_, pss_cons (ps_if (pt_not (pt_val (pe_callB (r := rIsi K) call_isi (by rfl) T.isi PyProof.Rows.boot_isinstance (pa_cons (pv 1) (pa_cons (pe_bltn (v := .ty "tuple") (by rfl) T.tuple PyProof.Rows.boot_tuple rfl) pa_nil))))) (pss_one (ps_ret (pe_tup (pa_cons pe_non (pa_cons pe_str pa_nil))))) pss_nil)
      (pss_cons (ps_for PassesOwn.never rfl (pi_range1 (by rfl) T.range (pa_cons (pe_callB (r := rLen K) call_len_seq (by rfl) T.len PySem.boot_len (pa_cons (pv 1) pa_nil)) pa_nil)) (pg_name (i := 2) scDue.nd rfl (.inl rfl))
        (pss_one (ps_if (pt_not (pt_val (pe_call S hr (by rfl) gS FS.kp bS .nil pass0 (pa_cons (pv 0) (pa_cons (pe_ix ix_tup (pv 1) (pv 2) (fun _ _ => rfl)) pa_nil))))) (pss_one (ps_ret (pe_tup (pa_cons (pv 2) (pa_cons pe_str pa_nil))))) pss_nil)))
      (pss_one (ps_ret (pe_ifExp (pt_cmpR op_gt (pe_callB (r := rLen K) call_len_seq (by rfl) T.len PySem.boot_len (pa_cons (pv 1) pa_nil)) pe_int (nomark _)) (pe_tup (pa_cons pe_non (pa_cons pe_str pa_nil))) pe_non)))), ?_⟩
    refine ⟨_, rfl, x, .ty "tuple", _, _, _, rfl, .ty _, tyD hd, kitT d, _, rfl, ?_⟩
    have no : lineE L d = some (none, ("line" : Str)) → 2 ≤ sizeLine ∧ ∀ p, H p = none → Q (.ref p) (upd H p (.tup [.non, .str "line"])) := fun e => ⟨by decide, fun p hp => k _ _ (same_new hp) (by
      rw [e]
      exact .tup (fun z => z) (.inl upd_same) (.cons .non (.cons (.str _) .nil)))⟩
    cases d with
    | none => exact no rfl
    | bool _ => exact no rfl
    | int _ => exact no rfl
    | str _ => exact no rfl
    | list _ => exact no rfl
    | dict _ => exact no rfl
    | tuple ds =>
      clear no
      obtain ⟨a, xs, rfl, nb, hs, ha, hl⟩ := hd.tup_ref
      rw [nodes_tup] at hn
      have lds := len_nodes ds
      refine ⟨_, rfl, a, xs, rfl, .inr hs, (xs.length : Int), rfl, by omega, by omega, ?_⟩
      refine for_range (lo := 0) (n := (xs.length : Int).toNat) (fun i σ H' => (∃ y2, σ = [some (V.int L), some (V.ref a), y2]) ∧ Same H H' ∧ (ds.take i).all (stepD L) = true) ⟨⟨none, rfl⟩, Same.refl H, rfl⟩ ?_ ?_
      · rintro i σ H1 hi ⟨⟨y2, rfl⟩, sm, hall⟩
        have hi2 : i < ds.length := by omega
        obtain ⟨v, hv, hd1⟩ := ha.get (List.getElem?_eq_getElem hi2)
        have hdi : ds[i]? = some ds[i] := List.getElem?_eq_getElem hi2
        have hn2 := mem_nodes (List.mem_of_getElem? hdi)
        rw [Int.zero_add]
        refine ⟨_, rfl, _, rfl, _, rfl, a, xs, (i : Int), v, rfl, rfl, same_seqT sm hs, atI_nat hv, B, v, ds[i], L, rfl, same_dt sm hd1, by omega, fun H3 s3 => ⟨_, rfl, ite2 (fun h1 => ?_) (fun h1 => ?_)⟩⟩
        · refine ⟨_, rfl, by show 2 ≤ sizeLine; decide, fun p hp => k _ _ ((sm.trans s3).trans (same_new hp)) ?_⟩
          rw [lineE_bad hall hdi (not_cases h1)]
          exact .tup (fun z => z) (.inl upd_same) (.cons (.int _) (.cons (.str _) .nil))
        · exact ⟨⟨_, rfl⟩, sm.trans s3, all_up hdi (not_cases' h1) hall⟩
      · rintro σ H1 ⟨⟨y2, rfl⟩, sm, hall⟩
        rw [Int.toNat_natCast, hl, List.take_length] at hall
        rw [lineE_ok hall] at k
        refine ⟨_, rfl, a, xs, rfl, .inr (same_seqT sm hs), _, 3, rfl, rfl, _, rfl, ite2 (fun h1 => ?_) (fun h1 => ?_)⟩
        · have h2 := of_decide_eq_true h1
          rw [if_neg (by omega)] at k
          exact ⟨by show 2 ≤ sizeLine; decide, fun p hp => k _ _ (sm.trans (same_new hp)) (.tup (fun z => z) (.inl upd_same) (.cons .non (.cons (.str _) .nil)))⟩
        · have h2 : ¬ ((xs.length : Int) > 3) := fun q => h1 (decide_eq_true q)
          rw [if_pos (by omega)] at k
          exact k _ _ sm .non
end
/-! ### lists of data that are made while the deck is drawn from -/
theorem keep_store {B : Addr → Prop} {H : Hp} {p : Addr} {o : HO} (hp : B p) : Keep B H (upd H p o) := fun x u nb e => by
  rw [upd_ne (fun z : x = p => nb (z.symm ▸ hp))]
  exact e
def BD (B : Addr → Prop) (D : Addr) : Addr → Prop := fun b => B b ∨ b = D
def LInv (K : PySem.W.Frag) (B : Addr → Prop) (a c D : Addr) (H0 : Hp) (n0 s : Int) (N j : Nat) (H' : Hp) : Prop :=
  ∃ (cells : List Int) (n' : Int) (vs : List V) (ds : List PyData), DeckAt a c cells n' H' ∧ n0 ≤ n' ∧ n' ≤ n0 + s * j ∧ Keep (Bd a c) H0 H' ∧ H' D = some (.lst vs) ∧ vs.length = j ∧ DtAll (BD B D) K H' vs ds ∧ ∀ d ∈ ds, nodes d ≤ N
theorem linv_start {K : PySem.W.Frag} {B : Addr → Prop} {a c D : Addr} {H0 : Hp} {n0 s : Int} {N : Nat} {cells : List Int} (dk : DeckAt a c cells n0 H0) (hD : H0 D = none) : LInv K B a c D H0 n0 s N 0 (upd H0 D (.lst [])) :=
  ⟨cells, n0, [], [], deck_new dk hD, Int.le_refl _, by simp, keep_new hD, upd_same, rfl, .nil, fun d z => absurd z List.not_mem_nil⟩
theorem tb_bd {B : Addr → Prop} {a c D : Addr} {H0 H' : Hp} {cells : List Int} {n : Int} {o : HO} (tb : TB B H0) (dk : DeckAt a c cells n H') (k : Keep (Bd a c) H0 H') (hD : H' D = some o) : TB (BD B D) H' := fun b z e => by
  rcases z with z | z
  · exact tb_keep tb dk k b z e
  · rw [z, hD] at e
    cases e
theorem linv_step {K : PySem.W.Frag} {B : Addr → Prop} {a c D : Addr} {H0 H1 H2 : Hp} {n0 n1 n2 s : Int} {N j : Nat} {vs : List V} {ds : List PyData} {v : V} {d : PyData} {cells2 : List Int} (hB : ∀ b, Bd a c b → B b) (hD0 : H0 D = none) (nD : ¬ Bd a c D) (hj : j ≤ 1000) (h0 : n0 ≤ n1) (h1 : n1 ≤ n0 + s * j) (kp : Keep (Bd a c) H0 H1)
    (hD : H1 D = some (.lst vs)) (hl : vs.length = j) (ha : DtAll (BD B D) K H1 vs ds) (hN : ∀ d ∈ ds, nodes d ≤ N) (dk : DeckAt a c cells2 n2 H2) (k2 : Keep (Bd a c) H1 H2) (h2 : n1 ≤ n2) (h3 : n2 ≤ n1 + s) (hv : Dt (BD B D) K H2 v d) (hn : nodes d ≤ N) :
    ∃ acc, H2 D = some (.lst acc) ∧ acc.length < sizeLine ∧ LInv K B a c D H0 n0 s N (j + 1) (upd H2 D (.lst (acc ++ [v]))) := by
  have kw : Keep (BD B D) H1 H2 := k2.wide fun b z => .inl (hB b z)
  have ks : Keep (BD B D) H2 (upd H2 D (.lst (vs ++ [v]))) := keep_store (.inr rfl)
  refine ⟨vs, k2 _ _ nD hD, small1000 (by omega), cells2, n2, vs ++ [v], ds ++ [d], deck_upd dk nD, by omega, ?_, fun b o nb z => ?_, upd_same, ?_, ?_, fun e he => ?_⟩
  · have e : s * ((j + 1 : Nat) : Int) = s * j + s := by
      rw [Int.natCast_add, Int.mul_add]
      simp
    rw [e]
    omega
  · rw [upd_ne (ne_of_none z hD0)]
    exact k2 _ _ nb (kp _ _ nb z)
  · rw [List.length_append, hl]
    rfl
  · exact (DtAll.keep ks _ _ (DtAll.keep kw _ _ ha)).append (.cons (Dt.keep ks _ _ hv) .nil)
  · rcases List.mem_append.mp he with he | he
    · exact hN e he
    · rw [List.mem_singleton.mp he]
      exact hn
theorem dt_tup {K : PySem.W.Frag} {B : Addr → Prop} {D q : Addr} {H : Hp} {vs : List V} {ds : List PyData} (tb : TB B H) (hq : H q = none) (ha : DtAll (BD B D) K H vs ds) : Dt B K (upd H q (.tup vs)) (.ref q) (.tuple ds) :=
  (mk_tupB tb hq (DtAll.weak (fun b z => .inl z) _ _ ha)).1
theorem nodes_all {N : Nat} : ∀ {ds : List PyData}, (∀ d ∈ ds, nodes d ≤ N) → nodesAll ds ≤ N * ds.length
  | [], _ => by rw [nodesAll_nil]; exact Nat.zero_le _
  | d :: ds, h => by
    have h1 := nodes_all (ds := ds) fun e he => h e (List.mem_cons_of_mem _ he)
    have h2 := h d List.mem_cons_self
    rw [nodesAll_cons, List.length_cons, Nat.mul_add]
    omega
section
variable {P : Program} {w : World} {K : PySem.W.Frag} {mg : Str → Option Value} {base : Heap}
def spOneS : Sp := fun vs H Q _ => ∃ (a c : Addr) (cells : List Int) (n : Int) (z : Str), vs = [.ref a, .str z] ∧ DeckAt a c cells n H ∧ 0 ≤ n ∧ n ≤ 1000000 ∧ 1 ≤ z.length ∧ z.length ≤ 1000 ∧
  ∀ (H' : Hp) (cells' : List Int) (x : Nat), x ∈ z.cps.toList → DeckAt a c cells' (n + 1) H' → Keep (Bd a c) H H' → Q (.str ⟨#[x]⟩) H'
theorem ok_oneS {f fD : Addr} {fd fdD : FuncData} (F : Fun K "_law_one" "_law_one" sOne f fd) (D : FnOk P w K mg base CX0 1 fD fdD ["_law_deck_here", "_law_most"] spDraw) (FD : Fun K "_law_draw" "_law_draw" sDraw fD fdD) (bD : Binds K fdD ["_law_deck_here", "_law_most"] [])
    (gD : mg "_law_draw" = some (.ref fD)) (mLen : mg "len" = none) : FnOk P w K mg base CX0 2 f fd ["_law_deck_here", "_law_items"] spOneS := by
  refine F.ok scOne (fun vs H Q E h => ?_) (fun cdv A outer s H vs Q E hr h => ?_)
  · obtain ⟨a, c, cells, n, z, rfl, _⟩ := h
    rfl
  · obtain ⟨a, c, cells, n, z, rfl, dk, n0, n1, l0, l1, k⟩ := h
    refine ⟨_, pss_one (ps_ret (pe_ix ix_str (pv 1) (pe_call D hr (by rfl) gD FD.kp bD .nil pass0 (pa_cons (pv 0) (pa_cons (pe_callB call_len_str (by rfl) mLen PySem.boot_len (pa_cons (pv 1) pa_nil)) pa_nil))) (fun _ _ => rfl))), ?_⟩
    refine ⟨_, rfl, _, rfl, _, rfl, z, rfl, sz_of (by omega), a, c, cells, n, _, rfl, dk, by omega, by omega, n0, n1, fun H' cells' r r0 r1 dk' kp => ?_⟩
    have el : z.cps.toList.length = z.length := Array.length_toList
    have hr2 : r.toNat < z.cps.toList.length := by omega
    have e := atI_nat (List.getElem?_eq_getElem hr2)
    rw [show ((r.toNat : Nat) : Int) = r by omega] at e
    exact ⟨z, r, z.cps.toList[r.toNat], rfl, rfl, sz_of (by omega), e, k H' cells' _ (List.getElem_mem hr2) dk' kp⟩
end
/-! ### a swap drawn -/
def rJoin (K : PySem.W.Frag) : V → List V → Hp → VK → Prop := fun x xs H Q => ∃ a p, ∃ ys : List Str, x = .str a ∧ xs = [.ref p] ∧ (SqL K H p (ys.map V.str) ∨ SqT K H p (ys.map V.str)) ∧ (ys.map (·.length)).sum + ys.length * a.length ≤ 16777216 ∧ Q (.str (Txt.join a ys)) H
/-- what a drawn step is -/
def DStep (d : PyData) : Prop := ∃ s r, d = .tuple (.str s :: r) ∧ (s = "cut" → ∃ u m, r = [u, .int m] ∧ 0 ≤ m ∧ m ≤ 30)
def Sg (v : V) : Prop := ∃ c : Nat, v = .str ⟨#[c]⟩
def Wd (v : V) : Prop := ∃ z : Str, v = .str z ∧ z.length ≤ 2
theorem sg_list : ∀ {acc : List V}, (∀ v ∈ acc, Sg v) → ∃ ys : List Str, acc = ys.map V.str ∧ (ys.map (·.length)).sum = ys.length
  | [], _ => ⟨[], rfl, rfl⟩
  | v :: acc, h => by
    obtain ⟨ys, e, hs⟩ := sg_list (acc := acc) fun u hu => h u (List.mem_cons_of_mem _ hu)
    obtain ⟨c, rfl⟩ := h v List.mem_cons_self
    refine ⟨⟨#[c]⟩ :: ys, by rw [e]; rfl, ?_⟩
    rw [List.map_cons, List.sum_cons, hs, List.length_cons, Nat.add_comm]
    rfl
theorem join_len {ys : List Str} (h : (ys.map (·.length)).sum = ys.length) : (Txt.join "" ys).length ≤ ys.length := by
  rw [TL.join_eq]
  have := StrLaws.join_length_le "" ys
  rw [h] at this
  have e : ("" : Str).length = 0 := rfl
  rw [e, Nat.mul_zero] at this
  exact this
theorem abc_len {L : Int} (h : 1 ≤ L) (h2 : L ≤ 3) : 1 ≤ (abcS L).length ∧ (abcS L).length ≤ 3 := by
  have : L = 1 ∨ L = 2 ∨ L = 3 := by omega
  rcases this with rfl | rfl | rfl <;> decide +kernel
section
variable {P : Program} {w : World} {K : PySem.W.Frag} {mg : Str → Option Value} {base : Heap}
def spDrawn (m : Int) (N : Nat) (K : PySem.W.Frag) (ps : V → List V → Int → Prop) : Sp := fun vs H Q _ => ∃ (B : Addr → Prop) (a c : Addr) (cells : List Int) (n L : Int), ps (.ref a) vs L ∧ (∀ b, Bd a c b → B b) ∧ TB B H ∧ DeckAt a c cells n H ∧ 0 ≤ n ∧ n ≤ 900000 ∧ 1 ≤ L ∧ L ≤ 3 ∧
  ∀ (H' : Hp) (cells' : List Int) (n' : Int) (v : V) (d : PyData), DeckAt a c cells' n' H' → n ≤ n' → n' ≤ n + m → Keep (Bd a c) H H' → Dt B K H' v d → nodes d ≤ N → DStep d → Q v H'
theorem scSw : FnScope ["_law_deck_here", "_law_letters", "_law_found", "_law_pieces", "_law_turn", "_law_extent", "_law_one_here", "_law_other", "_law_k", "_law_side"] ["_law_deck_here", "_law_letters"] (defScope sSwapL) := ⟨rfl, rfl, rfl, by decide +kernel, rfl, by decide +kernel, by decide +kernel⟩
theorem ok_swapL {f fD fO : Addr} {fd fdD fdO : FuncData} (F : Fun K "_law_swap" "_law_swap" sSwapL f fd)
    (D : FnOk P w K mg base CX0 1 fD fdD ["_law_deck_here", "_law_most"] spDraw) (FD : Fun K "_law_draw" "_law_draw" sDraw fD fdD) (bD : Binds K fdD ["_law_deck_here", "_law_most"] []) (gD : mg "_law_draw" = some (.ref fD))
    (O : FnOk P w K mg base CX0 2 fO fdO ["_law_deck_here", "_law_items"] spOneS) (FO : Fun K "_law_one" "_law_one" sOne fO fdO) (bO : Binds K fdO ["_law_deck_here", "_law_items"] []) (gO : mg "_law_one" = some (.ref fO)) (T : Mg mg) :
    FnOk P w K mg base CX0 3 f fd ["_law_deck_here", "_law_letters"] (spDrawn 40 100 K fun a vs L => vs = [a, .int L]) := by
  refine F.ok scSw (fun vs H Q E h => ?_) (fun cdv A outer s H vs Q E hr h => ?_)
  · obtain ⟨B, a, c, cells, n, L, rfl, _⟩ := h
    rfl
  · obtain ⟨B, a, c, cells, n, L, rfl, hB, tb, dk, n0, n1, L1, L3, k⟩ := h
    have hu0 := hr.units0
    obtain ⟨ab1, ab3⟩ := abc_len L1 L3
    refine ⟨_, (pss_cons (ps_par (i := 2) (j := 3) rfl scSw.nd rfl rfl (by decide) rfl rfl (pa_cons (pe_lstA pa_nil) (pa_cons (pe_lstA pa_nil) pa_nil)) (by rfl))
      (pss_cons (ps_for PassesOwn.never rfl (pi_range1 (by rfl) T.range (pa_cons (pe_op op_add pe_int (pe_call D (hr.mono (by decide)) (by rfl) gD FD.kp bD .nil pass0 (pa_cons (pv 0) (pa_cons pe_int pa_nil)))) pa_nil)) (pg_name (i := 4) scSw.nd rfl (.inl rfl)) (pss_cons (ps_set (i := 5) scSw.nd rfl (.inr rfl) (pe_op op_add pe_int (pe_call D (hr.mono (by decide)) (by rfl) gD FD.kp bD .nil pass0 (pa_cons (pv 0) (pa_cons pe_int pa_nil)))))
      (pss_cons (ps_asg (pe_lc (te := tBM K "str" (rJoin K) _ _) (own := [("_law_side", 9)]) (g := gName 9) (tt := tYes) rfl scSw.nd (pi_range1 (by rfl) T.range (pa_cons pe_int pa_nil)) (blkOk_by (N := ["_law_deck_here", "_law_letters", "_law_found", "_law_pieces", "_law_turn", "_law_extent", "_law_one_here", "_law_other", "_law_k", "_law_side"]) (sc := defScope sSwapL) (by decide +kernel)) (fun _ _ _ _ _ => pg_name (i := 9) scSw.nd rfl (Or.inl rfl)) (fun _ _ _ _ _ => pts_nil) (fun _ _ _ _ _ => pe_bm (r := rJoin K) PySem.F.plainAttrs_str PySem.F.slot_str_join PySem.F.type_str_join mt_join pe_str (pa_cons (pe_lc (own := [("_law_k", 8)]) (g := gName 8) (tt := tYes) rfl scSw.nd (pi_range1 (by rfl) T.range (pa_cons (pv 5) pa_nil)) (blkOk_by (by kernel_rfl)) (fun _ _ _ _ _ => pg_name (i := 8) scSw.nd rfl (Or.inl rfl)) (fun _ _ _ _ _ => pts_nil) (fun _ _ _ _ _ => pe_call O hr (by rfl) gO FO.kp bO .nil pass0 (pa_cons (pv 0) (pa_cons (pe_slice sl_str pe_str po_none (po_some (pv 1))) pa_nil)))) pa_nil))) (pg_unl rfl (pgs_cons (pg_name (i := 6) scSw.nd rfl (.inl rfl)) (pgs_cons (pg_name (i := 7) scSw.nd rfl (.inl rfl)) pgs_nil))))
      (pss_one (ps_if (PW.pt (pw_and (pt_cmpR op_ne (pv 6) (pv 7) (nomark _)) (pw_and (pt_cmpR op_notIn_seq (pv 6) (pv 3) (by rfl)) (pw_and1 (pt_cmpR op_notIn_seq (pv 7) (pv 3) (by rfl)))))) (pss_cons (ps_expr (pe_bm PySem.F.plainAttrs_list PySem.F.slot_list_extend PySem.F.type_list_extend mt_extend (pv 3) (pa_cons (pe_lstA (pa_cons (pv 6) (pa_cons (pv 7) pa_nil))) pa_nil)))
      (pss_one (ps_expr (pe_bm PySem.F.plainAttrs_list PySem.F.slot_list_append PySem.F.type_list_append mt_append (pv 2) (pa_cons (pe_tup (pa_cons (pv 6) (pa_cons (pv 7) pa_nil))) pa_nil))))) pss_nil)))))
      (pss_cons (ps_if (pt_cmpR (op_eqNilL hu0) (pv 2) (pe_lst pa_nil) (nomark _)) (pss_one (ps_ret (pe_tup (pa_cons pe_str (pa_cons (pe_tup (pa_cons (pe_op op_repS (pe_tup (pa_cons pe_int pa_nil)) (pv 1)) pa_nil)) (pa_cons (pe_tup (pa_cons (pe_callTy (call_tupS rfl) (by rfl) T.tuple PyProof.Rows.boot_tuple (pa_cons (pe_slice sl_str pe_str po_none (po_some (pv 1))) pa_nil)) pa_nil)) pa_nil)))))) pss_nil)
      (pss_one (ps_ret (pe_tup (pa_cons pe_str (pa_cons (pe_callTy call_tuple_of (by rfl) T.tuple PyProof.Rows.boot_tuple (pa_cons (pv 2) pa_nil)) pa_nil)))))))), ?_⟩
    refine ⟨by show 0 ≤ sizeLine; decide, fun pf G1 t1 nf _ lf => ⟨by show 0 ≤ sizeLine; decide, fun pp G2 t2 np _ lp => ⟨_, _, rfl, ?_⟩⟩⟩
    have dk2 := deck_same (t1.trans t2) dk
    have nfp : pf ≠ pp := ne_of_none lf np
    have hf0 : H pf = none := nf
    have hp0 : H pp = none := t1.free np
    have nBf : ¬ Bd a c pf := deck_off dk hf0
    have nBp : ¬ Bd a c pp := deck_off dk hp0
    refine ⟨_, rfl, a, c, cells, n, 4, rfl, dk2, by decide, by decide, n0, by omega, fun H3 cells3 r r0 r4 dk3 k3 => ⟨1, r, rfl, rfl, 1 + r, rfl, by omega, by omega, ?_⟩⟩
    have k03 : Keep (Bd a c) H H3 := (Keep.same (t1.trans t2)).trans k3
    refine for_range (lo := 0) (n := (1 + r).toNat) (fun i σ H' => (∃ y4 y5 y6 y7, σ = [some (.ref a), some (.int L), some (.ref pf), some (.ref pp), y4, y5, y6, y7, none, none]) ∧ ∃ (cells' : List Int) (n' : Int) (vs : List V) (ds : List PyData) (ss : List Str), DeckAt a c cells' n' H' ∧ n ≤ n' ∧ n' ≤ n + 1 + 5 * i ∧ Keep (Bd a c) H H' ∧ H' pf = some (.lst vs) ∧ H' pp = some (.lst (ss.map V.str)) ∧
        vs.length ≤ i ∧ ss.length ≤ 2 * i ∧ DtAll (BD (BD B pf) pp) K H' vs ds ∧ ∀ d ∈ ds, nodes d ≤ 7)
      ⟨⟨none, none, none, none, rfl⟩, cells3, n + 1, [], [], [], dk3, by omega, by omega, k03, k3 _ _ nBf (t2 _ _ lf), k3 _ _ nBp lp, Nat.le_refl _, Nat.le_refl _, .nil, fun d z => absurd z List.not_mem_nil⟩ ?_ ?_
    · rintro i σ H4 hi ⟨⟨y4, y5, y6, y7, rfl⟩, cells4, n4, vs, ds, ss, dk4, a4, b4, k04, lf4, lp4, lv4, ls4, dt4, dn4⟩
      refine ⟨_, rfl, a, c, cells4, n4, 2, rfl, dk4, by decide, by decide, by omega, by omega, fun H5 cells5 e e0 e2 dk5 k5 => ⟨1, e, rfl, rfl, ?_⟩⟩
      refine ⟨2, rfl, by decide, by decide, fun D1 hD1 => ?_⟩
      refine lc_range (lo := 0) (n := 2) (CInv a c D1 H5 Wd (n4 + 1) 2) (cstart dk5 hD1) ?_ ?_
      · rintro j H6 hj ⟨cells6, n6, acc, dk6, g0, g1, k6, hDl, hl6, hG6⟩
        refine ⟨rfl, rfl, _, rfl, 1 + e, rfl, by omega, by omega, fun D2 hD2 => ?_⟩
        refine lc_range (lo := 0) (n := (1 + e).toNat) (CInv a c D2 H6 Sg n6 1) (cstart dk6 hD2) ?_ ?_
        · rintro j2 H7 hj2 ⟨cells7, n7, acc7, dk7, p0, p1, k7, hD2', hl7, hG7⟩
          exact ⟨rfl, _, rfl, _, rfl, L, rfl, "abc", rfl, by show 3 ≤ sizeLine; decide, a, c, cells7, n7, abcS L, rfl, dk7, by omega, by omega, ab1, by omega, fun H8 cells8 x hx dk8 k8 => cstep hD2 (deck_off dk6 hD2) (by omega) p0 p1 k7 hD2' hl7 hG7 dk8 (by omega) (by omega) k8 ⟨x, rfl⟩⟩
        · rintro H7 ⟨cells7, n7, acc7, dk7, p0, p1, k7, hD2', hl7, hG7⟩
          obtain ⟨ys, rfl, hys⟩ := sg_list hG7
          rw [List.length_map] at hl7
          have jl := join_len hys
          refine ⟨"", D2, ys, rfl, rfl, .inl (SqL.of hD2'), ?_, ?_⟩
          · rw [hys]
            show ys.length + ys.length * 0 ≤ _
            omega
          · exact cstep hD1 (deck_off dk5 hD1) (by omega) g0 g1 k6 hDl hl6 hG6 dk7 (by omega) (by omega) k7 ⟨_, rfl, by omega⟩
      · rintro H6 ⟨cells6, n6, acc, dk6, g0, g1, k6, hDl, hl6, hG6⟩
        obtain ⟨z1, z2, rfl, hz1, hz2⟩ : ∃ z1 z2 : Str, acc = [.str z1, .str z2] ∧ z1.length ≤ 2 ∧ z2.length ≤ 2 := by
          match acc, hl6, hG6 with
          | [v1, v2], _, hG6 =>
            obtain ⟨z1, rfl, h1⟩ := hG6 v1 List.mem_cons_self
            obtain ⟨z2, rfl, h2⟩ := hG6 v2 (List.mem_cons_of_mem _ List.mem_cons_self)
            exact ⟨z1, z2, rfl, h1, h2⟩
        have k46 := k5.trans k6
        have kw : Keep (BD (BD B pf) pp) H4 H6 := k46.wide fun b z => .inl (.inl (hB b z))
        have k06 := k04.trans k46
        have lf6 := k46 _ _ nBf lf4
        have lp6 := k46 _ _ nBp lp4
        have dt6 := DtAll.keep kw _ _ dt4
        refine ⟨D1, _, rfl, SqL.of hDl, rfl, _, _, rfl, _, _, rfl, rfl, ?_⟩
        have rest : (∃ y4 y5 y6 y7, [some (V.ref a), some (.int L), some (.ref pf), some (.ref pp), some (.int (0 + (i : Int))), some (.int (1 + e)), some (.str z1), some (.str z2), none, none] = [some (V.ref a), some (.int L), some (.ref pf), some (.ref pp), y4, y5, y6, y7, none, none]) ∧ ∃ (cells' : List Int) (n' : Int) (vs : List V) (ds : List PyData) (ss : List Str), DeckAt a c cells' n' H6 ∧ n ≤ n' ∧ n' ≤ n + 1 + 5 * ((i + 1 : Nat) : Int) ∧ Keep (Bd a c) H H6 ∧ H6 pf = some (.lst vs) ∧ H6 pp = some (.lst (ss.map V.str)) ∧
            vs.length ≤ i + 1 ∧ ss.length ≤ 2 * (i + 1) ∧ DtAll (BD (BD B pf) pp) K H6 vs ds ∧ ∀ d ∈ ds, nodes d ≤ 7 := ⟨⟨_, _, _, _, rfl⟩, cells6, n6, vs, ds, ss, dk6, by omega, by omega, k06, lf6, lp6, by omega, by omega, dt6, dn4⟩
        have fl : (ss.map V.str).all flatV = true := by
          rw [List.all_map]
          exact List.all_eq_true.mpr fun x _ => rfl
        refine ⟨_, rfl, _, rfl, rfl, _, rfl, ite2 (fun h1 => ?_) (fun h1 => rest)⟩
        refine ⟨_, rfl, _, rfl, pp, _, rfl, .inl (SqL.of lp6), rfl, fl, _, rfl, ite2 (fun h2 => ?_) (fun h2 => rest)⟩
        refine ⟨_, rfl, _, rfl, pp, _, rfl, .inl (SqL.of lp6), rfl, fl, _, rfl, ite2 (fun h3 => ?_) (fun h3 => rest)⟩
        clear rest
        refine ⟨_, rfl, .inl ⟨rfl, _, SqL.of lp6⟩, _, rfl, _, rfl, by show 2 ≤ sizeLine; decide, fun p9 G9 s9 np9 _ lp9 => ?_⟩
        refine ⟨pp, p9, _, _, rfl, rfl, s9 _ _ lp6, lp9, ?_, ?_⟩
        · rw [List.length_map]
          exact sz_of (by show ss.length + 2 ≤ 100000; omega)
        have lp10 : ss.map V.str ++ [.str z1, .str z2] = (ss ++ [z1, z2]).map V.str := by
          rw [List.map_append]
          rfl
        rw [lp10]
        have dk10 : DeckAt a c cells6 n6 (upd G9 pp (.lst ((ss ++ [z1, z2]).map V.str))) := deck_upd (deck_same s9 dk6) nBp
        have k10 : Keep (Bd a c) H (upd G9 pp (.lst ((ss ++ [z1, z2]).map V.str))) := fun b o nb q => by
          rw [upd_ne (ne_of_none q hp0)]
          exact s9 _ _ (k06 _ _ nb q)
        have lf10 : (upd G9 pp (.lst ((ss ++ [z1, z2]).map V.str))) pf = some (.lst vs) := by
          rw [upd_ne nfp]
          exact s9 _ _ lf6
        have lp11 : (upd G9 pp (.lst ((ss ++ [z1, z2]).map V.str))) pp = some (.lst ((ss ++ [z1, z2]).map V.str)) := upd_same
        have dt10 : DtAll (BD (BD B pf) pp) K (upd G9 pp (.lst ((ss ++ [z1, z2]).map V.str))) vs ds := DtAll.keep (keep_store (.inr rfl)) _ _ (same_all s9 dt6)
        generalize upd G9 pp (.lst ((ss ++ [z1, z2]).map V.str)) = G10 at *
        have tb10 := tb_bd (tb_bd tb dk10 k10 lf10) dk10 (Keep.rfl' : Keep (Bd a c) G10 G10) lp11
        refine ⟨_, rfl, .inl ⟨rfl, _, SqL.of lf10⟩, _, rfl, _, rfl, by show 2 ≤ sizeLine; decide, fun q9 hq9 => ?_⟩
        have s11 := same_new (o := .tup [.str z1, .str z2]) hq9
        have dv : Dt (BD (BD B pf) pp) K (upd G10 q9 (.tup [.str z1, .str z2])) (.ref q9) (.tuple [.str z1, .str z2]) := .tup (tb_off tb10 hq9) (.inl upd_same) (.cons (.str _) (.cons (.str _) .nil))
        have nfq : pf ≠ q9 := ne_of_none lf10 hq9
        have npq : pp ≠ q9 := ne_of_none lp11 hq9
        have k11 : Keep (Bd a c) H (upd G10 q9 (.tup [.str z1, .str z2])) := k10.trans (Keep.same s11)
        have dk11 := deck_new (o := .tup [.str z1, .str z2]) dk10 hq9
        have dt11 := same_all s11 dt10
        have lf11 := s11 _ _ lf10
        have lp12 := s11 _ _ lp11
        generalize upd G10 q9 (.tup [.str z1, .str z2]) = G11 at *
        have ks : Keep (BD (BD B pf) pp) G11 (upd G11 pf (.lst (vs ++ [.ref q9]))) := keep_store (.inl (.inr rfl))
        refine ⟨pf, vs, _, rfl, rfl, lf11, small1000 (by omega), ⟨_, _, _, _, rfl⟩, cells6, n6, vs ++ [.ref q9], ds ++ [.tuple [.str z1, .str z2]], ss ++ [z1, z2], deck_upd dk11 nBf, by omega, by omega, fun b o nb q => ?_, upd_same, ?_, ?_, ?_, (DtAll.keep ks _ _ dt11).append (.cons (Dt.keep ks _ _ dv) .nil), fun x hx => ?_⟩
        · rw [upd_ne (ne_of_none q hf0)]
          exact k11 _ _ nb q
        · rw [upd_ne nfp.symm]
          exact lp12
        · rw [List.length_append, List.length_singleton]
          omega
        · rw [List.length_append]
          show ss.length + 2 ≤ _
          omega
        · rcases List.mem_append.mp hx with hx | hx
          · exact dn4 x hx
          · rw [List.mem_singleton.mp hx, nodes_tup, nodesAll_cons, nodesAll_cons, nodesAll_nil, nodes, nodes]
            omega
    · rintro σ H4 ⟨⟨y4, y5, y6, y7, rfl⟩, cells4, n4, vs, ds, ss, dk4, a4, b4, k04, lf4, lp4, lv4, ls4, dt4, dn4⟩
      have tb4 := tb_keep tb dk4 k04
      refine ⟨_, rfl, by show 0 ≤ sizeLine; decide, fun N0 hN0 => ⟨pf, N0, vs, rfl, rfl, SqL.of ((same_new hN0) _ _ lf4), SqL.of upd_same, _, rfl, ?_⟩⟩
      have s5 := same_new (o := .lst []) hN0
      have dk5 := deck_new (o := .lst []) dk4 hN0
      have tb5 : TB B (upd H4 N0 (.lst [])) := tb_upd tb4
      have k05 : Keep (Bd a c) H (upd H4 N0 (.lst [])) := k04.trans (Keep.same s5)
      have lf5 := s5 _ _ lf4
      have dt5 := same_all s5 dt4
      generalize upd H4 N0 (.lst []) = H5 at *
      refine ite2 (fun h1 => ?_) (fun h1 => ?_)
      · refine ⟨by show 1 ≤ sizeLine; decide, fun u1 hu1 => ⟨_, rfl, u1, L, _, rfl, rfl, .inl upd_same, List.cons_ne_nil _ _, by omega, by omega, by show 1 ≤ 1000; decide, fun q1 H6 s6 hq1 w1 => ?_⟩⟩
        have s6' := (same_new (o := .tup [.int 0]) hu1).trans s6
        have nu1 := tb_off tb5 hu1
        have nq1 : ¬ B q1 := by
          rcases w1 with z | z
          · rw [z]
            exact nu1
          · exact tb_off (tb_upd tb5) z
        have dt1 : Dt B K H6 (.ref q1) (.tuple (List.replicate L.toNat (.int 0))) := by
          refine .tup nq1 hq1 ?_
          rw [List.flatten_replicate_singleton]
          exact DtAll.rep (.int 0) _
        refine ⟨by show 1 ≤ sizeLine; decide, fun u2 hu2 => ?_⟩
        have s7 := same_new (o := .tup [.ref q1]) hu2
        have tb6 := tb_same s6' tb5
        have dt2 : Dt B K (upd H6 u2 (.tup [.ref q1])) (.ref u2) (.tuple [.tuple (List.replicate L.toNat (.int 0))]) := .tup (tb_off tb6 hu2) (.inl upd_same) (.cons (same_dt s7 dt1) .nil)
        have tb7 : TB B (upd H6 u2 (.tup [.ref q1])) := tb_upd tb6
        have s57 := s6'.trans s7
        generalize upd H6 u2 (.tup [.ref q1]) = H7 at *
        refine ⟨_, rfl, L, rfl, "abc", rfl, by show 3 ≤ sizeLine; decide, abcS L, rfl, sz_of (by omega), fun p3 H8 s8 np3 lp3 => ?_⟩
        have dt3 : Dt B K H8 (.ref p3) (.tuple ((abcS L).cps.toList.map fun x => .str ⟨#[x]⟩)) := by
          refine .tup (tb_off tb7 np3) (.inl lp3) ?_
          generalize (abcS L).cps.toList = cs
          induction cs with
          | nil => exact .nil
          | cons x cs ih => exact .cons (.str _) ih
        refine ⟨by show 1 ≤ sizeLine; decide, fun u4 hu4 => ?_⟩
        have tb8 := tb_same s8 tb7
        have s9 := same_new (o := .tup [.ref p3]) hu4
        have dt4' : Dt B K (upd H8 u4 (.tup [.ref p3])) (.ref u4) (.tuple [.tuple ((abcS L).cps.toList.map fun x => .str ⟨#[x]⟩)]) := .tup (tb_off tb8 hu4) (.inl upd_same) (.cons (same_dt s9 dt3) .nil)
        have dt2' := same_dt (s8.trans s9) dt2
        have tb9 : TB B (upd H8 u4 (.tup [.ref p3])) := tb_upd tb8
        have s59 := s57.trans (s8.trans s9)
        generalize upd H8 u4 (.tup [.ref p3]) = H9 at *
        refine ⟨by show 3 ≤ sizeLine; decide, fun u5 hu5 => ?_⟩
        have s10 := same_new (o := .tup [.str "pass", .ref u2, .ref u4]) hu5
        have ncs : ∀ cs : List Nat, nodesAll (cs.map fun x => PyData.str ⟨#[x]⟩) = 2 * cs.length := fun cs => by
          induction cs with
          | nil => rfl
          | cons x cs ih =>
            rw [List.map_cons, nodesAll_cons, ih, nodes, List.length_cons]
            show 1 + 1 + 2 * cs.length = _
            omega
        have nrp : ∀ m : Nat, nodesAll (List.replicate m (.int 0)) = m := fun m => by
          induction m with
          | zero => rfl
          | succ m ih =>
            rw [List.replicate_succ, nodesAll_cons, ih, nodes]
            omega
        refine k _ cells4 n4 _ (.tuple [.str "pass", .tuple [.tuple (List.replicate L.toNat (.int 0))], .tuple [.tuple ((abcS L).cps.toList.map fun x => .str ⟨#[x]⟩)]]) (deck_same (s59.trans s10) dk5) a4 (by omega) (k05.trans (Keep.same (s59.trans s10))) (.tup (tb_off tb9 hu5) (.inl upd_same) (.cons (.str _) (.cons (same_dt s10 dt2') (.cons (same_dt s10 dt4') .nil)))) ?_ ⟨"pass", _, rfl, fun e => absurd e (by decide +kernel)⟩
        have el : (abcS L).cps.toList.length = (abcS L).length := Array.length_toList
        rw [nodes_tup, nodesAll_cons, nodesAll_cons, nodesAll_cons, nodesAll_nil, nodes_tup, nodes_tup, nodesAll_cons, nodesAll_cons, nodesAll_nil, nodes_tup, nodes_tup, ncs, nrp, nodes, el]
        have e4 : ("pass" : Str).length = 4 := rfl
        rw [e4]
        omega
      · refine ⟨_, rfl, pf, vs, rfl, .inl ⟨SqL.of lf5, fun q hq => ⟨by show 2 ≤ sizeLine; decide, fun u hu => ?_⟩⟩⟩
        have dq : Dt B K (upd H5 q (.tup vs)) (.ref q) (.tuple ds) := (mk_tupB tb5 hq (DtAll.weak (fun b z => .inl (.inl z)) _ _ dt5)).1
        have sq := same_new (o := .tup vs) hq
        have su := same_new (o := .tup [.str "swap", .ref q]) hu
        refine k _ cells4 n4 _ (.tuple [.str "swap", .tuple ds]) (deck_same (sq.trans su) dk5) a4 (by omega) (k05.trans (Keep.same (sq.trans su))) (.tup (tb_off (tb_upd tb5) hu) (.inl upd_same) (.cons (.str _) (.cons (same_dt su dq) .nil))) ?_ ⟨"swap", _, rfl, fun e => absurd e (by decide +kernel)⟩
        have n1' := nodes_all dn4
        have n2' := dt5.len
        have e4 : ("swap" : Str).length = 4 := rfl
        rw [nodes_tup, nodesAll_cons, nodesAll_cons, nodesAll_nil, nodes_tup, nodes, e4]
        omega
end
section
variable {P : Program} {w : World} {K : PySem.W.Frag} {mg : Str → Option Value} {base : Heap}
def rTup (K : PySem.W.Frag) : List V → Hp → VK → Prop := fun xs H Q => ∃ p ys, xs = [.ref p] ∧ ((SqL K H p ys ∧ ∀ l, H l = none → Q (.ref l) (upd H l (.tup ys))) ∨ (SqT K H p ys ∧ Q (.ref p) H))
theorem nodes_str (z : Str) : nodes (.str z) = 1 + z.length := by rw [nodes]
theorem nodes_int (i : Int) : nodes (.int i) = 1 := by rw [nodes]
def isNm (z : Str) : Prop := z = "cut" ∨ z = "stop" ∨ z = "pass" ∨ z = "swap"
theorem scStL : FnScope ["_law_deck_here", "_law_letters", "_law_word", "_law_unit", "_law_letter", "_law_turns", "_law_rows", "_law_turn", "_law_outs"] ["_law_deck_here", "_law_letters", "_law_word"] (defScope sStepL) := ⟨rfl, rfl, rfl, by decide +kernel, rfl, by decide +kernel, by decide +kernel⟩
theorem ok_stepL {f fD fO fS : Addr} {fd fdD fdO fdS : FuncData} (F : Fun K "_law_step" "_law_step" sStepL f fd)
    (D : FnOk P w K mg base CX0 1 fD fdD ["_law_deck_here", "_law_most"] spDraw) (FD : Fun K "_law_draw" "_law_draw" sDraw fD fdD) (bD : Binds K fdD ["_law_deck_here", "_law_most"] []) (gD : mg "_law_draw" = some (.ref fD))
    (O : FnOk P w K mg base CX0 2 fO fdO ["_law_deck_here", "_law_items"] (spOne K)) (FO : Fun K "_law_one" "_law_one" sOne fO fdO) (bO : Binds K fdO ["_law_deck_here", "_law_items"] []) (gO : mg "_law_one" = some (.ref fO))
    (Y : FnOk P w K mg base CX0 2 fO fdO ["_law_deck_here", "_law_items"] spOneS) (FY : Fun K "_law_one" "_law_one" sOne fO fdO) (bY : Binds K fdO ["_law_deck_here", "_law_items"] []) (gY : mg "_law_one" = some (.ref fO))
    (S : FnOk P w K mg base CX0 3 fS fdS ["_law_deck_here", "_law_letters"] (spDrawn 40 100 K fun a vs L => vs = [a, .int L])) (FS : Fun K "_law_swap" "_law_swap" sSwapL fS fdS) (bS : Binds K fdS ["_law_deck_here", "_law_letters"] []) (gS : mg "_law_swap" = some (.ref fS)) (T : Mg mg) :
    FnOk P w K mg base CX0 4 f fd ["_law_deck_here", "_law_letters", "_law_word"] (spDrawn 100 100 K fun a vs L => ∃ z, vs = [a, .int L, .str z] ∧ isNm z) := by
  refine F.ok scStL (fun vs H Q E h => ?_) (fun cdv A outer s H vs Q E hr h => ?_)
  · obtain ⟨B, a, c, cells, n, L, ⟨z, rfl, _⟩, _⟩ := h
    rfl
  · obtain ⟨B, a, c, cells, n, L, ⟨z, rfl, hw⟩, hB, tb, dk, n0, n1, L1, L3, k⟩ := h
    obtain ⟨ab1, ab3⟩ := abc_len L1 L3
    refine ⟨_, pss_cons (ps_if (pt_cmpR op_eq (pv 2) pe_str (nomark _)) (pss_cons (ps_set (i := 3) scStL.nd rfl (.inl rfl) (pe_callTy (r := rTup K) call_tuple_of (by rfl) T.tuple PyProof.Rows.boot_tuple (pa_cons (pe_lc (own := [("_law_letter", 4)]) (g := gName 4) (tt := tYes) rfl scStL.nd (pi_range1 (by rfl) T.range (pa_cons (pv 1) pa_nil)) (blkOk_by (N := ["_law_deck_here", "_law_letters", "_law_word", "_law_unit", "_law_letter", "_law_turns", "_law_rows", "_law_turn", "_law_outs"]) (sc := defScope sStepL) (by decide +kernel)) (fun _ _ _ _ _ => pg_name (i := 4) scStL.nd rfl (Or.inl rfl)) (fun _ _ _ _ _ => pts_nil) (fun _ _ _ _ _ => (pe_call O (hr.mono (by decide)) (by rfl) gO FO.kp bO .nil pass0 (pa_cons (pv 0) (pa_cons (pe_lstA (pa_cons pe_int (pa_cons pe_int (pa_cons pe_int (pa_cons pe_int (pa_cons (pe_call D (hr.mono (by decide)) (by rfl) gD FD.kp bD .nil pass0 (pa_cons (pv 0) (pa_cons pe_int pa_nil))) pa_nil)))))) pa_nil))))) pa_nil)))
      (pss_one (ps_ret (pe_tup (pa_cons pe_str (pa_cons (pv 3) (pa_cons (pe_call O (hr.mono (by decide)) (by rfl) gO FO.kp bO .nil pass0 (pa_cons (pv 0) (pa_cons (pe_lstA (pa_cons (pe_call D (hr.mono (by decide)) (by rfl) gD FD.kp bD .nil pass0 (pa_cons (pv 0) (pa_cons pe_int pa_nil))) (pa_cons (pe_call D (hr.mono (by decide)) (by rfl) gD FD.kp bD .nil pass0 (pa_cons (pv 0) (pa_cons pe_int pa_nil))) pa_nil))) pa_nil))) pa_nil))))))) pss_nil)
      (pss_cons (ps_if (pt_cmpR op_eq (pv 2) pe_str (nomark _)) (pss_one (ps_ret (pe_tup (pa_cons pe_str (pa_cons (pe_ix ix_str pe_str (pe_call D (hr.mono (by decide)) (by rfl) gD FD.kp bD .nil pass0 (pa_cons (pv 0) (pa_cons (pv 1) pa_nil))) (fun _ _ => rfl)) pa_nil))))) pss_nil)
      (pss_cons (ps_if (pt_cmpR op_eq (pv 2) pe_str (nomark _)) (pss_one (ps_ret (pe_call S (hr.mono (by decide)) (by rfl) gS FS.kp bS .nil pass0 (pa_cons (pv 0) (pa_cons (pv 1) pa_nil))))) pss_nil)
      (pss_cons (ps_set (i := 5) scStL.nd rfl (.inr rfl) (pe_op op_add pe_int (pe_call D (hr.mono (by decide)) (by rfl) gD FD.kp bD .nil pass0 (pa_cons (pv 0) (pa_cons (pe_call O (hr.mono (by decide)) (by rfl) gO FO.kp bO .nil pass0 (pa_cons (pv 0) (pa_cons (pe_lstA (pa_cons pe_int (pa_cons pe_int (pa_cons pe_int pa_nil)))) pa_nil))) pa_nil)))))
      (pss_cons (ps_setLc (i := 6) (own := [("_law_turn", 7)]) (g := gName 7) (tt := tYes) rfl scStL.nd rfl rfl (sw_true rfl rfl rfl (by decide +kernel)) (pi_range1 (by rfl) T.range (pa_cons (pv 5) pa_nil)) (blkOk_by (N := ["_law_deck_here", "_law_letters", "_law_word", "_law_unit", "_law_letter", "_law_turns", "_law_rows", "_law_turn", "_law_outs"]) (sc := defScope sStepL) (by decide +kernel)) (fun _ _ _ _ _ => pg_name (i := 7) scStL.nd rfl (Or.inl rfl)) (fun _ _ _ _ _ => pts_nil) (fun _ _ _ _ _ => (pe_callTy (r := rTup K) call_tuple_of (by rfl) T.tuple PyProof.Rows.boot_tuple (pa_cons (pe_lc (own := [("_law_letter", 4)]) (g := gName 4) (tt := tYes) rfl scStL.nd (pi_range1 (by rfl) T.range (pa_cons (pv 1) pa_nil)) (blkOk_by (by kernel_rfl)) (fun _ _ _ _ _ => pg_name (i := 4) scStL.nd rfl (Or.inl rfl)) (fun _ _ _ _ _ => pts_nil) (fun _ _ _ _ _ => (pe_call D (hr.mono (by decide)) (by rfl) gD FD.kp bD .nil pass0 (pa_cons (pv 0) (pa_cons (pv 5) pa_nil))))) pa_nil))))
      (pss_cons (ps_setLc (i := 8) (own := [("_law_turn", 7)]) (g := gName 7) (tt := tYes) rfl scStL.nd rfl rfl (sw_true rfl rfl rfl (by decide +kernel)) (pi_range1 (by rfl) T.range (pa_cons (pv 5) pa_nil)) (blkOk_by (N := ["_law_deck_here", "_law_letters", "_law_word", "_law_unit", "_law_letter", "_law_turns", "_law_rows", "_law_turn", "_law_outs"]) (sc := defScope sStepL) (by decide +kernel)) (fun _ _ _ _ _ => pg_name (i := 7) scStL.nd rfl (Or.inl rfl)) (fun _ _ _ _ _ => pts_nil) (fun _ _ _ _ _ => (pe_callTy (r := rTup K) call_tuple_of (by rfl) T.tuple PyProof.Rows.boot_tuple (pa_cons (pe_lc (own := [("_law_letter", 4)]) (g := gName 4) (tt := tYes) rfl scStL.nd (pi_range1 (by rfl) T.range (pa_cons (pv 1) pa_nil)) (blkOk_by (by kernel_rfl)) (fun _ _ _ _ _ => pg_name (i := 4) scStL.nd rfl (Or.inl rfl)) (fun _ _ _ _ _ => pts_nil) (fun _ _ _ _ _ => (pe_call Y (hr.mono (by decide)) (by rfl) gY FY.kp bY .nil pass0 (pa_cons (pv 0) (pa_cons (pe_slice sl_str pe_str po_none (po_some (pv 1))) pa_nil))))) pa_nil))))
      (pss_one (ps_ret (pe_tup (pa_cons pe_str (pa_cons (pe_callTy call_tuple_of (by rfl) T.tuple PyProof.Rows.boot_tuple (pa_cons (pv 6) pa_nil)) (pa_cons (pe_callTy call_tuple_of (by rfl) T.tuple PyProof.Rows.boot_tuple (pa_cons (pv 8) pa_nil)) pa_nil))))))))))), ?_⟩
    rcases hw with rfl | rfl | rfl | rfl
    -- cut
    · refine ⟨_, rfl, rfl, _, rfl, ite2 (fun _ => ?_) (fun z => absurd (decide_eq_true rfl) z)⟩
      refine ⟨_, rfl, L, rfl, by omega, by omega, fun D1 hD1 => ?_⟩
      refine lc_range (lo := 0) (n := L.toNat) (LInv K B a c D1 H n 2 1) (linv_start dk hD1) ?_ ?_
      · rintro j H1 hj ⟨cells1, n1', vs, ds, dk1, a1, b1, k1, lD, hl, ha, hN⟩
        refine ⟨rfl, _, rfl, _, rfl, a, c, cells1, n1', 10, rfl, dk1, by decide, by decide, by omega, by omega, fun H2 cells2 r r0 r1 dk2 k2 => ?_⟩
        refine ⟨by show 5 ≤ sizeLine; decide, fun p3 G3 s3 np3 _ lp3 => ?_⟩
        refine ⟨a, c, p3, cells2, n1' + 1, _, rfl, deck_same s3 dk2, by omega, by omega, SqL.of lp3, deck_off dk2 np3, List.cons_ne_nil _ _, (by show 5 ≤ 1000; decide), fun H4 cells4 x hx dk4 k4 => ?_⟩
        obtain ⟨x0, rfl⟩ : ∃ x0 : Int, x = .int x0 := by
          simp only [List.mem_cons, List.not_mem_nil, or_false] at hx
          rcases hx with hx | hx | hx | hx | hx <;> exact ⟨_, hx⟩
        exact linv_step hB hD1 (deck_off dk hD1) (by omega) a1 b1 k1 lD hl ha hN dk4 (k2.trans ((Keep.same s3).trans k4)) (by omega) (by omega) (.int x0) (by rw [nodes]; decide)
      · rintro H1 ⟨cells1, n1', vs, ds, dk1, a1, b1, k1, lD, hl, ha, hN⟩
        have tb1 := tb_keep tb dk1 k1
        refine ⟨D1, vs, rfl, .inl ⟨SqL.of lD, fun q hq => ?_⟩⟩
        have dq := dt_tup tb1 hq ha
        have sq := same_new (o := .tup vs) hq
        have dk1' := deck_new (o := .tup vs) dk1 hq
        have k1' : Keep (Bd a c) H (upd H1 q (.tup vs)) := k1.trans (Keep.same sq)
        have tb1' : TB B (upd H1 q (.tup vs)) := tb_upd tb1
        generalize upd H1 q (.tup vs) = H2 at *
        have nd : nodes (.tuple ds) ≤ 4 := by
          have e1 := nodes_all hN
          have e2 := ha.len
          rw [nodes_tup]
          omega
        refine ⟨_, rfl, _, rfl, _, rfl, a, c, cells1, n1', 5, rfl, dk1', by decide, by decide, by omega, by omega, fun H3 cells3 r r0 r1 dk3 k3 => ?_⟩
        refine ⟨_, rfl, a, c, cells3, n1' + 1, 31, rfl, dk3, by decide, by decide, by omega, by omega, fun H4 cells4 t t0 t1 dk4 k4 => ?_⟩
        refine ⟨by show 2 ≤ sizeLine; decide, fun p5 G5 s5 np5 _ lp5 => ?_⟩
        refine ⟨a, c, p5, cells4, n1' + 1 + 1, _, rfl, deck_same s5 dk4, by omega, by omega, SqL.of lp5, deck_off dk4 np5, List.cons_ne_nil _ _, (by show 2 ≤ 1000; decide), fun H6 cells6 x hx dk6 k6 => ?_⟩
        obtain ⟨x0, rfl, x1, x2⟩ : ∃ x0 : Int, x = .int x0 ∧ 0 ≤ x0 ∧ x0 ≤ 30 := by
          simp only [List.mem_cons, List.not_mem_nil, or_false] at hx
          rcases hx with hx | hx <;> exact ⟨_, hx, by omega, by omega⟩
        have k26 : Keep (Bd a c) H2 H6 := k3.trans (k4.trans ((Keep.same s5).trans k6))
        refine ⟨by show 3 ≤ sizeLine; decide, fun u hu => ?_⟩
        have su := same_new (o := .tup [.str "cut", .ref q, .int x0]) hu
        have tb6 := tb_keep tb1' dk6 k26
        refine k _ cells6 (n1' + 1 + 1 + 1) _ (.tuple [.str "cut", .tuple ds, .int x0]) (deck_same su dk6) (by omega) (by omega) ((k1'.trans k26).trans (Keep.same su)) (.tup (tb_off tb6 hu) (.inl upd_same) (.cons (.str _) (.cons (same_dt su (Dt.keep (k26.wide hB) _ _ dq)) (.cons (.int _) .nil)))) ?_ ⟨"cut", _, rfl, fun _ => ⟨_, _, rfl, x1, x2⟩⟩
        have e4 : ("cut" : Str).length = 3 := rfl
        rw [nodes_tup, nodesAll_cons, nodesAll_cons, nodesAll_cons, nodesAll_nil, nodes_str, nodes_int, e4]
        omega
    -- stop
    · refine ⟨_, rfl, rfl, _, rfl, ite2 (fun z => absurd (of_decide_eq_true z) (by decide +kernel)) (fun _ => ?_)⟩
      refine ⟨_, rfl, rfl, _, rfl, ite2 (fun _ => ?_) (fun z => absurd (decide_eq_true rfl) z)⟩
      refine ⟨_, rfl, _, rfl, a, c, cells, n, L, rfl, dk, by omega, by omega, n0, by omega, fun H1 cells1 r r0 r1 dk1 k1 => ?_⟩
      have hr3 : r.toNat < 3 := by omega
      obtain ⟨x, hx⟩ : ∃ x, atI ("abc" : Str).cps.toList r = some x := by
        have e : r = 0 ∨ r = 1 ∨ r = 2 := by omega
        rcases e with rfl | rfl | rfl <;> exact ⟨_, rfl⟩
      refine ⟨"abc", r, x, rfl, rfl, by show 3 ≤ sizeLine; decide, hx, by show 2 ≤ sizeLine; decide, fun u hu => ?_⟩
      have su := same_new (o := .tup [.str "stop", .str ⟨#[x]⟩]) hu
      refine k _ cells1 (n + 1) _ (.tuple [.str "stop", .str ⟨#[x]⟩]) (deck_same su dk1) (by omega) (by omega) (k1.trans (Keep.same su)) (.tup (tb_off (tb_keep tb dk1 k1) hu) (.inl upd_same) (.cons (.str _) (.cons (.str _) .nil))) ?_ ⟨"stop", _, rfl, fun e => absurd e (by decide +kernel)⟩
      rw [nodes_tup, nodesAll_cons, nodesAll_cons, nodesAll_nil, nodes, nodes]
      show 1 + (1 + 4 + (1 + 1 + 0)) ≤ 100
      decide
    -- pass
    · refine ⟨_, rfl, rfl, _, rfl, ite2 (fun z => absurd (of_decide_eq_true z) (by decide +kernel)) (fun _ => ?_)⟩
      refine ⟨_, rfl, rfl, _, rfl, ite2 (fun z => absurd (of_decide_eq_true z) (by decide +kernel)) (fun _ => ?_)⟩
      refine ⟨_, rfl, rfl, _, rfl, ite2 (fun z => absurd (of_decide_eq_true z) (by decide +kernel)) (fun _ => ?_)⟩
      refine ⟨_, rfl, _, rfl, by show 3 ≤ sizeLine; decide, fun p3 G3 s3 np3 _ lp3 => ?_⟩
      refine ⟨a, c, p3, cells, n, _, rfl, deck_same s3 dk, by omega, by omega, SqL.of lp3, deck_off dk np3, List.cons_ne_nil _ _, by decide, fun H4 cells4 x hx dk4 k4 => ?_⟩
      obtain ⟨m0, rfl, m1, m2⟩ : ∃ m0 : Int, x = .int m0 ∧ 1 ≤ m0 ∧ m0 ≤ 4 := by
        simp only [List.mem_cons, List.not_mem_nil, or_false] at hx
        rcases hx with hx | hx | hx <;> exact ⟨_, hx, by decide, by decide⟩
      refine ⟨a, c, cells4, n + 1, m0, rfl, dk4, by omega, by omega, by omega, by omega, fun H5 cells5 r r0 r1 dk5 k5 => ⟨1, r, rfl, rfl, ?_⟩⟩
      have k05 : Keep (Bd a c) H H5 := (Keep.same s3).trans (k4.trans k5)
      have tb5 := tb_keep tb dk5 k05
      refine ⟨_, rfl, 1 + r, rfl, by omega, by omega, fun D1 hD1 => ?_⟩
      refine lc_range (lo := 0) (n := (1 + r).toNat) (LInv K B a c D1 H5 (n + 2) 3 4) (linv_start (by rw [show n + 2 = n + 1 + 1 by omega]; exact dk5) hD1) ?_ ?_
      · rintro j H1 hj ⟨cells1, n1', vs, ds, dk1, a1, b1, k1, lD, hl, ha, hN⟩
        refine ⟨rfl, _, rfl, L, rfl, by omega, by omega, fun D2 hD2 => ?_⟩
        have tb1 := tb_bd tb5 dk1 k1 lD
        refine lc_range (lo := 0) (n := L.toNat) (LInv K (BD B D1) a c D2 H1 n1' 1 1) (linv_start dk1 hD2) ?_ ?_
        · rintro j2 H2 hj2 ⟨cells2, n2', vs2, ds2, dk2, a2, b2, k2, lD2, hl2, ha2, hN2⟩
          refine ⟨rfl, _, rfl, _, rfl, a, c, cells2, n2', 1 + r, rfl, dk2, by omega, by omega, by omega, by omega, fun H3 cells3 t t0 t1 dk3 k3 => ?_⟩
          exact linv_step (fun b z => .inl (hB b z)) hD2 (deck_off dk1 hD2) (by omega) a2 b2 k2 lD2 hl2 ha2 hN2 dk3 k3 (by omega) (by omega) (.int t) (by rw [nodes]; decide)
        · rintro H2 ⟨cells2, n2', vs2, ds2, dk2, a2, b2, k2, lD2, hl2, ha2, hN2⟩
          refine ⟨D2, vs2, rfl, .inl ⟨SqL.of lD2, fun q hq => ?_⟩⟩
          have tb2 := tb_keep tb1 dk2 k2
          have dq := dt_tup tb2 hq ha2
          have e1 := nodes_all hN2
          have e2 := ha2.len
          exact linv_step hB hD1 (deck_off dk5 hD1) (by omega) a1 b1 k1 lD hl ha hN (deck_new dk2 hq) (k2.trans (Keep.same (same_new hq))) (by omega) (by omega) dq (by rw [nodes_tup]; omega)
      · rintro H6 ⟨cells6, n6, vs6, ds6, dk6, a6, b6, k6, l6, hl6, ha6, hN6⟩
        have tb6 := tb_bd tb5 dk6 k6 l6
        have k06 := k05.trans k6
        refine ⟨_, rfl, 1 + r, rfl, by omega, by omega, fun D3 hD3 => ?_⟩
        refine lc_range (lo := 0) (n := (1 + r).toNat) (LInv K (BD B D1) a c D3 H6 n6 3 7) (linv_start dk6 hD3) ?_ ?_
        · rintro j H1 hj ⟨cells1, n1', vs, ds, dk1, a1, b1, k1, lD, hl, ha, hN⟩
          refine ⟨rfl, _, rfl, L, rfl, by omega, by omega, fun D2 hD2 => ?_⟩
          have tb1 := tb_bd tb6 dk1 k1 lD
          refine lc_range (lo := 0) (n := L.toNat) (LInv K (BD (BD B D1) D3) a c D2 H1 n1' 1 2) (linv_start dk1 hD2) ?_ ?_
          · rintro j2 H2 hj2 ⟨cells2, n2', vs2, ds2, dk2, a2, b2, k2, lD2, hl2, ha2, hN2⟩
            refine ⟨rfl, _, rfl, _, rfl, L, rfl, "abc", rfl, by show 3 ≤ sizeLine; decide, a, c, cells2, n2', abcS L, rfl, dk2, by omega, by omega, ab1, by omega, fun H3 cells3 t ht dk3 k3 => ?_⟩
            exact linv_step (fun b z => .inl (.inl (hB b z))) hD2 (deck_off dk1 hD2) (by omega) a2 b2 k2 lD2 hl2 ha2 hN2 dk3 k3 (by omega) (by omega) (.str _) (by rw [nodes]; exact Nat.le_refl 2)
          · rintro H2 ⟨cells2, n2', vs2, ds2, dk2, a2, b2, k2, lD2, hl2, ha2, hN2⟩
            refine ⟨D2, vs2, rfl, .inl ⟨SqL.of lD2, fun q hq => ?_⟩⟩
            have tb2 := tb_keep tb1 dk2 k2
            have dq := dt_tup tb2 hq ha2
            have e1 := nodes_all hN2
            have e2 := ha2.len
            exact linv_step (fun b z => .inl (hB b z)) hD3 (deck_off dk6 hD3) (by omega) a1 b1 k1 lD hl ha hN (deck_new dk2 hq) (k2.trans (Keep.same (same_new hq))) (by omega) (by omega) dq (by rw [nodes_tup]; omega)
        · rintro H7 ⟨cells7, n7, vs7, ds7, dk7, a7, b7, k7, l7, hl7, ha7, hN7⟩
          have tb7 := tb_bd tb6 dk7 k7 l7
          have l67 := k7 _ _ (deck_off dk5 hD1) l6
          have ha67 : DtAll (BD B D1) K H7 vs6 ds6 := DtAll.keep (k7.wide fun b z => .inl (hB b z)) _ _ ha6
          have tbB : TB B H7 := tb_keep tb dk7 (k06.trans k7)
          refine ⟨_, rfl, D1, vs6, rfl, .inl ⟨SqL.of l67, fun q1 hq1 => ?_⟩⟩
          have d1 : Dt B K (upd H7 q1 (.tup vs6)) (.ref q1) (.tuple ds6) := (mk_tupB tbB hq1 (DtAll.weak (fun b z => .inl z) _ _ ha67)).1
          have s8 := same_new (o := .tup vs6) hq1
          have l78 := s8 _ _ l7
          have ha78 := same_all s8 ha7
          have tb8 : TB B (upd H7 q1 (.tup vs6)) := tb_upd tbB
          refine ⟨_, rfl, D3, vs7, rfl, .inl ⟨SqL.of l78, fun q2 hq2 => ⟨by show 3 ≤ sizeLine; decide, fun u hu => ?_⟩⟩⟩
          have d2 := (mk_tupB tb8 hq2 (DtAll.weak (fun b z => .inl (.inl z)) _ _ ha78)).1
          have s9 := same_new (o := .tup vs7) hq2
          have tb9 := tb_same s9 tb8
          have s10 := same_new (o := .tup [.str "pass", .ref q1, .ref q2]) hu
          have sA := s8.trans (s9.trans s10)
          refine k _ cells7 n7 _ (.tuple [.str "pass", .tuple ds6, .tuple ds7]) (deck_same sA dk7) (by omega) (by omega) ((k06.trans k7).trans (Keep.same sA)) (.tup (tb_off tb9 hu) (.inl upd_same) (.cons (.str _) (.cons (same_dt (s9.trans s10) d1) (.cons (same_dt s10 d2) .nil)))) ?_ ⟨"pass", _, rfl, fun e => absurd e (by decide +kernel)⟩
          have e1 := nodes_all hN6
          have e2 := ha6.len
          have e3 := nodes_all hN7
          have e5 := ha7.len
          have e4 : ("pass" : Str).length = 4 := rfl
          rw [nodes_tup, nodesAll_cons, nodesAll_cons, nodesAll_cons, nodesAll_nil, nodes_tup, nodes_tup, nodes, e4]
          omega
    -- swap
    · refine ⟨_, rfl, rfl, _, rfl, ite2 (fun z => absurd (of_decide_eq_true z) (by decide +kernel)) (fun _ => ?_)⟩
      refine ⟨_, rfl, rfl, _, rfl, ite2 (fun z => absurd (of_decide_eq_true z) (by decide +kernel)) (fun _ => ?_)⟩
      refine ⟨_, rfl, rfl, _, rfl, ite2 (fun _ => ?_) (fun z => absurd (decide_eq_true rfl) z)⟩
      exact ⟨_, rfl, _, rfl, B, a, c, cells, n, L, rfl, hB, tb, dk, n0, n1, L1, L3, fun H' cells' n' v d q1 q2 q3 q4 q5 q6 q7 => k H' cells' n' v d q1 q2 (by omega) q4 q5 q6 q7⟩
end
section
variable {P : Program} {w : World} {K : PySem.W.Frag} {mg : Str → Option Value} {base : Heap}
def spLineL (K : PySem.W.Frag) : Sp := fun vs H Q _ => ∃ (B : Addr → Prop) (a c : Addr) (cells : List Int) (n L : Int), vs = [.ref a, .int L, .int 3] ∧ (∀ b, Bd a c b → B b) ∧ TB B H ∧ DeckAt a c cells n H ∧ 0 ≤ n ∧ n ≤ 800000 ∧ 1 ≤ L ∧ L ≤ 3 ∧
  ∀ (H' : Hp) (cells' : List Int) (n' : Int) (v : V) (ds : List PyData), DeckAt a c cells' n' H' → n ≤ n' → n' ≤ n + 400 → Keep (Bd a c) H H' → Dt B K H' v (.tuple ds) → nodes (.tuple ds) ≤ 400 → Q v H'
theorem scLnL : FnScope ["_law_deck_here", "_law_letters", "_law_most", "_law_names", "_law_found", "_law_top", "_law_k", "_law_step_here"] ["_law_deck_here", "_law_letters", "_law_most"] (defScope sLineL) := ⟨rfl, rfl, rfl, by decide +kernel, rfl, by decide +kernel, by decide +kernel⟩
theorem ok_lineL {f fD fO fS : Addr} {fd fdD fdO fdS : FuncData} (F : Fun K "_law_line" "_law_line" sLineL f fd)
    (D : FnOk P w K mg base CX0 1 fD fdD ["_law_deck_here", "_law_most"] spDraw) (FD : Fun K "_law_draw" "_law_draw" sDraw fD fdD) (bD : Binds K fdD ["_law_deck_here", "_law_most"] []) (gD : mg "_law_draw" = some (.ref fD))
    (O : FnOk P w K mg base CX0 2 fO fdO ["_law_deck_here", "_law_items"] (spOne K)) (FO : Fun K "_law_one" "_law_one" sOne fO fdO) (bO : Binds K fdO ["_law_deck_here", "_law_items"] []) (gO : mg "_law_one" = some (.ref fO))
    (S : FnOk P w K mg base CX0 4 fS fdS ["_law_deck_here", "_law_letters", "_law_word"] (spDrawn 100 100 K fun a vs L => ∃ z, vs = [a, .int L, .str z] ∧ isNm z)) (FS : Fun K "_law_step" "_law_step" sStepL fS fdS) (bS : Binds K fdS ["_law_deck_here", "_law_letters", "_law_word"] []) (gS : mg "_law_step" = some (.ref fS)) (T : Mg mg) :
    FnOk P w K mg base CX0 5 f fd ["_law_deck_here", "_law_letters", "_law_most"] (spLineL K) := by
  refine F.ok scLnL (fun vs H Q E h => ?_) (fun cdv A outer s H vs Q E hr h => ?_)
  · obtain ⟨B, a, c, cells, n, L, rfl, _⟩ := h
    rfl
  · obtain ⟨B, a, c, cells, n, L, rfl, hB, tb, dk, n0, n1, L1, L3, k⟩ := h
    refine ⟨_, (pss_cons (ps_par3 (i := 3) (j := 4) (l := 5) rfl scLnL.nd rfl rfl rfl (by decide) (by decide) (by decide) rfl rfl rfl (pa_cons (pe_lstA (pa_cons pe_str (pa_cons pe_str (pa_cons pe_str (pa_cons pe_str (pa_cons pe_str (pa_cons pe_str pa_nil))))))) (pa_cons (pe_lstA pa_nil) (pa_cons pe_int pa_nil))) (by rfl))
      (pss_cons (ps_for PassesOwn.never rfl (pi_range1 (by rfl) T.range (pa_cons (pe_call D (hr.mono (by decide)) (by rfl) gD FD.kp bD .nil pass0 (pa_cons (pv 0) (pa_cons (pe_op op_add (pv 2) pe_int) pa_nil))) pa_nil)) (pg_name (i := 6) scLnL.nd rfl (.inl rfl)) (pss_cons (ps_set (i := 7) scLnL.nd rfl (.inl rfl) (pe_call S (hr.mono (by decide)) (by rfl) gS FS.kp bS .nil pass0 (pa_cons (pv 0) (pa_cons (pv 1) (pa_cons (pe_call O (hr.mono (by decide)) (by rfl) gO FO.kp bO .nil pass0 (pa_cons (pv 0) (pa_cons (pv 3) pa_nil))) pa_nil)))))
      (pss_cons (ps_expr (pe_bm PySem.F.plainAttrs_list PySem.F.slot_list_append PySem.F.type_list_append mt_append (pv 4) (pa_cons (pe_ifExp (pt_cmpR op_eq (pe_ix ix_tup (pv 7) pe_int (fun _ _ => rfl)) pe_str (nomark _)) (pe_op op_catS (pe_slice sl_tupS (pv 7) po_none (po_some pe_int)) (pe_tup (pa_cons (pe_op op_mod (pe_callTy call_int1 (by rfl) T.int (by decide +kernel) (pa_cons (pe_ix ix_tup (pv 7) pe_int (fun _ _ => rfl)) pa_nil)) (pv 5)) pa_nil))) (pv 7)) pa_nil)))
      (pss_one (ps_set (i := 5) scLnL.nd rfl (.inl rfl) (pe_ifExp (pt_cmpR op_eq (pe_ix ix_tup (pv 7) pe_int (fun _ _ => rfl)) pe_str (nomark _)) pe_int (pv 5)))))))
      (pss_one (ps_ret (pe_callTy call_tuple_of (by rfl) T.tuple PyProof.Rows.boot_tuple (pa_cons (pv 4) pa_nil)))))), ?_⟩
    refine ⟨by show 6 ≤ sizeLine; decide, fun pn G1 t1 nn _ ln => ⟨by show 0 ≤ sizeLine; decide, fun pf G2 t2 nf _ lf => ⟨_, _, _, rfl, ?_⟩⟩⟩
    have dk2 := deck_same (t1.trans t2) dk
    have ln2 := t2 _ _ ln
    have hf0 : H pf = none := t1.free nf
    have nBf : ¬ Bd a c pf := deck_off dk hf0
    have nBn : ¬ Bd a c pn := deck_off dk nn
    have nnf : pn ≠ pf := ne_of_none ln nf
    refine ⟨_, rfl, _, rfl, 3, 1, rfl, rfl, a, c, cells, n, 3 + 1, rfl, dk2, by decide, by decide, n0, by omega, fun H3 cells3 r r0 r4 dk3 k3 => ⟨r, rfl, by omega, by omega, ?_⟩⟩
    have k03 : Keep (Bd a c) H H3 := (Keep.same (t1.trans t2)).trans k3
    refine for_range (lo := 0) (n := r.toNat) (fun i σ H' => (∃ top y6 y7, σ = [some (.ref a), some (.int L), some (.int 3), some (.ref pn), some (.ref pf), some (.int top), y6, y7] ∧ 1 ≤ top ∧ top ≤ 31) ∧ ∃ (cells' : List Int) (n' : Int) (vs : List V) (ds : List PyData), DeckAt a c cells' n' H' ∧ n ≤ n' ∧ n' ≤ n + 1 + 101 * i ∧ Keep (Bd a c) H H' ∧ H' pn = some (.lst [V.str "cut", .str "stop", .str "pass", .str "pass", .str "swap", .str "swap"]) ∧ H' pf = some (.lst vs) ∧
        vs.length = i ∧ DtAll (BD B pf) K H' vs ds ∧ ∀ d ∈ ds, nodes d ≤ 100)
      ⟨⟨31, none, none, rfl, by decide, by decide⟩, cells3, n + 1, [], [], dk3, by omega, by omega, k03, k3 _ _ nBn ln2, k3 _ _ nBf lf, rfl, .nil, fun d z => absurd z List.not_mem_nil⟩ ?_ ?_
    · rintro i σ H4 hi ⟨⟨top, y6, y7, rfl, tp1, tp2⟩, cells4, n4, vs, ds, dk4, a4, b4, k04, ln4, lf4, lv4, dt4, dn4⟩
      refine ⟨_, rfl, _, rfl, _, rfl, _, rfl, a, c, pn, cells4, n4, _, rfl, dk4, by omega, by omega, SqL.of ln4, nBn, List.cons_ne_nil _ _, by decide, fun H5 cells5 x hx dk5 k5 => ?_⟩
      obtain ⟨z, rfl, hz⟩ : ∃ z : Str, x = .str z ∧ isNm z := by
        simp only [List.mem_cons, List.not_mem_nil, or_false] at hx
        rcases hx with hx | hx | hx | hx | hx | hx
        · exact ⟨_, hx, .inl rfl⟩
        · exact ⟨_, hx, .inr (.inl rfl)⟩
        · exact ⟨_, hx, .inr (.inr (.inl rfl))⟩
        · exact ⟨_, hx, .inr (.inr (.inl rfl))⟩
        · exact ⟨_, hx, .inr (.inr (.inr rfl))⟩
        · exact ⟨_, hx, .inr (.inr (.inr rfl))⟩
      have hB2 : ∀ b, Bd a c b → BD B pf b := fun b z => .inl (hB b z)
      have tb5 := tb_bd tb dk5 (k04.trans k5) (k5 _ _ nBf lf4)
      refine ⟨BD B pf, a, c, cells5, n4 + 1, L, ⟨z, rfl, hz⟩, hB2, tb5, dk5, by omega, by omega, L1, L3, fun H6 cells6 n6 v d dk6 a6 b6 k6 dv nd ⟨s, rr, e1, e2⟩ => ?_⟩
      subst e1
      have k46 := k5.trans k6
      have k06 := k04.trans k46
      have ln6 := k46 _ _ nBn ln4
      have lf6 := k46 _ _ nBf lf4
      have dt6 := DtAll.keep (k46.wide hB2) _ _ dt4
      have tb6 := tb_bd tb dk6 k06 lf6
      obtain ⟨q, xs, rfl, nq, hq, hxs, lxs⟩ := dv.tup_rd
      obtain ⟨xr, rfl⟩ : ∃ xr, xs = .str s :: xr := by
        cases hxs with
        | cons g1 g =>
          cases g1
          exact ⟨_, rfl⟩
      -- what is kept at the end of a turn
      have fin : ∀ (H7 : Hp) (u : V) (e : PyData) (tp : Int), Same H6 H7 → Dt (BD B pf) K H7 u e → nodes e ≤ 100 → 1 ≤ tp → tp ≤ 31 → (∃ top y6 y7, [some (V.ref a), some (.int L), some (.int 3), some (.ref pn), some (.ref pf), some (.int tp), some (.int (0 + (i : Int))), some (.ref q)] = [some (V.ref a), some (.int L), some (.int 3), some (.ref pn), some (.ref pf), some (.int top), y6, y7] ∧ 1 ≤ top ∧ top ≤ 31) ∧
          ∃ (cells' : List Int) (n' : Int) (vs' : List V) (ds' : List PyData), DeckAt a c cells' n' (upd H7 pf (.lst (vs ++ [u]))) ∧ n ≤ n' ∧ n' ≤ n + 1 + 101 * ((i + 1 : Nat) : Int) ∧ Keep (Bd a c) H (upd H7 pf (.lst (vs ++ [u]))) ∧ (upd H7 pf (.lst (vs ++ [u]))) pn = some (.lst [V.str "cut", .str "stop", .str "pass", .str "pass", .str "swap", .str "swap"]) ∧ (upd H7 pf (.lst (vs ++ [u]))) pf = some (.lst vs') ∧
          vs'.length = i + 1 ∧ DtAll (BD B pf) K (upd H7 pf (.lst (vs ++ [u]))) vs' ds' ∧ ∀ d ∈ ds', nodes d ≤ 100 := fun H7 u e tp s7 du ne p1 p2 => by
        have ks : Keep (BD B pf) H7 (upd H7 pf (.lst (vs ++ [u]))) := keep_store (.inr rfl)
        refine ⟨⟨tp, _, _, rfl, p1, p2⟩, cells6, n6, vs ++ [u], ds ++ [e], deck_upd (deck_same s7 dk6) nBf, by omega, by omega, fun b o nb g => ?_, ?_, upd_same, by rw [List.length_append, lv4]; rfl, (DtAll.keep ks _ _ (same_all s7 dt6)).append (.cons (Dt.keep ks _ _ du) .nil), fun x hx => ?_⟩
        · rw [upd_ne (ne_of_none g hf0)]
          exact s7 _ _ (k06 _ _ nb g)
        · rw [upd_ne nnf]
          exact s7 _ _ ln6
        · rcases List.mem_append.mp hx with hx | hx
          · exact dn4 x hx
          · rw [List.mem_singleton.mp hx]
            exact ne
      refine ⟨_, rfl, .inl ⟨rfl, _, SqL.of lf6⟩, ?_⟩
      refine ⟨_, rfl, q, _, 0, .str s, rfl, rfl, .inl hq, atI_nat (j := 0) rfl, rfl, _, rfl, ite2 (fun c1 => ?_) (fun c1 => ?_)⟩
      · have es : s = "cut" := V.str.inj (of_decide_eq_true c1)
        obtain ⟨um, m, e3, m0, m1⟩ := e2 es
        subst e3
        obtain ⟨v1, rfl⟩ : ∃ v1, xr = [v1, .int m] := by
          cases hxs with
          | cons g1 g =>
            cases g with
            | cons g2 g =>
              cases g with
              | cons g3 g =>
                cases g3
                cases g
                exact ⟨_, rfl⟩
        refine ⟨_, rfl, 2, rfl, q, _, rfl, hq, fun q2 H7 s7 hc2 w2 => ?_⟩
        have e7 : cutV [.str s, v1, .int m] none (some 2) = [.str s, v1] := cut_take _ 2 (by show 2 ≤ 3; decide)
        rw [e7] at hc2
        refine ⟨_, rfl, q, _, 2, .int m, rfl, rfl, .inl (same_rd s7 hq), atI_nat (j := 2) rfl, .inl ⟨m, rfl, _, rfl, m, top, rfl, rfl, by omega, by show 1 ≤ sizeLine; decide, fun u8 hu8 => ?_⟩⟩
        have s8 := same_new (o := .tup [.int (m % top)]) hu8
        refine ⟨q2, u8, _, _, rfl, rfl, same_rd s8 hc2, .inl upd_same, by show 2 + 1 ≤ sizeLine; decide, fun q9 H9 s9 hq9 w9 => ?_⟩
        have s69 := s7.trans (s8.trans s9)
        have nq2 : ¬ BD B pf q2 := nb_of tb6 nq w2
        have tb7 := tb_same s7 tb6
        have nu8 := tb_off tb7 hu8
        have nq9 : ¬ BD B pf q9 := nb_of2 (tb_upd tb7) nq2 nu8 w9
        have d9 : Dt (BD B pf) K H9 (.ref q9) (.tuple [.str s, um, .int (m % top)]) := by
          cases hxs with
          | cons g1 g =>
            cases g with
            | cons g2 g => exact .tup nq9 hq9 (.cons (.str s) (.cons (same_dt s69 g2) (.cons (.int _) .nil)))
        have n9 : nodes (.tuple [.str s, um, .int (m % top)]) ≤ 100 := by
          rw [nodes_tup, nodesAll_cons, nodesAll_cons, nodesAll_cons, nodesAll_nil, nodes_int] at nd ⊢
          exact nd
        have lf9 := s69 _ _ lf6
        refine ⟨pf, vs, _, rfl, rfl, lf9, small1000 (by omega), ?_⟩
        have hq10 : Rd (upd H9 pf (.lst (vs ++ [.ref q9]))) q (.tup [.str s, v1, .int m]) := (keep_store (.inr rfl) : Keep (BD B pf) H9 _).rd nq (same_rd s69 hq)
        refine ⟨_, rfl, q, _, 0, .str s, rfl, rfl, .inl hq10, atI_nat (j := 0) rfl, rfl, _, rfl, ite2 (fun c2 => ?_) (fun c2 => absurd c1 c2)⟩
        exact fin H9 _ _ 7 s69 d9 n9 (by decide) (by decide)
      · refine ⟨_, rfl, pf, vs, _, rfl, rfl, lf6, small1000 (by omega), ?_⟩
        have hq10 : Rd (upd H6 pf (.lst (vs ++ [.ref q]))) q (.tup (.str s :: xr)) := (keep_store (.inr rfl) : Keep (BD B pf) H6 _).rd nq hq
        refine ⟨_, rfl, q, _, 0, .str s, rfl, rfl, .inl hq10, atI_nat (j := 0) rfl, rfl, _, rfl, ite2 (fun c2 => absurd c2 c1) (fun c2 => ?_)⟩
        exact ⟨_, rfl, fin H6 _ _ top (Same.refl H6) dv nd tp1 tp2⟩
    · rintro σ H4 ⟨⟨top, y6, y7, rfl, tp1, tp2⟩, cells4, n4, vs, ds, dk4, a4, b4, k04, ln4, lf4, lv4, dt4, dn4⟩
      have tb4 := tb_keep tb dk4 k04
      refine ⟨_, rfl, pf, vs, rfl, .inl ⟨SqL.of lf4, fun q hq => ?_⟩⟩
      have dq := dt_tup tb4 hq dt4
      have e1 := nodes_all dn4
      have e2 := dt4.len
      have sq := same_new (o := .tup vs) hq
      exact k _ cells4 n4 _ ds (deck_same sq dk4) a4 (by omega) (k04.trans (Keep.same sq)) dq (by rw [nodes_tup]; omega)
end
/-! ### what stands while the law goes on -/
structure Stb (K : PySem.W.Frag) (B : Addr → Prop) (a c : Addr) (cells : List Int) (n : Int) (v : V) (ds : List PyData) (vals : List V) (H : Hp) : Prop where
  tb : TB B H
  hB : ∀ b, Bd a c b → B b
  dk : DeckAt a c cells n H
  ln : Dt B K H v (.tuple ds)
  nl : nodes (.tuple ds) ≤ 400
  vs : ∀ u ∈ vals, ∃ d, Dt B K H u d ∧ nodes d ≤ 40000
section
variable {K : PySem.W.Frag} {B : Addr → Prop} {a c p : Addr} {cells : List Int} {n : Int} {v : V} {ds : List PyData} {vals : List V} {H H' : Hp} {o : HO}
theorem Stb.keepB {cells' : List Int} {n' : Int} (b : Stb K B a c cells n v ds vals H) (k : Keep B H H') (tb : TB B H') (dk : DeckAt a c cells' n' H') : Stb K B a c cells' n' v ds vals H' :=
  ⟨tb, b.hB, dk, Dt.keep k _ _ b.ln, b.nl, fun u hu => by
    obtain ⟨d, h1, h2⟩ := b.vs u hu
    exact ⟨d, Dt.keep k _ _ h1, h2⟩⟩
theorem Stb.same (b : Stb K B a c cells n v ds vals H) (s : Same H H') : Stb K B a c cells n v ds vals H' := b.keepB (Keep.same s) (tb_same s b.tb) (deck_same s b.dk)
theorem Stb.drawn {cells' : List Int} {n' : Int} (b : Stb K B a c cells n v ds vals H) (dk : DeckAt a c cells' n' H') (k : Keep (Bd a c) H H') : Stb K B a c cells' n' v ds vals H' := b.keepB (k.wide b.hB) (tb_keep b.tb dk k) dk
theorem Stb.add {u : V} {d : PyData} (b : Stb K B a c cells n v ds vals H) (h : Dt B K H u d) (h1 : nodes d ≤ 40000) : Stb K B a c cells n v ds (vals ++ [u]) H :=
  ⟨b.tb, b.hB, b.dk, b.ln, b.nl, fun x hx => by
    rcases List.mem_append.mp hx with hx | hx
    · exact b.vs x hx
    · rw [List.mem_singleton.mp hx]
      exact ⟨d, h, h1⟩⟩
theorem Stb.off (o : HO) (b : Stb K B a c cells n v ds vals H) (h : H p = none) : Stb K (fun b => B b ∨ b = p) a c cells n v ds vals (upd H p o) := by
  have tb0 : TB (fun b => B b ∨ b = p) (upd H p o) := fun x z e => by
    rcases z with z | z
    · exact tb_upd b.tb x z e
    · rw [z, upd_same] at e
      cases e
  have s := same_new (o := o) h
  refine ⟨tb0, fun x z => .inl (b.hB x z), deck_same s b.dk, same_dt s (Dt.off h _ _ b.ln), b.nl, fun u hu => ?_⟩
  obtain ⟨d, h1, h2⟩ := b.vs u hu
  exact ⟨d, same_dt s (Dt.off h _ _ h1), h2⟩
theorem Stb.store (o : HO) (b : Stb K B a c cells n v ds vals H) (hp : B p) (np : ¬ Bd a c p) : Stb K B a c cells n v ds vals (upd H p o) := b.keepB (keep_store hp) (tb_upd b.tb) (deck_upd b.dk np)
end
def bn (j : Nat) : Nat := if j % 3 = 0 then 3240 else if j % 3 = 1 then 810 else 1620
theorem bn_le (j : Nat) : bn j ≤ 3240 := by
  unfold bn
  split
  · omega
  · split <;> omega
theorem bn_step {j : Nat} (h : j % 3 ≠ 0) : bn (j + 1) = 2 * bn j := by
  have e : j % 3 = 1 ∨ j % 3 = 2 := by omega
  unfold bn
  rcases e with e | e
  · rw [e, show (j + 1) % 3 = 2 by omega]
    rfl
  · rw [e, show (j + 1) % 3 = 0 by omega]
    rfl
theorem bn_one {j : Nat} (h : j % 3 = 0) : bn (j + 1) = 810 := by
  unfold bn
  rw [show (j + 1) % 3 = 1 by omega]
  rfl
theorem fb_lt {L : Int} : ∀ {ds : List PyData} {k m : Nat}, firstBad L ds k = some m → m < k + ds.length
  | [], _, _, h => by cases h
  | d :: ds, k, m, h => by
    unfold firstBad at h
    rw [List.length_cons]
    split at h
    · have := fb_lt h
      omega
    · cases h
      omega
theorem lineE_in (L : Int) (d : PyData) (hn : nodes d ≤ 100000) : lineE L d = none ∨ lineE L d = some (none, ("line" : Str)) ∨ lineE L d = some (none, ("many" : Str)) ∨ ∃ m : Nat, m ≤ 100000 ∧ lineE L d = some (some m, ("step" : Str)) := by
  cases d with
  | tuple ds =>
    show (match firstBad L ds 0 with | some k => some (some k, ("step" : Str)) | none => if ds.length ≤ 3 then none else some (none, ("many" : Str))) = none ∨ (match firstBad L ds 0 with | some k => some (some k, ("step" : Str)) | none => if ds.length ≤ 3 then none else some (none, ("many" : Str))) = _ ∨ (match firstBad L ds 0 with | some k => some (some k, ("step" : Str)) | none => if ds.length ≤ 3 then none else some (none, ("many" : Str))) = _ ∨ ∃ m : Nat, m ≤ 100000 ∧ (match firstBad L ds 0 with | some k => some (some k, ("step" : Str)) | none => if ds.length ≤ 3 then none else some (none, ("many" : Str))) = _
    cases e : firstBad L ds 0 with
    | some m =>
      have h1 := fb_lt e
      have h2 := len_nodes ds
      rw [nodes_tup] at hn
      exact .inr (.inr (.inr ⟨m, by omega, rfl⟩))
    | none =>
      by_cases h : ds.length ≤ 3
      · exact .inl (by show (if ds.length ≤ 3 then none else some (none, ("many" : Str))) = _; rw [if_pos h])
      · exact .inr (.inr (.inl (by show (if ds.length ≤ 3 then none else some (none, ("many" : Str))) = _; rw [if_neg h])))
  | _ => exact .inr (.inl rfl)
theorem step_shown (m : Nat) (h : m ≤ 100000) : (PyData.tuple [.int m, .str "step"]).showable = true ∧ (PyData.tuple [.int m, .str "step"]).depth ≤ 60 ∧ (PyData.tuple [.int m, .str "step"]).shown.length ≤ sizeLine := by
  refine ⟨?_, ?_, ?_⟩
  · rw [PyData.showable, PyData.showableAll, PyData.showableAll, PyData.showableAll, PyData.showable, PyData.showable]
    have h2 : (m : Int).natAbs < 2 ^ 100 := Nat.lt_of_le_of_lt (show (m : Int).natAbs ≤ 100000 by omega) (by decide)
    have h3 : (m : Int).natAbs.log2 < 1920 := by
      by_cases z : (m : Int).natAbs = 0
      · rw [z]
        decide
      · exact Nat.lt_trans ((Nat.log2_lt z).mpr h2) (by decide)
    rw [decide_eq_true h3]
    rfl
  · rw [PyData.depth, PyData.depthAll, PyData.depthAll, PyData.depthAll, PyData.depth, PyData.depth]
    decide
  · rw [PyData.shown]
    have h2 := tupleText_len_le (PyData.shownAll [.int m, .str "step"])
    have h3 : (PyData.shown (.int m)).length ≤ 10 := by
      rw [PyData.shown, PySem.ofString_length]
      exact Nat.le_trans (int_text_length_le10 (a := (m : Int)) (k := 9) (by decide) (Nat.lt_of_le_of_lt (show (m : Int).natAbs ≤ 100000 by omega) (by decide))) (by decide)
    have h4 : (PyData.shown (.str "step")).length ≤ 10 := by decide +kernel
    rw [PyData.shownAll, PyData.shownAll, PyData.shownAll] at h2 ⊢
    simp only [List.map_cons, List.map_nil, List.sum_cons, List.sum_nil, List.length_cons, List.length_nil] at h2
    exact Nat.le_trans (show _ ≤ 100 by omega) (by decide)
theorem errE_ok {L : Int} {d : PyData} (hn : nodes d ≤ 100000) : (errE (lineE L d)).showable = true ∧ (errE (lineE L d)).depth ≤ 60 ∧ (errE (lineE L d)).shown.length ≤ sizeLine := by
  rcases lineE_in L d hn with e | e | e | ⟨m, hm, e⟩
  · rw [e]
    decide +kernel
  · rw [e]
    decide +kernel
  · rw [e]
    decide +kernel
  · rw [e]
    exact step_shown m hm
theorem str_ne_false (x : Str) : ¬ (!decide (V.str x = V.str x)) = true := by
  rw [decide_eq_true rfl]
  exact Bool.false_ne_true
section
variable {P : Program} {w : World} {K : PySem.W.Frag} {mg : Str → Option Value} {base : Heap}
theorem scLaw : FnScope ["_law_script", "_law_deck_here", "_law_turn", "_law_letters", "_law_line_here", "_law_values", "_law_value", "_law_k", "_law_own"] ["_law_script"] (defScope sLaw) := ⟨rfl, rfl, rfl, by decide +kernel, rfl, by decide +kernel, by decide +kernel⟩
def spLaw (K : PySem.W.Frag) : Sp := fun vs H Q _ => ∃ (l : Addr) (ns : List Int), vs = [.ref l] ∧ SqL K H l (ns.map V.int) ∧ ns.length ≤ 63 ∧ ∀ H', Q (.bl true) H'
theorem ok_law {f fJ fD fO fN fZ fM fU : Addr} {fd fdJ fdD fdO fdN fdZ fdM fdU : FuncData} (F : Fun K "law" "law" sLaw f fd)
    (J : FnOk P w K mg base CX0 1 fJ fdJ ["_law_script"] (spDeck K)) (FJ : Fun K "_law_deck" "_law_deck" sDeck fJ fdJ) (bJ : Binds K fdJ ["_law_script"] []) (gJ : mg "_law_deck" = some (.ref fJ))
    (D : FnOk P w K mg base CX0 1 fD fdD ["_law_deck_here", "_law_most"] spDraw) (FD : Fun K "_law_draw" "_law_draw" sDraw fD fdD) (bD : Binds K fdD ["_law_deck_here", "_law_most"] []) (gD : mg "_law_draw" = some (.ref fD))
    (O : FnOk P w K mg base CX0 2 fO fdO ["_law_deck_here", "_law_items"] (spOne K)) (FO : Fun K "_law_one" "_law_one" sOne fO fdO) (bO : Binds K fdO ["_law_deck_here", "_law_items"] []) (gO : mg "_law_one" = some (.ref fO))
    (N : FnOk P w K mg base CX0 5 fN fdN ["_law_deck_here", "_law_letters", "_law_most"] (spLineL K)) (FN : Fun K "_law_line" "_law_line" sLineL fN fdN) (bN : Binds K fdN ["_law_deck_here", "_law_letters", "_law_most"] []) (gN : mg "_law_line" = some (.ref fN))
    (Z : FnOk P w K mg base CX0 7 fZ fdZ ["_law_deck_here", "_law_value", "_law_deep"] (spOther K 4)) (FZ : Fun K "_law_otherwise" "_law_otherwise" sOther fZ fdZ) (bZ : Binds K fdZ ["_law_deck_here", "_law_value", "_law_deep"] []) (gZ : mg "_law_otherwise" = some (.ref fZ))
    (M : FnOk P w K mg base CX0 5 fM fdM ["letters", "value"] (spLErr K)) (FM : Fun K "line_error" "line_error" sLErr fM fdM) (bM : Binds K fdM ["letters", "value"] []) (gM : mg "line_error" = some (.ref fM))
    (U : FnOk P w K mg base CX0 4 fU fdU ["_law_letters", "_law_value"] (spDue K)) (FU : Fun K "_law_due" "_law_due" sDue fU fdU) (bU : Binds K fdU ["_law_letters", "_law_value"] []) (gU : mg "_law_due" = some (.ref fU)) (T : Mg mg) :
    GRun P w K mg base 8 f fd ["_law_script"] (spLaw K) := by
  refine grun F scLaw (fun cdv A outer s H vs Q hG0 hr h => ?_)
  obtain ⟨l, ns, rfl, hS, hlen, k⟩ := h
  have hG : (A.deeper (envOfC "law" (defScope sLaw) s.heap.objs.size f cdv)).guards = some [] := hG0
  have hu := hr.units
  refine ⟨_, pss_cons (ps_set (i := 1) scLaw.nd rfl (.inl rfl) (pe_call J (hr.mono (by decide)) (by rfl) gJ FJ.kp bJ .nil pass0 (pa_cons (pv 0) pa_nil)))
        (pss_cons (ps_for PassesOwn.never rfl (pi_range1 (by rfl) T.range (pa_cons pe_int pa_nil)) (pg_name (i := 2) scLaw.nd rfl (.inl rfl)) (pss_cons (ps_set (i := 3) scLaw.nd rfl (.inl rfl) (pe_op op_add pe_int (pe_call D (hr.mono (by decide)) (by rfl) gD FD.kp bD .nil pass0 (pa_cons (pv 1) (pa_cons pe_int pa_nil)))))
        (pss_cons (ps_set (i := 4) scLaw.nd rfl (.inl rfl) (pe_call N (hr.mono (by decide)) (by rfl) gN FN.kp bN .nil pass0 (pa_cons (pv 1) (pa_cons (pv 3) (pa_cons pe_int pa_nil)))))
        (pss_cons (ps_par (i := 5) (j := 6) rfl scLaw.nd rfl rfl (by decide) rfl rfl (pa_cons (pe_lst (pa_cons (pv 4) (pa_cons (pe_callTy call_listN (by rfl) T.list (by decide +kernel) (pa_cons (pv 4) pa_nil)) (pa_cons (pe_op op_rep2 (pv 4) pe_int) (pa_cons (pe_op op_catS (pv 4) (pe_slice sl_tupS (pv 4) po_none (po_some pe_int))) (pa_cons pe_non (pa_cons pe_str (pa_cons (pe_tup pa_nil) (pa_cons pe_dnewK (pa_cons pe_int (pa_cons (pe_tup (pa_cons pe_non pa_nil)) (pa_cons (pe_tup (pa_cons (pe_tup pa_nil) pa_nil)) (pa_cons (pe_tup (pa_cons (pe_tup (pa_cons pe_str pa_nil)) pa_nil)) pa_nil))))))))))))) (pa_cons (pv 4) pa_nil)) (by rfl))
        (pss_cons (ps_for PassesOwn.never rfl (pi_range1 (by rfl) T.range (pa_cons pe_int pa_nil)) (pg_name (i := 7) scLaw.nd rfl (.inl rfl)) (pss_cons (ps_set (i := 6) scLaw.nd rfl (.inl rfl) (pe_call Z (hr.mono (by decide)) (by rfl) gZ FZ.kp bZ .nil pass0 (pa_cons (pv 1) (pa_cons (pe_ifExp (pt_cmpR op_gt (pe_op op_mod (pv 7) pe_int) pe_int (nomark _)) (pv 6) (pv 4)) (pa_cons pe_int pa_nil)))))
        (pss_one (ps_expr (pe_bm PySem.F.plainAttrs_list PySem.F.slot_list_append PySem.F.type_list_append mt_append (pv 5) (pa_cons (pv 6) pa_nil))))))
        (pss_cons (ps_expr (pe_bm PySem.F.plainAttrs_list PySem.F.slot_list_append PySem.F.type_list_append mt_append (pv 5) (pa_cons (pe_tup (pa_cons (pe_tup (pa_cons pe_str (pa_cons (pe_op op_repS (pe_tup (pa_cons pe_int pa_nil)) (pv 3)) (pa_cons (pe_call O (hr.mono (by decide)) (by rfl) gO FO.kp bO .nil pass0 (pa_cons (pv 1) (pa_cons (pe_lstA (pa_cons pe_int (pa_cons pe_int pa_nil))) pa_nil))) pa_nil)))) (pa_cons (pe_tup (pa_cons pe_str (pa_cons (pe_call O (hr.mono (by decide)) (by rfl) gO FO.kp bO .nil pass0 (pa_cons (pv 1) (pa_cons (pe_lstA (pa_cons pe_str (pa_cons (pe_ix ix_str pe_str (pe_op op_sub (pv 3) pe_int) (fun _ _ => rfl)) (pa_cons pe_str (pa_cons pe_str pa_nil))))) pa_nil))) pa_nil))) pa_nil))) pa_nil)))
        (pss_one (ps_for PassesOwn.never rfl (pi_list (pv 5)) (pg_name (i := 6) scLaw.nd rfl (.inl rfl)) (pss_one (ps_for PassesOwn.never rfl (pi_tup (pe_tup (pa_cons (pv 3) (pa_cons pe_int pa_nil)))) (pg_name (i := 8) scLaw.nd rfl (.inl rfl)) (pss_one (ps_if (pt_cmpR op_ne (pe_callB (call_reprD hG hu) (by rfl) T.repr (by decide +kernel) (pa_cons (pe_call M (hr.mono (by decide)) (by rfl) gM FM.kp bM .nil pass0 (pa_cons (pv 8) (pa_cons (pv 6) pa_nil))) pa_nil)) (pe_callB (call_reprD hG hu) (by rfl) T.repr (by decide +kernel) (pa_cons (pe_call U (hr.mono (by decide)) (by rfl) gU FU.kp bU .nil pass0 (pa_cons (pv 8) (pa_cons (pv 6) pa_nil))) pa_nil)) (nomark _)) (pss_one (ps_ret pe_bl)) pss_nil))))))))))))
        (pss_one (ps_ret pe_bl))), ?_⟩
  refine ⟨_, rfl, l, ns, rfl, hS, hlen, fun H1 a c cells0 s1 na nc dk0 => ?_⟩
  refine ⟨14, rfl, by decide, by decide, for_range (lo := 0) (n := 14) (fun i σ H' => (∃ y2 y3 y4 y5 y6 y7 y8, σ = [some (V.ref l), some (V.ref a), y2, y3, y4, y5, y6, y7, y8]) ∧ ∃ cells n, DeckAt a c cells n H' ∧ 0 ≤ n ∧ n ≤ 1000 * (i : Int)) ⟨⟨none, none, none, none, none, none, none, rfl⟩, cells0, 0, dk0, Int.le_refl _, by omega⟩ ?_ (fun σ H' _ => k H')⟩
  rintro i σ H2 hi ⟨⟨y2, y3, y4, y5, y6, y7, y8, rfl⟩, cells, n, dk, n0, n1⟩
  refine ⟨_, rfl, a, c, cells, n, 3, rfl, dk, by decide, by decide, n0, by omega, fun H3 cells3 r r0 r3 dk3 k3 => ?_⟩
  refine ⟨1, r, rfl, rfl, ?_⟩
  refine ⟨_, rfl, _, rfl, Bd a c, a, c, cells3, n + 1, 1 + r, rfl, fun b z => z, fun b z e => deck_off dk3 e z, dk3, by omega, by omega, by omega, by omega, fun H6 cells6 n6 v ds dk6 n6a n6b k6 hdv ndv => ?_⟩
  have st0 : Stb K (Bd a c) a c cells6 n6 v ds [] H6 := ⟨fun b z e => deck_off dk6 e z, fun b z => z, dk6, hdv, ndv, fun u hu => absurd hu List.not_mem_nil⟩
  obtain ⟨q, xs, rfl, nq, hq, hds, lxs⟩ := hdv.tup_rd
  have nds : nodesAll ds ≤ 399 := by
    rw [nodes_tup] at ndv
    omega
  have lds := len_nodes ds
  -- the values
  have st1 := st0.add hdv (by omega)
  refine ⟨_, rfl, _, rfl, q, xs, rfl, .inl hq, fun l1 hl1 nl1 => ?_⟩
  have e1 := same_new (o := .lst xs) hl1
  have st2 := (st1.same e1).add (u := .ref l1) (d := .list ds) (.lst (tb_off st1.tb hl1) nl1 (.inl upd_same) (same_all e1 hds)) (by rw [nodes_lst]; omega)
  have hq2 := same_rd e1 hq
  have hds2 := same_all e1 hds
  generalize upd H6 l1 (.lst xs) = G6 at *
  refine ⟨_, rfl, q, xs, rfl, rfl, hq2, by omega, fun q2 H7 s7 hc2 w2 => ?_⟩
  have st3 := (st2.same s7).add (u := .ref q2) (d := .tuple (ds ++ ds)) (.tup (nb_of st2.tb nq w2) hc2 (same_all s7 (hds2.append hds2))) (by rw [nodes_tup, nodesAll_append]; omega)
  have hq3 := same_rd s7 hq2
  have hds3 := same_all s7 hds2
  refine ⟨_, rfl, _, rfl, 1, rfl, q, xs, rfl, hq3, fun q3 H8 s8 hc3 w3 => ?_⟩
  have e3 : ∃ ds1, cutV xs none (some 1) = xs.take 1 ∨ ds1 = 0 := ⟨1, by
    by_cases z : 1 ≤ xs.length
    · exact .inl (cut_take xs 1 z)
    · have : xs = [] := List.eq_nil_of_length_eq_zero (by omega)
      rw [this]
      exact .inl rfl⟩
  have e4 : cutV xs none (some 1) = xs.take 1 := by
    by_cases z : 1 ≤ xs.length
    · exact cut_take xs 1 z
    · have : xs = [] := List.eq_nil_of_length_eq_zero (by omega)
      rw [this]
      rfl
  rw [e4] at hc3
  clear e3
  have st4 := st3.same s8
  have hq4 := same_rd s8 hq3
  have hds4 := same_all s8 hds3
  have nq3 := nb_of st3.tb nq w3
  refine ⟨q, q3, _, _, rfl, rfl, hq4, hc3, sz_of (by rw [List.length_take]; omega), fun q4 H9 s9 hc4 w4 => ?_⟩
  have nt : nodesAll (ds.take 1) ≤ nodesAll ds := by
    have a1 := nodesAll_append (ds.take 1) (ds.drop 1)
    rw [List.take_append_drop] at a1
    omega
  have st5 := (st4.same s9).add (u := .ref q4) (d := .tuple (ds ++ ds.take 1)) (.tup (nb_of2 st4.tb nq nq3 w4) hc4 (same_all s9 (hds4.append (hds4.take 1)))) (by rw [nodes_tup, nodesAll_append]; omega)
  have st6 := st5.add (u := .non) (d := .none) .non (by rw [nodes]; decide)
  have st7 := st6.add (u := .str "cut") (d := .str "cut") (.str "cut") (by rw [nodes_str]; decide +kernel)
  refine ⟨Nat.zero_le _, fun u5 hu5 => ?_⟩
  have e5 := same_new (o := .tup []) hu5
  have st8 := (st7.same e5).add (u := .ref u5) (d := .tuple []) (.tup (tb_off st7.tb hu5) (.inl upd_same) .nil) (by rw [nodes_tup, nodesAll_nil]; decide)
  generalize upd H9 u5 (.tup []) = G9 at *
  intro d6 hd6
  have e6 := same_new (o := .dK []) hd6
  have st9 := (st8.same e6).add (u := .ref d6) (d := .dict []) (.emp (tb_off st8.tb hd6) upd_same) (by rw [nodes]; decide)
  generalize upd G9 d6 (.dK []) = G10 at *
  have st10 := st9.add (u := .int 3) (d := .int 3) (.int 3) (by rw [nodes_int]; decide)
  refine ⟨by show 1 ≤ sizeLine; decide, fun u7 hu7 => ?_⟩
  have e7 := same_new (o := .tup [.non]) hu7
  have st11 := (st10.same e7).add (u := .ref u7) (d := .tuple [.none]) (.tup (tb_off st10.tb hu7) (.inl upd_same) (.cons .non .nil)) (by decide +kernel)
  generalize upd G10 u7 (.tup [.non]) = G11 at *
  refine ⟨Nat.zero_le _, fun u8 hu8 => ⟨by show 1 ≤ sizeLine; decide, fun u9 hu9 => ?_⟩⟩
  have e8 := same_new (o := .tup []) hu8
  have d8 : Dt (Bd a c) K (upd G11 u8 (.tup [])) (.ref u8) (.tuple []) := .tup (tb_off st11.tb hu8) (.inl upd_same) .nil
  have st12 := st11.same e8
  generalize upd G11 u8 (.tup []) = G12 at *
  have e9 := same_new (o := .tup [.ref u8]) hu9
  have st13 := (st12.same e9).add (u := .ref u9) (d := .tuple [.tuple []]) (.tup (tb_off st12.tb hu9) (.inl upd_same) (.cons (same_dt e9 d8) .nil)) (by decide +kernel)
  generalize upd G12 u9 (.tup [.ref u8]) = G13 at *
  refine ⟨by show 1 ≤ sizeLine; decide, fun u10 hu10 => ⟨by show 1 ≤ sizeLine; decide, fun u11 hu11 => ?_⟩⟩
  have e10 := same_new (o := .tup [.str "cut"]) hu10
  have d10 : Dt (Bd a c) K (upd G13 u10 (.tup [.str "cut"])) (.ref u10) (.tuple [.str "cut"]) := .tup (tb_off st13.tb hu10) (.inl upd_same) (.cons (.str _) .nil)
  have st14 := st13.same e10
  generalize upd G13 u10 (.tup [.str "cut"]) = G14 at *
  have e11 := same_new (o := .tup [.ref u10]) hu11
  have st15 := (st14.same e11).add (u := .ref u11) (d := .tuple [.tuple [.str "cut"]]) (.tup (tb_off st14.tb hu11) (.inl upd_same) (.cons (same_dt e11 d10) .nil)) (by decide +kernel)
  generalize upd G14 u11 (.tup [.ref u10]) = G15 at *
  refine ⟨by show 12 ≤ sizeLine; decide, fun Lf hLf => ?_⟩
  refine ⟨_, rfl, _, _, rfl, ?_⟩
  have stA := st15.off (.lst [V.ref q, .ref l1, .ref q2, .ref q4, .non, .str "cut", .ref u5, .ref d6, .int 3, .ref u7, .ref u9, .ref u11]) hLf
  have nLf := deck_off st15.dk hLf
  have hL0 : (upd G15 Lf (.lst [V.ref q, .ref l1, .ref q2, .ref q4, .non, .str "cut", .ref u5, .ref d6, .int 3, .ref u7, .ref u9, .ref u11])) Lf = some (.lst [V.ref q, .ref l1, .ref q2, .ref q4, .non, .str "cut", .ref u5, .ref d6, .int 3, .ref u7, .ref u9, .ref u11]) := upd_same
  have stB : Stb K (fun b => Bd a c b ∨ b = Lf) a c cells6 n6 (.ref q) ds [V.ref q, .ref l1, .ref q2, .ref q4, .non, .str "cut", .ref u5, .ref d6, .int 3, .ref u7, .ref u9, .ref u11] (upd G15 Lf (.lst [V.ref q, .ref l1, .ref q2, .ref q4, .non, .str "cut", .ref u5, .ref d6, .int 3, .ref u7, .ref u9, .ref u11])) := ⟨stA.tb, stA.hB, stA.dk, stA.ln, stA.nl, fun u hu => stA.vs u hu⟩
  clear stA
  generalize upd G15 Lf (.lst [V.ref q, .ref l1, .ref q2, .ref q4, .non, .str "cut", .ref u5, .ref d6, .int 3, .ref u7, .ref u9, .ref u11]) = G16 at *
  refine ⟨9, rfl, by decide, by decide, for_range (lo := 0) (n := 9) (fun j σ H' => (∃ (vj : V) (dj : PyData) (y7 : Option V), σ = [some (V.ref l), some (V.ref a), some (V.int (0 + i)), some (V.int (1 + r)), some (V.ref q), some (V.ref Lf), some vj, y7, y8] ∧ Dt (fun b => Bd a c b ∨ b = Lf) K H' vj dj ∧ nodes dj + 5 ≤ bn j) ∧ ∃ cells' n' vals, Stb K (fun b => Bd a c b ∨ b = Lf) a c cells' n' (.ref q) ds vals H' ∧ n6 ≤ n' ∧ n' ≤ n6 + 20 * (j : Int) ∧ H' Lf = some (.lst vals) ∧ vals.length = 12 + j)
    ⟨⟨_, _, _, rfl, stB.ln, by have := stB.nl; show _ ≤ 3240; omega⟩, cells6, n6, _, stB, Int.le_refl _, by omega, hL0, rfl⟩ ?_ ?_⟩
  · rintro j σ H' hj ⟨⟨vj, dj, y7', rfl, hdj, ndj⟩, cells', n', vals, st, g1, g2, hL, hlv⟩
    have bl := bn_le (j + 1)
    have snl := st.nl
    refine ⟨_, rfl, _, rfl, _, 3, rfl, rfl, (by show (0 : Int) < 3; decide), _, 0, rfl, rfl, _, rfl, ite2 (fun h1 => ⟨_, rfl, ?_⟩) (fun h1 => ⟨_, rfl, ?_⟩)⟩
    · have hz : j % 3 ≠ 0 := by
        have := of_decide_eq_true h1
        omega
      have eb := bn_step hz
      refine ⟨(fun b => Bd a c b ∨ b = Lf), a, c, cells', n', vj, dj, rfl, st.hB, st.tb, st.dk, by omega, by omega, by decide, hdj, by omega, fun H3 cells3 n3 v3 d3 dk3 m1' m2' k3 hd3 hn3 => ?_⟩
      have hb : nodes d3 + 5 ≤ bn (j + 1) := by
        rw [eb]
        omega
      have st3 := (st.drawn dk3 k3).add hd3 (by omega)
      have hL3 := k3 _ _ nLf hL
      refine ⟨_, rfl, .inl ⟨rfl, _, SqL.of hL3⟩, _, rfl, Lf, vals, v3, rfl, rfl, hL3, small1000 (by omega), ?_⟩
      have st4 := st3.store (.lst (vals ++ [v3])) (.inr rfl) nLf
      exact ⟨⟨v3, d3, _, rfl, Dt.keep (keep_store (.inr rfl)) _ _ hd3, hb⟩, cells3, n3, _, st4, by omega, by omega, upd_same, by rw [List.length_append, hlv]; rfl⟩
    · have hz : j % 3 = 0 := by
        have : ¬ ((0 : Int) < (0 + (j : Int)) % 3) := fun z => h1 (decide_eq_true z)
        omega
      have eb := bn_one hz
      refine ⟨(fun b => Bd a c b ∨ b = Lf), a, c, cells', n', (.ref q), (.tuple ds), rfl, st.hB, st.tb, st.dk, by omega, by omega, by decide, st.ln, by omega, fun H3 cells3 n3 v3 d3 dk3 m1' m2' k3 hd3 hn3 => ?_⟩
      have hb : nodes d3 + 5 ≤ bn (j + 1) := by
        rw [eb]
        omega
      have st3 := (st.drawn dk3 k3).add hd3 (by omega)
      have hL3 := k3 _ _ nLf hL
      refine ⟨_, rfl, .inl ⟨rfl, _, SqL.of hL3⟩, _, rfl, Lf, vals, v3, rfl, rfl, hL3, small1000 (by omega), ?_⟩
      have st4 := st3.store (.lst (vals ++ [v3])) (.inr rfl) nLf
      exact ⟨⟨v3, d3, _, rfl, Dt.keep (keep_store (.inr rfl)) _ _ hd3, hb⟩, cells3, n3, _, st4, by omega, by omega, upd_same, by rw [List.length_append, hlv]; rfl⟩
  · rintro σ H' ⟨⟨vj, dj, y7', rfl, hdj, ndj⟩, cells', n', vals, st, g1, g2, hL, hlv⟩
    refine ⟨_, rfl, .inl ⟨rfl, _, SqL.of hL⟩, ?_⟩
    -- the last value
    refine ⟨by show 1 ≤ sizeLine; decide, fun u1 hu1 => ⟨_, rfl, u1, 1 + r, _, rfl, rfl, .inl upd_same, List.cons_ne_nil _ _, by omega, by omega, by show 1 ≤ 1000; decide, fun p1 H1 s1 hp1 w1 => ?_⟩⟩
    have t1 := (same_new (o := .tup [.int 0]) hu1).trans s1
    have nu1 := tb_off st.tb hu1
    have np1 : ¬ (fun b => Bd a c b ∨ b = Lf) p1 := nb_of (tb_upd st.tb) nu1 w1
    have d1 : Dt (fun b => Bd a c b ∨ b = Lf) K H1 (.ref p1) (.tuple (List.replicate (1 + r).toNat (.int 0))) := by
      refine .tup np1 hp1 ?_
      rw [List.flatten_replicate_singleton]
      exact DtAll.rep (.int 0) _
    have sa := st.same t1
    refine ⟨_, rfl, by show 2 ≤ sizeLine; decide, fun p2 H2 s2 np2 _ lp2 => ?_⟩
    have sb := sa.same s2
    refine ⟨a, c, p2, cells', n', _, rfl, sb.dk, by omega, by omega, SqL.of lp2, deck_off sa.dk np2, List.cons_ne_nil _ _, by decide, fun H3 cells3' x hx dk3' k3' => ?_⟩
    obtain ⟨x0, rfl⟩ : ∃ x0 : Int, x = .int x0 := by
      simp only [List.mem_cons, List.not_mem_nil, or_false] at hx
      rcases hx with hx | hx <;> exact ⟨_, hx⟩
    have sc := sb.drawn dk3' k3'
    have d3 := Dt.keep (k3'.wide st.hB) _ _ (same_dt s2 d1)
    refine ⟨by show 3 ≤ sizeLine; decide, fun u4 hu4 => ?_⟩
    have e4' := same_new (o := .tup [.str "cut", .ref p1, .int x0]) hu4
    have d4 : Dt (fun b => Bd a c b ∨ b = Lf) K (upd H3 u4 (.tup [.str "cut", .ref p1, .int x0])) (.ref u4) (.tuple [.str "cut", .tuple (List.replicate (1 + r).toNat (.int 0)), .int x0]) := .tup (tb_off sc.tb hu4) (.inl upd_same) (.cons (.str _) (.cons (same_dt e4' d3) (.cons (.int _) .nil)))
    have sd := sc.same e4'
    have hL4 := e4' _ _ (k3' _ _ nLf (s2 _ _ (t1 _ _ hL)))
    generalize upd H3 u4 (.tup [.str "cut", .ref p1, .int x0]) = H4 at *
    obtain ⟨y, hy⟩ : ∃ y, atI ("abc" : Str).cps.toList (1 + r - 1) = some y := by
      have e : r = 0 ∨ r = 1 ∨ r = 2 := by omega
      rcases e with rfl | rfl | rfl <;> exact ⟨_, rfl⟩
    refine ⟨_, rfl, _, rfl, 1 + r, 1, rfl, rfl, "abc", _, y, rfl, rfl, by show 3 ≤ sizeLine; decide, hy, by show 4 ≤ sizeLine; decide, fun p5 H5 s5 np5 _ lp5 => ?_⟩
    have se := sd.same s5
    refine ⟨a, c, p5, cells3', n' + 1, _, rfl, se.dk, by omega, by omega, SqL.of lp5, deck_off sd.dk np5, List.cons_ne_nil _ _, by show 4 ≤ 1000; decide, fun H6' cells6' x6 hx6 dk6' k6' => ?_⟩
    obtain ⟨z6, rfl, hz6⟩ : ∃ z : Str, x6 = .str z ∧ z.length ≤ 1 := by
      simp only [List.mem_cons, List.not_mem_nil, or_false] at hx6
      rcases hx6 with hx | hx | hx | hx
      · exact ⟨_, hx, by decide⟩
      · exact ⟨_, hx, Nat.le_refl 1⟩
      · exact ⟨_, hx, by decide⟩
      · exact ⟨_, hx, by decide⟩
    have sf := se.drawn dk6' k6'
    have d6' := Dt.keep (k6'.wide st.hB) _ _ (same_dt s5 d4)
    have hL6 := k6' _ _ nLf (s5 _ _ hL4)
    refine ⟨by show 2 ≤ sizeLine; decide, fun u7' hu7' => ?_⟩
    have e7' := same_new (o := .tup [.str "stop", .str z6]) hu7'
    have d7 : Dt (fun b => Bd a c b ∨ b = Lf) K (upd H6' u7' (.tup [.str "stop", .str z6])) (.ref u7') (.tuple [.str "stop", .str z6]) := .tup (tb_off sf.tb hu7') (.inl upd_same) (.cons (.str _) (.cons (.str _) .nil))
    have sg := sf.same e7'
    have d6'' := same_dt e7' d6'
    have hL7 := e7' _ _ hL6
    generalize upd H6' u7' (.tup [.str "stop", .str z6]) = H7' at *
    refine ⟨by show 2 ≤ sizeLine; decide, fun u8' hu8' => ?_⟩
    have e8' := same_new (o := .tup [.ref u4, .ref u7']) hu8'
    have nrp : ∀ m : Nat, nodesAll (List.replicate m (.int 0)) = m := fun m => by
      induction m with
      | zero => rfl
      | succ m ih =>
        rw [List.replicate_succ, nodesAll_cons, ih, nodes_int]
        omega
    have sh := (sg.same e8').add (u := .ref u8') (d := .tuple [.tuple [.str "cut", .tuple (List.replicate (1 + r).toNat (.int 0)), .int x0], .tuple [.str "stop", .str z6]]) (.tup (tb_off sg.tb hu8') (.inl upd_same) (.cons (same_dt e8' d6'') (.cons (same_dt e8' d7) .nil))) (by
      have l1 : ("cut" : Str).length = 3 := rfl
      have l2 : ("stop" : Str).length = 4 := rfl
      rw [nodes_tup, nodesAll_cons, nodesAll_cons, nodesAll_nil, nodes_tup, nodesAll_cons, nodesAll_cons, nodesAll_cons, nodesAll_nil, nodes_tup, nodes_tup, nodesAll_cons, nodesAll_cons, nodesAll_nil, nrp, nodes_str, nodes_str, nodes_str, nodes_int, l1, l2]
      omega)
    have hL8 := e8' _ _ hL7
    generalize upd H7' u8' (.tup [.ref u4, .ref u7']) = H8' at *
    refine ⟨Lf, vals, _, rfl, rfl, hL8, small1000 (by omega), ?_⟩
    have si := sh.store (.lst (vals ++ [.ref u8'])) (.inr rfl) nLf
    have hL9 : (upd H8' Lf (.lst (vals ++ [.ref u8']))) Lf = some (.lst (vals ++ [.ref u8'])) := upd_same
    generalize upd H8' Lf (.lst (vals ++ [.ref u8'])) = H10 at *
    refine ⟨_, rfl, Lf, rfl, ⟨_, SqL.of hL9⟩, ?_⟩
    refine for_list (K := K) (a := Lf) (xs := vals ++ [.ref u8']) (fun j σ H'' => (∃ y6 y7 y8, σ = [some (V.ref l), some (V.ref a), some (V.int (0 + i)), some (V.int (1 + r)), some (V.ref q), some (V.ref Lf), y6, y7, y8]) ∧ Same H10 H'') ⟨⟨_, _, _, rfl⟩, Same.refl H10⟩ (fun j σ H'' _ q' => SqL.of (q'.2 _ _ hL9)) ?_ ?_
    · rintro j v σ H'' hv ⟨⟨z6, z7, z8, rfl⟩, sf'⟩
      obtain ⟨d, hd0, hn0⟩ := si.vs v (List.mem_of_getElem? hv)
      refine ⟨_, rfl, by show 2 ≤ sizeLine; decide, fun tp htp => ?_⟩
      have et := same_new (o := .tup [.int (1 + r), .int 3]) htp
      refine ⟨tp, rfl, ⟨_, SqT.of upd_same⟩, ?_⟩
      refine for_tup (K := K) (a := tp) (xs := [.int (1 + r), .int 3]) (fun j2 σ H3 => (∃ y8, σ = [some (V.ref l), some (V.ref a), some (V.int (0 + i)), some (V.int (1 + r)), some (V.ref q), some (V.ref Lf), some v, z7, y8]) ∧ Same (upd H'' tp (.tup [.int (1 + r), .int 3])) H3) ⟨⟨_, rfl⟩, Same.refl _⟩ (fun j2 σ H3 _ q' => SqT.of (q'.2 _ _ upd_same)) ?_ ?_
      · rintro j2 y σ H3 hy ⟨⟨y8, rfl⟩, s3⟩
        obtain ⟨Lo, rfl, lo1, lo3⟩ : ∃ Lo : Int, y = .int Lo ∧ 1 ≤ Lo ∧ Lo ≤ 3 := by
          have hm := List.mem_of_getElem? hy
          simp only [List.mem_cons, List.not_mem_nil, or_false] at hm
          rcases hm with hm | hm
          · exact ⟨_, hm, by omega, by omega⟩
          · exact ⟨_, hm, by decide, by decide⟩
        have hd := same_dt (sf'.trans (et.trans s3)) hd0
        obtain ⟨o1, o2, o3⟩ := errE_ok (L := Lo) (d := d) (by omega)
        refine ⟨_, rfl, _, rfl, _, v, d, Lo, rfl, hd, by omega, lo1, lo3, fun H4 v4 s4 hv4 => ⟨_, _, _, rfl, hv4, o1, o2, o3, ?_⟩⟩
        refine ⟨_, rfl, _, rfl, _, v, d, Lo, rfl, same_dt s4 hd, by omega, fun H5 v5 s5 hv5 => ⟨_, _, _, rfl, hv5, o1, o2, o3, ?_⟩⟩
        refine ⟨rfl, _, rfl, ite2 (fun h => absurd h (str_ne_false _)) (fun _ => ?_)⟩
        exact ⟨⟨_, rfl⟩, s3.trans (s4.trans s5)⟩
      · rintro σ H3 ⟨⟨y8, rfl⟩, s3⟩
        exact ⟨⟨_, _, _, rfl⟩, sf'.trans (et.trans s3)⟩
    · rintro σ H'' ⟨⟨z6, z7, z8, rfl⟩, sf'⟩
      have sj := si.same sf'
      exact ⟨⟨_, _, _, _, _, _, _, rfl⟩, _, _, sj.dk, by omega, by omega⟩
end
theorem all_mk {l : PySem.W.OpenLaw} {w : World} {K : PySem.W.Frag} {h : Heap} {mg : Str → Option Value} {fa f0 f1 f2 f3 f4 f5 f6 f7 f8 f9 f10 f11 f12 f13 f14 f15 f16 f17 f18 f19 f20 f21 f22 f23 : Addr} (inK : K.In h) (atG : h.Ns mainGlobals mg) (hfa : mg "law" = some (.ref fa))
    {odd0 and0 odd1 and1 odd2 and2 odd3 and3 odd4 and4 odd5 and5 odd6 and6 odd7 and7 odd8 and8 odd9 and9 odd10 and10 odd11 and11 odd12 and12 odd13 and13 odd14 and14 odd15 and15 odd16 and16 odd17 and17 odd18 and18 odd19 and19 odd20 and20 odd21 and21 odd22 and22 odd23 and23 : Option Addr} {sld0 sld1 sld2 sld3 sld4 sld5 sld6 sld7 sld8 sld9 sld10 sld11 sld12 sld13 sld14 sld15 sld16 sld17 sld18 sld19 sld20 sld21 sld22 sld23 : Array (Option Value)} {ocd0 kVd0 dcd0 pmd0 cdd0 ctd0 ocd1 kVd1 dcd1 pmd1 cdd1 ctd1 ocd2 kVd2 dcd2 pmd2 cdd2 ctd2 ocd3 kVd3 dcd3 pmd3 cdd3 ctd3 ocd4 kVd4 dcd4 pmd4 cdd4 ctd4 ocd5 kVd5 dcd5 pmd5 cdd5 ctd5 ocd6 kVd6 dcd6 pmd6 cdd6 ctd6 ocd7 kVd7 dcd7 pmd7 cdd7 ctd7 ocd8 kVd8 dcd8 pmd8 cdd8 ctd8 ocd9 kVd9 dcd9 pmd9 cdd9 ctd9 ocd10 kVd10 dcd10 pmd10 cdd10 ctd10 ocd11 kVd11 dcd11 pmd11 cdd11 ctd11 ocd12 kVd12 dcd12 pmd12 cdd12 ctd12 ocd13 kVd13 dcd13 pmd13 cdd13 ctd13 ocd14 kVd14 dcd14 pmd14 cdd14 ctd14 ocd15 kVd15 dcd15 pmd15 cdd15 ctd15 ocd16 kVd16 dcd16 pmd16 cdd16 ctd16 ocd17 kVd17 dcd17 pmd17 cdd17 ctd17 ocd18 kVd18 dcd18 pmd18 cdd18 ctd18 ocd19 kVd19 dcd19 pmd19 cdd19 ctd19 ocd20 kVd20 dcd20 pmd20 cdd20 ctd20 ocd21 kVd21 dcd21 pmd21 cdd21 ctd21 ocd22 kVd22 dcd22 pmd22 cdd22 ctd22 ocd23 kVd23 dcd23 pmd23 cdd23 ctd23 : Value} {t0 t1 t2 t3 t4 t5 t6 : Tok}
    (a0 : PySem.W.nsIn K mainGlobals "is_integer" = some (some (.ref f0)))
    (l0 : K.lookup f0 = some ⟨ocd0, odd0, .func (PySem.W.fnOf "is_integer" "is_integer" (defArgs sInteger) (defBody sInteger) (defScope sInteger) .none kVd0 dcd0 pmd0 and0 cdd0 ctd0), sld0⟩)
    (c0 : PySem.W.codeIn K cdd0 "is_integer" = true)
    (k0 : PySem.W.keepIn K (.ref f0) = true)
    (a1 : PySem.W.nsIn K mainGlobals "is_number" = some (some (.ref f1)))
    (l1 : K.lookup f1 = some ⟨ocd1, odd1, .func (PySem.W.fnOf "is_number" "is_number" (defArgs sNumber) (defBody sNumber) (defScope sNumber) .none kVd1 dcd1 pmd1 and1 cdd1 ctd1), sld1⟩)
    (c1 : PySem.W.codeIn K cdd1 "is_number" = true)
    (k1 : PySem.W.keepIn K (.ref f1) = true)
    (a2 : PySem.W.nsIn K mainGlobals "is_word" = some (some (.ref f2)))
    (l2 : K.lookup f2 = some ⟨ocd2, odd2, .func (PySem.W.fnOf "is_word" "is_word" (defArgs sWord) (defBody sWord) (defScope sWord) .none kVd2 dcd2 pmd2 and2 cdd2 ctd2), sld2⟩)
    (c2 : PySem.W.codeIn K cdd2 "is_word" = true)
    (k2 : PySem.W.keepIn K (.ref f2) = true)
    (a3 : PySem.W.nsIn K mainGlobals "is_unit" = some (some (.ref f3)))
    (l3 : K.lookup f3 = some ⟨ocd3, odd3, .func (PySem.W.fnOf "is_unit" "is_unit" (defArgs sUnit) (defBody sUnit) (defScope sUnit) .none kVd3 dcd3 pmd3 and3 cdd3 ctd3), sld3⟩)
    (c3 : PySem.W.codeIn K cdd3 "is_unit" = true)
    (k3 : PySem.W.keepIn K (.ref f3) = true)
    (a4 : PySem.W.nsIn K mainGlobals "line_error" = some (some (.ref f4)))
    (l4 : K.lookup f4 = some ⟨ocd4, odd4, .func (PySem.W.fnOf "line_error" "line_error" (defArgs sLErr) (defBody sLErr) (defScope sLErr) .none kVd4 dcd4 pmd4 and4 cdd4 ctd4), sld4⟩)
    (c4 : PySem.W.codeIn K cdd4 "line_error" = true)
    (k4 : PySem.W.keepIn K (.ref f4) = true)
    (a5 : PySem.W.nsIn K mainGlobals "is_step" = some (some (.ref f5)))
    (l5 : K.lookup f5 = some ⟨ocd5, odd5, .func (PySem.W.fnOf "is_step" "is_step" (defArgs sStep) (defBody sStep) (defScope sStep) .none kVd5 dcd5 pmd5 and5 cdd5 ctd5), sld5⟩)
    (c5 : PySem.W.codeIn K cdd5 "is_step" = true)
    (k5 : PySem.W.keepIn K (.ref f5) = true)
    (a6 : PySem.W.nsIn K mainGlobals "is_letter" = some (some (.ref f6)))
    (l6 : K.lookup f6 = some ⟨ocd6, odd6, .func (PySem.W.fnOf "is_letter" "is_letter" (defArgs sLetter) (defBody sLetter) (defScope sLetter) .none kVd6 dcd6 pmd6 and6 cdd6 ctd6), sld6⟩)
    (c6 : PySem.W.codeIn K cdd6 "is_letter" = true)
    (k6 : PySem.W.keepIn K (.ref f6) = true)
    (a7 : PySem.W.nsIn K mainGlobals "is_turning" = some (some (.ref f7)))
    (l7 : K.lookup f7 = some ⟨ocd7, odd7, .func (PySem.W.fnOf "is_turning" "is_turning" (defArgs sTurning) (defBody sTurning) (defScope sTurning) .none kVd7 dcd7 pmd7 and7 cdd7 ctd7), sld7⟩)
    (c7 : PySem.W.codeIn K cdd7 "is_turning" = true)
    (k7 : PySem.W.keepIn K (.ref f7) = true)
    (a8 : PySem.W.nsIn K mainGlobals "is_putting" = some (some (.ref f8)))
    (l8 : K.lookup f8 = some ⟨ocd8, odd8, .func (PySem.W.fnOf "is_putting" "is_putting" (defArgs sPutting) (defBody sPutting) (defScope sPutting) .none kVd8 dcd8 pmd8 and8 cdd8 ctd8), sld8⟩)
    (c8 : PySem.W.codeIn K cdd8 "is_putting" = true)
    (k8 : PySem.W.keepIn K (.ref f8) = true)
    (a9 : PySem.W.nsIn K mainGlobals "is_swapping" = some (some (.ref f9)))
    (l9 : K.lookup f9 = some ⟨ocd9, odd9, .func (PySem.W.fnOf "is_swapping" "is_swapping" (defArgs sSwapping) (defBody sSwapping) (defScope sSwapping) .none kVd9 dcd9 pmd9 and9 cdd9 ctd9), sld9⟩)
    (c9 : PySem.W.codeIn K cdd9 "is_swapping" = true)
    (k9 : PySem.W.keepIn K (.ref f9) = true)
    (a10 : PySem.W.nsIn K mainGlobals "_law_deck" = some (some (.ref f10)))
    (l10 : K.lookup f10 = some ⟨ocd10, odd10, .func (PySem.W.fnOf "_law_deck" "_law_deck" (defArgs sDeck) (defBody sDeck) (defScope sDeck) .none kVd10 dcd10 pmd10 and10 cdd10 ctd10), sld10⟩)
    (c10 : PySem.W.codeIn K cdd10 "_law_deck" = true)
    (k10 : PySem.W.keepIn K (.ref f10) = true)
    (a11 : PySem.W.nsIn K mainGlobals "_law_draw" = some (some (.ref f11)))
    (l11 : K.lookup f11 = some ⟨ocd11, odd11, .func (PySem.W.fnOf "_law_draw" "_law_draw" (defArgs sDraw) (defBody sDraw) (defScope sDraw) .none kVd11 dcd11 pmd11 and11 cdd11 ctd11), sld11⟩)
    (c11 : PySem.W.codeIn K cdd11 "_law_draw" = true)
    (k11 : PySem.W.keepIn K (.ref f11) = true)
    (a12 : PySem.W.nsIn K mainGlobals "_law_one" = some (some (.ref f12)))
    (l12 : K.lookup f12 = some ⟨ocd12, odd12, .func (PySem.W.fnOf "_law_one" "_law_one" (defArgs sOne) (defBody sOne) (defScope sOne) .none kVd12 dcd12 pmd12 and12 cdd12 ctd12), sld12⟩)
    (c12 : PySem.W.codeIn K cdd12 "_law_one" = true)
    (k12 : PySem.W.keepIn K (.ref f12) = true)
    (a13 : PySem.W.nsIn K mainGlobals "_law_step" = some (some (.ref f13)))
    (l13 : K.lookup f13 = some ⟨ocd13, odd13, .func (PySem.W.fnOf "_law_step" "_law_step" (defArgs sStepL) (defBody sStepL) (defScope sStepL) .none kVd13 dcd13 pmd13 and13 cdd13 ctd13), sld13⟩)
    (c13 : PySem.W.codeIn K cdd13 "_law_step" = true)
    (k13 : PySem.W.keepIn K (.ref f13) = true)
    (a14 : PySem.W.nsIn K mainGlobals "_law_swap" = some (some (.ref f14)))
    (l14 : K.lookup f14 = some ⟨ocd14, odd14, .func (PySem.W.fnOf "_law_swap" "_law_swap" (defArgs sSwapL) (defBody sSwapL) (defScope sSwapL) .none kVd14 dcd14 pmd14 and14 cdd14 ctd14), sld14⟩)
    (c14 : PySem.W.codeIn K cdd14 "_law_swap" = true)
    (k14 : PySem.W.keepIn K (.ref f14) = true)
    (a15 : PySem.W.nsIn K mainGlobals "_law_line" = some (some (.ref f15)))
    (l15 : K.lookup f15 = some ⟨ocd15, odd15, .func (PySem.W.fnOf "_law_line" "_law_line" (defArgs sLineL) (defBody sLineL) (defScope sLineL) .none kVd15 dcd15 pmd15 and15 cdd15 ctd15), sld15⟩)
    (c15 : PySem.W.codeIn K cdd15 "_law_line" = true)
    (k15 : PySem.W.keepIn K (.ref f15) = true)
    (a16 : PySem.W.nsIn K mainGlobals "_law_otherwise" = some (some (.ref f16)))
    (l16 : K.lookup f16 = some ⟨ocd16, odd16, .func (PySem.W.fnOf "_law_otherwise" "_law_otherwise" (defArgs sOther) (defBody sOther) (defScope sOther) .none kVd16 dcd16 pmd16 and16 cdd16 ctd16), sld16⟩)
    (c16 : PySem.W.codeIn K cdd16 "_law_otherwise" = true)
    (k16 : PySem.W.keepIn K (.ref f16) = true)
    (a17 : PySem.W.nsIn K mainGlobals "_law_whole" = some (some (.ref f17)))
    (l17 : K.lookup f17 = some ⟨ocd17, odd17, .func (PySem.W.fnOf "_law_whole" "_law_whole" (defArgs sWhole) (defBody sWhole) (defScope sWhole) .none kVd17 dcd17 pmd17 and17 cdd17 ctd17), sld17⟩)
    (c17 : PySem.W.codeIn K cdd17 "_law_whole" = true)
    (k17 : PySem.W.keepIn K (.ref f17) = true)
    (a18 : PySem.W.nsIn K mainGlobals "_law_is_of_letters" = some (some (.ref f18)))
    (l18 : K.lookup f18 = some ⟨ocd18, odd18, .func (PySem.W.fnOf "_law_is_of_letters" "_law_is_of_letters" (defArgs sOfLet) (defBody sOfLet) (defScope sOfLet) .none kVd18 dcd18 pmd18 and18 cdd18 ctd18), sld18⟩)
    (c18 : PySem.W.codeIn K cdd18 "_law_is_of_letters" = true)
    (k18 : PySem.W.keepIn K (.ref f18) = true)
    (a19 : PySem.W.nsIn K mainGlobals "_law_are_rows" = some (some (.ref f19)))
    (l19 : K.lookup f19 = some ⟨ocd19, odd19, .func (PySem.W.fnOf "_law_are_rows" "_law_are_rows" (defArgs sAreRows) (defBody sAreRows) (defScope sAreRows) .none kVd19 dcd19 pmd19 and19 cdd19 ctd19), sld19⟩)
    (c19 : PySem.W.codeIn K cdd19 "_law_are_rows" = true)
    (k19 : PySem.W.keepIn K (.ref f19) = true)
    (a20 : PySem.W.nsIn K mainGlobals "_law_are_pairs" = some (some (.ref f20)))
    (l20 : K.lookup f20 = some ⟨ocd20, odd20, .func (PySem.W.fnOf "_law_are_pairs" "_law_are_pairs" (defArgs sArePairs) (defBody sArePairs) (defScope sArePairs) .none kVd20 dcd20 pmd20 and20 cdd20 ctd20), sld20⟩)
    (c20 : PySem.W.codeIn K cdd20 "_law_are_pairs" = true)
    (k20 : PySem.W.keepIn K (.ref f20) = true)
    (a21 : PySem.W.nsIn K mainGlobals "_law_is_step" = some (some (.ref f21)))
    (l21 : K.lookup f21 = some ⟨ocd21, odd21, .func (PySem.W.fnOf "_law_is_step" "_law_is_step" (defArgs sIsStep) (defBody sIsStep) (defScope sIsStep) .none kVd21 dcd21 pmd21 and21 cdd21 ctd21), sld21⟩)
    (c21 : PySem.W.codeIn K cdd21 "_law_is_step" = true)
    (k21 : PySem.W.keepIn K (.ref f21) = true)
    (a22 : PySem.W.nsIn K mainGlobals "_law_due" = some (some (.ref f22)))
    (l22 : K.lookup f22 = some ⟨ocd22, odd22, .func (PySem.W.fnOf "_law_due" "_law_due" (defArgs sDue) (defBody sDue) (defScope sDue) .none kVd22 dcd22 pmd22 and22 cdd22 ctd22), sld22⟩)
    (c22 : PySem.W.codeIn K cdd22 "_law_due" = true)
    (k22 : PySem.W.keepIn K (.ref f22) = true)
    (a23 : PySem.W.nsIn K mainGlobals "law" = some (some (.ref f23)))
    (l23 : K.lookup f23 = some ⟨ocd23, odd23, .func (PySem.W.fnOf "law" "law" (defArgs sLaw) (defBody sLaw) (defScope sLaw) .none kVd23 dcd23 pmd23 and23 cdd23 ctd23), sld23⟩)
    (c23 : PySem.W.codeIn K cdd23 "law" = true)
    (k23 : PySem.W.keepIn K (.ref f23) = true)
    (z0 : PySem.W.nsIn K mainGlobals "len" = some none)
    (z1 : PySem.W.nsIn K mainGlobals "int" = some none)
    (z2 : PySem.W.nsIn K mainGlobals "range" = some none)
    (z3 : PySem.W.nsIn K mainGlobals "tuple" = some none)
    (z4 : PySem.W.nsIn K mainGlobals "list" = some none)
    (z5 : PySem.W.nsIn K mainGlobals "isinstance" = some none)
    (z6 : PySem.W.nsIn K mainGlobals "all" = some none)
    (z7 : PySem.W.nsIn K mainGlobals "abs" = some none)
    (z8 : PySem.W.nsIn K mainGlobals "bool" = some none)
    (z9 : PySem.W.nsIn K mainGlobals "repr" = some none)
    (z10 : PySem.W.nsIn K mainGlobals "set" = some none)
    (z11 : PySem.W.nsIn K mainGlobals "str" = some none)
    (z12 : PySem.W.nsIn K mainGlobals "enumerate" = some none)
    (m0 : PySem.W.nsIn K mainGlobals "MAX_COUNT" = some (some (.int 9 t0)))
    (m1 : PySem.W.nsIn K mainGlobals "MAX_CUT" = some (some (.int 30 t1)))
    (m2 : PySem.W.nsIn K mainGlobals "MAX_LINE" = some (some (.int 3 t2)))
    (m3 : PySem.W.nsIn K mainGlobals "MAX_PAIRS" = some (some (.int 4 t3)))
    (m4 : PySem.W.nsIn K mainGlobals "MAX_PASS" = some (some (.int 4 t4)))
    (m5 : PySem.W.nsIn K mainGlobals "MAX_PIECE" = some (some (.int 2 t5)))
    (m6 : PySem.W.nsIn K mainGlobals "LETTERS" = some (some (.str "abc" t6))) :
    ∃ fd : FuncData, (∀ (s : Shared) (v : Value), BindsTo s fd ⟨[v], []⟩ [("_law_script", v)]) ∧ ∀ base : Heap, K.In base → base.Ns mainGlobals mg → GRun l.prog w K mg base 8 fa fd ["_law_script"] (spLaw K) := by
  have e := hfa.symm.trans (PySem.W.mg_of inK atG a23)
  cases e
  have T : Mg mg := ⟨PySem.W.mg_none_of inK atG z0, PySem.W.mg_none_of inK atG z1, PySem.W.mg_none_of inK atG z2, PySem.W.mg_none_of inK atG z3, PySem.W.mg_none_of inK atG z4, PySem.W.mg_none_of inK atG z5, PySem.W.mg_none_of inK atG z6, PySem.W.mg_none_of inK atG z7, PySem.W.mg_none_of inK atG z8, PySem.W.mg_none_of inK atG z9, PySem.W.mg_none_of inK atG z10, PySem.W.mg_none_of inK atG z11, PySem.W.mg_none_of inK atG z12, ⟨_, PySem.W.mg_of inK atG m0⟩, ⟨_, PySem.W.mg_of inK atG m1⟩, ⟨_, PySem.W.mg_of inK atG m2⟩, ⟨_, PySem.W.mg_of inK atG m3⟩, ⟨_, PySem.W.mg_of inK atG m4⟩, ⟨_, PySem.W.mg_of inK atG m5⟩, ⟨_, PySem.W.mg_of inK atG m6⟩⟩
  have F0 := fun_mk (st := sInteger) l0 c0 k0
  have b0 := F0.binds (ps := ["value"]) fun _ _ _ _ _ _ us hl => match us, hl with | [_], _ => rfl
  have g0 := PySem.W.mg_of inK atG a0
  have F1 := fun_mk (st := sNumber) l1 c1 k1
  have b1 := F1.binds (ps := ["value", "least", "most"]) fun _ _ _ _ _ _ us hl => match us, hl with | [_, _, _], _ => rfl
  have g1 := PySem.W.mg_of inK atG a1
  have F2 := fun_mk (st := sWord) l2 c2 k2
  have b2 := F2.binds (ps := ["value", "letters", "most"]) fun _ _ _ _ _ _ us hl => match us, hl with | [_, _, _], _ => rfl
  have g2 := PySem.W.mg_of inK atG a2
  have F3 := fun_mk (st := sUnit) l3 c3 k3
  have b3 := F3.binds (ps := ["value", "letters"]) fun _ _ _ _ _ _ us hl => match us, hl with | [_, _], _ => rfl
  have g3 := PySem.W.mg_of inK atG a3
  have F4 := fun_mk (st := sLErr) l4 c4 k4
  have b4 := F4.binds (ps := ["letters", "value"]) fun _ _ _ _ _ _ us hl => match us, hl with | [_, _], _ => rfl
  have g4 := PySem.W.mg_of inK atG a4
  have F5 := fun_mk (st := sStep) l5 c5 k5
  have b5 := F5.binds (ps := ["value", "letters"]) fun _ _ _ _ _ _ us hl => match us, hl with | [_, _], _ => rfl
  have g5 := PySem.W.mg_of inK atG a5
  have F6 := fun_mk (st := sLetter) l6 c6 k6
  have b6 := F6.binds (ps := ["value", "letters"]) fun _ _ _ _ _ _ us hl => match us, hl with | [_, _], _ => rfl
  have g6 := PySem.W.mg_of inK atG a6
  have F7 := fun_mk (st := sTurning) l7 c7 k7
  have b7 := F7.binds (ps := ["value", "letters"]) fun _ _ _ _ _ _ us hl => match us, hl with | [_, _], _ => rfl
  have g7 := PySem.W.mg_of inK atG a7
  have F8 := fun_mk (st := sPutting) l8 c8 k8
  have b8 := F8.binds (ps := ["value", "letters", "turns"]) fun _ _ _ _ _ _ us hl => match us, hl with | [_, _, _], _ => rfl
  have g8 := PySem.W.mg_of inK atG a8
  have F9 := fun_mk (st := sSwapping) l9 c9 k9
  have b9 := F9.binds (ps := ["value", "letters"]) fun _ _ _ _ _ _ us hl => match us, hl with | [_, _], _ => rfl
  have g9 := PySem.W.mg_of inK atG a9
  have F10 := fun_mk (st := sDeck) l10 c10 k10
  have b10 := F10.binds (ps := ["_law_script"]) fun _ _ _ _ _ _ us hl => match us, hl with | [_], _ => rfl
  have g10 := PySem.W.mg_of inK atG a10
  have F11 := fun_mk (st := sDraw) l11 c11 k11
  have b11 := F11.binds (ps := ["_law_deck_here", "_law_most"]) fun _ _ _ _ _ _ us hl => match us, hl with | [_, _], _ => rfl
  have g11 := PySem.W.mg_of inK atG a11
  have F12 := fun_mk (st := sOne) l12 c12 k12
  have b12 := F12.binds (ps := ["_law_deck_here", "_law_items"]) fun _ _ _ _ _ _ us hl => match us, hl with | [_, _], _ => rfl
  have g12 := PySem.W.mg_of inK atG a12
  have F13 := fun_mk (st := sStepL) l13 c13 k13
  have b13 := F13.binds (ps := ["_law_deck_here", "_law_letters", "_law_word"]) fun _ _ _ _ _ _ us hl => match us, hl with | [_, _, _], _ => rfl
  have g13 := PySem.W.mg_of inK atG a13
  have F14 := fun_mk (st := sSwapL) l14 c14 k14
  have b14 := F14.binds (ps := ["_law_deck_here", "_law_letters"]) fun _ _ _ _ _ _ us hl => match us, hl with | [_, _], _ => rfl
  have g14 := PySem.W.mg_of inK atG a14
  have F15 := fun_mk (st := sLineL) l15 c15 k15
  have b15 := F15.binds (ps := ["_law_deck_here", "_law_letters", "_law_most"]) fun _ _ _ _ _ _ us hl => match us, hl with | [_, _, _], _ => rfl
  have g15 := PySem.W.mg_of inK atG a15
  have F16 := fun_mk (st := sOther) l16 c16 k16
  have b16 := F16.binds (ps := ["_law_deck_here", "_law_value", "_law_deep"]) fun _ _ _ _ _ _ us hl => match us, hl with | [_, _, _], _ => rfl
  have g16 := PySem.W.mg_of inK atG a16
  have F17 := fun_mk (st := sWhole) l17 c17 k17
  have b17 := F17.binds (ps := ["_law_value", "_law_least", "_law_most"]) fun _ _ _ _ _ _ us hl => match us, hl with | [_, _, _], _ => rfl
  have g17 := PySem.W.mg_of inK atG a17
  have F18 := fun_mk (st := sOfLet) l18 c18 k18
  have b18 := F18.binds (ps := ["_law_letters", "_law_value", "_law_least", "_law_most"]) fun _ _ _ _ _ _ us hl => match us, hl with | [_, _, _, _], _ => rfl
  have g18 := PySem.W.mg_of inK atG a18
  have F19 := fun_mk (st := sAreRows) l19 c19 k19
  have b19 := F19.binds (ps := ["_law_letters", "_law_rows", "_law_outs"]) fun _ _ _ _ _ _ us hl => match us, hl with | [_, _, _], _ => rfl
  have g19 := PySem.W.mg_of inK atG a19
  have F20 := fun_mk (st := sArePairs) l20 c20 k20
  have b20 := F20.binds (ps := ["_law_letters", "_law_value"]) fun _ _ _ _ _ _ us hl => match us, hl with | [_, _], _ => rfl
  have g20 := PySem.W.mg_of inK atG a20
  have F21 := fun_mk (st := sIsStep) l21 c21 k21
  have b21 := F21.binds (ps := ["_law_letters", "_law_value"]) fun _ _ _ _ _ _ us hl => match us, hl with | [_, _], _ => rfl
  have g21 := PySem.W.mg_of inK atG a21
  have F22 := fun_mk (st := sDue) l22 c22 k22
  have b22 := F22.binds (ps := ["_law_letters", "_law_value"]) fun _ _ _ _ _ _ us hl => match us, hl with | [_, _], _ => rfl
  have g22 := PySem.W.mg_of inK atG a22
  have F23 := fun_mk (st := sLaw) l23 c23 k23
  refine ⟨PySem.W.fnOf "law" "law" (defArgs sLaw) (defBody sLaw) (defScope sLaw) .none kVd23 dcd23 pmd23 and23 cdd23 ctd23, fun s v => .of_eq rfl, fun base _ _ => ?_⟩
  have I := ok_Integer (P := l.prog) (w := w) (mg := mg) (base := base) F0 T
  have N := ok_Number F1 I F0 b0 g0
  have W := ok_word (P := l.prog) (w := w) (mg := mg) (base := base) F2 T
  have U := ok_unit F3 N F1 b1 g1 T
  have G := ok_letter F6 W F2 b2 g2 T
  have R := ok_turning F7 N F1 b1 g1 T
  have P := ok_putting F8 G F6 b6 g6 T
  have S := ok_swapping F9 W F2 b2 g2 T
  have ST := ok_step F5 U F3 b3 g3 N F1 b1 g1 G F6 b6 g6 R F7 b7 g7 P F8 b8 g8 S F9 b9 g9 T
  have LE := ok_lErr F4 ST F5 b5 g5 T
  have DK := ok_deck (P := l.prog) (w := w) (mg := mg) (base := base) F10 T.abs
  have D := ok_draw (P := l.prog) (w := w) (mg := mg) (base := base) F11 T.len T.int
  have O := ok_one F12 D F11 b11 g11 T.len
  have OS := ok_oneS F12 D F11 b11 g11 T.len
  have SW := ok_swapL F14 D F11 b11 g11 OS F12 b12 g12 T
  have SL := ok_stepL F13 D F11 b11 g11 O F12 b12 g12 OS F12 b12 g12 SW F14 b14 g14 T
  have LL := ok_lineL F15 D F11 b11 g11 O F12 b12 g12 SL F13 b13 g13 T
  have BT := ok_other F16 g16 b16 D F11 b11 g11 O F12 b12 g12 T 4
  have WH := ok_Whole (P := l.prog) (w := w) (mg := mg) (base := base) F17 T
  have OF := ok_of (P := l.prog) (w := w) (mg := mg) (base := base) F18 T
  have RW := ok_rows F19 WH F17 b17 g17 OF F18 b18 g18 T
  have PR := ok_pairs F20 OF F18 b18 g18 T
  have IS := ok_isS F21 WH F17 b17 g17 OF F18 b18 g18 RW F19 b19 g19 PR F20 b20 g20 T
  have DU := ok_due F22 IS F21 b21 g21 T
  exact ok_law F23 DK F10 b10 g10 D F11 b11 g11 O F12 b12 g12 LL F15 b15 g15 BT F16 b16 g16 LE F4 b4 g4 DU F22 b22 g22 T
end Ver
open PySem PySem.W PyProof.Rows in
set_option maxRecDepth 100000 in
set_option maxHeartbeats 0 in
theorem PySem.Challenge.cw_sortedshelves_k34_lines_with_errors_holds : PySem.Challenge.rw_sortedshelves_k34_lines_with_errors.Holds := by
  w_on; o_law; k_head; (case hw => w_witness2)
  k_fill
  refine Ver.gwalk (l := PySem.Challenge.rw_sortedshelves_k34_lines_with_errors) (n := 63) (k := 8) (x := "_law_script") (sp := fun w => Ver.spLaw _) rfl (by decide) rfl ⟨rfl, by decide, by decide⟩ (fun w h Y => PySem.W.kIn_of Y) ?F (fun _ _ a ns hl hS => ⟨a, ns, rfl, hS, hl, fun _ => rfl⟩)
  case F =>
    intro w mg fa h inK atG hmg
    refine' Ver.all_mk inK atG hmg ?a0 ?l0 ?c0 ?k0 ?a1 ?l1 ?c1 ?k1 ?a2 ?l2 ?c2 ?k2 ?a3 ?l3 ?c3 ?k3 ?a4 ?l4 ?c4 ?k4 ?a5 ?l5 ?c5 ?k5 ?a6 ?l6 ?c6 ?k6 ?a7 ?l7 ?c7 ?k7 ?a8 ?l8 ?c8 ?k8 ?a9 ?l9 ?c9 ?k9 ?a10 ?l10 ?c10 ?k10 ?a11 ?l11 ?c11 ?k11 ?a12 ?l12 ?c12 ?k12 ?a13 ?l13 ?c13 ?k13 ?a14 ?l14 ?c14 ?k14 ?a15 ?l15 ?c15 ?k15 ?a16 ?l16 ?c16 ?k16 ?a17 ?l17 ?c17 ?k17 ?a18 ?l18 ?c18 ?k18 ?a19 ?l19 ?c19 ?k19 ?a20 ?l20 ?c20 ?k20 ?a21 ?l21 ?c21 ?k21 ?a22 ?l22 ?c22 ?k22 ?a23 ?l23 ?c23 ?k23 ?z0 ?z1 ?z2 ?z3 ?z4 ?z5 ?z6 ?z7 ?z8 ?z9 ?z10 ?z11 ?z12 ?m0 ?m1 ?m2 ?m3 ?m4 ?m5 ?m6
    (case a0 => k_is)
    (case l0 => k_is)
    (case c0 => k_is)
    (case k0 => k_is)
    (case a1 => k_is)
    (case l1 => k_is)
    (case c1 => k_is)
    (case k1 => k_is)
    (case a2 => k_is)
    (case l2 => k_is)
    (case c2 => k_is)
    (case k2 => k_is)
    (case a3 => k_is)
    (case l3 => k_is)
    (case c3 => k_is)
    (case k3 => k_is)
    (case a4 => k_is)
    (case l4 => k_is)
    (case c4 => k_is)
    (case k4 => k_is)
    (case a5 => k_is)
    (case l5 => k_is)
    (case c5 => k_is)
    (case k5 => k_is)
    (case a6 => k_is)
    (case l6 => k_is)
    (case c6 => k_is)
    (case k6 => k_is)
    (case a7 => k_is)
    (case l7 => k_is)
    (case c7 => k_is)
    (case k7 => k_is)
    (case a8 => k_is)
    (case l8 => k_is)
    (case c8 => k_is)
    (case k8 => k_is)
    (case a9 => k_is)
    (case l9 => k_is)
    (case c9 => k_is)
    (case k9 => k_is)
    (case a10 => k_is)
    (case l10 => k_is)
    (case c10 => k_is)
    (case k10 => k_is)
    (case a11 => k_is)
    (case l11 => k_is)
    (case c11 => k_is)
    (case k11 => k_is)
    (case a12 => k_is)
    (case l12 => k_is)
    (case c12 => k_is)
    (case k12 => k_is)
    (case a13 => k_is)
    (case l13 => k_is)
    (case c13 => k_is)
    (case k13 => k_is)
    (case a14 => k_is)
    (case l14 => k_is)
    (case c14 => k_is)
    (case k14 => k_is)
    (case a15 => k_is)
    (case l15 => k_is)
    (case c15 => k_is)
    (case k15 => k_is)
    (case a16 => k_is)
    (case l16 => k_is)
    (case c16 => k_is)
    (case k16 => k_is)
    (case a17 => k_is)
    (case l17 => k_is)
    (case c17 => k_is)
    (case k17 => k_is)
    (case a18 => k_is)
    (case l18 => k_is)
    (case c18 => k_is)
    (case k18 => k_is)
    (case a19 => k_is)
    (case l19 => k_is)
    (case c19 => k_is)
    (case k19 => k_is)
    (case a20 => k_is)
    (case l20 => k_is)
    (case c20 => k_is)
    (case k20 => k_is)
    (case a21 => k_is)
    (case l21 => k_is)
    (case c21 => k_is)
    (case k21 => k_is)
    (case a22 => k_is)
    (case l22 => k_is)
    (case c22 => k_is)
    (case k22 => k_is)
    (case a23 => k_is)
    (case l23 => k_is)
    (case c23 => k_is)
    (case k23 => k_is)
    (case z0 => k_is)
    (case z1 => k_is)
    (case z2 => k_is)
    (case z3 => k_is)
    (case z4 => k_is)
    (case z5 => k_is)
    (case z6 => k_is)
    (case z7 => k_is)
    (case z8 => k_is)
    (case z9 => k_is)
    (case z10 => k_is)
    (case z11 => k_is)
    (case z12 => k_is)
    (case m0 => k_is)
    (case m1 => k_is)
    (case m2 => k_is)
    (case m3 => k_is)
    (case m4 => k_is)
    (case m5 => k_is)
    (case m6 => k_is)
#print axioms PySem.Challenge.cw_sortedshelves_k34_lines_with_errors_holds
