import PyProof.Rows.All
import Wide.All
import OpenK.AllK
import Wide.FinOn
import PyProof.ReprRoads
import PyProof.ReprLen
import HandS.ForMost
import HandS.Conv
import HandS.IsInst
import HandS.TupAny
import HandS.TupMul
import HandS.Wide
import HandS.Style
import HandS.Evl
import HandS.Strs
import HandS.Codes
import HandS.StrMore
import HandS.Replace
import PyProof.TupleOfStr
import HandS.NoneIn
import KE.GoesMore
import HandS.Walk
import HandS.Small
import HandS.Deep
import HandS.HeadHook3
import PyProof.ListStr
import PySem.Challenge.RW_sortedshelves_k50_queries_with_errors
set_option Elab.async false
set_option linter.all false
set_option maxRecDepth 100000
set_option maxHeartbeats 4000000
namespace Ver
open PySem PySem.Spec PyProof.Rows L2
set_option pp.maxSteps 200
set_option pp.deepTerms false

/-! ### data as it lies in the heap, apart from the addresses in B -/
mutual
inductive Dt (B : Addr → Prop) (K : PySem.W.Frag) (H : Hp) : V → PyData → Prop
  | non : Dt B K H .non .none
  | bl (b : Bool) : Dt B K H (.bl b) (.bool b)
  | int (i : Int) : Dt B K H (.int i) (.int i)
  | str (x : Str) : Dt B K H (.str x) (.str x)
  | lst {a : Addr} {xs : List V} {ds : List PyData} (nb : ¬ B a) (ne : a ≠ sysModules) (hs : Rd H a (.lst xs)) (ha : DtAll B K H xs ds) : Dt B K H (.ref a) (.list ds)
  | tup {a : Addr} {xs : List V} {ds : List PyData} (nb : ¬ B a) (hs : Rd H a (.tup xs)) (ha : DtAll B K H xs ds) : Dt B K H (.ref a) (.tuple ds)
  | emp {a : Addr} (nb : ¬ B a) (h : H a = some (.dK [])) : Dt B K H (.ref a) (.dict [])
inductive DtAll (B : Addr → Prop) (K : PySem.W.Frag) (H : Hp) : List V → List PyData → Prop
  | nil : DtAll B K H [] []
  | cons {v : V} {vs : List V} {d : PyData} {ds : List PyData} (hd : Dt B K H v d) (tl : DtAll B K H vs ds) : DtAll B K H (v :: vs) (d :: ds)
end

/-- all that is tracked outside of B stays -/
def Keep (B : Addr → Prop) (H H' : Hp) : Prop := ∀ b o, ¬ B b → H b = some o → H' b = some o
theorem Keep.rfl' {B : Addr → Prop} {H : Hp} : Keep B H H := fun _ _ _ e => e
theorem Keep.trans {B : Addr → Prop} {H H1 H2 : Hp} (x : Keep B H H1) (y : Keep B H1 H2) : Keep B H H2 := fun b o n e => y b o n (x b o n e)
theorem Keep.same {B : Addr → Prop} {H H' : Hp} (x : Same H H') : Keep B H H' := fun b o _ e => x b o e
theorem keep_new {B : Addr → Prop} {H : Hp} {p : Addr} {o : HO} (n : H p = none) : Keep B H (upd H p o) := fun b u _ e => by
  rw [upd_ne (ne_of_none e n)]
  exact e
theorem same_new {H : Hp} {p : Addr} {o : HO} (n : H p = none) : Same H (upd H p o) := fun b u e => by
  rw [upd_ne (ne_of_none e n)]
  exact e
theorem Keep.rd {B : Addr → Prop} {H H' : Hp} {a : Addr} {o : HO} (k : Keep B H H') (nb : ¬ B a) (h : Rd H a o) : Rd H' a o := by
  rcases h with h | ⟨u, h⟩
  · exact .inl (k _ _ nb h)
  · exact .inr ⟨u, k _ _ nb h⟩
theorem Keep.seqL {B : Addr → Prop} {K : PySem.W.Frag} {H H' : Hp} {a : Addr} {xs : List V} (k : Keep B H H') (nb : ¬ B a) (h : SqL K H a xs) : SqL K H' a xs := by
  rcases h with (h | ⟨o, h⟩) | h
  · exact .inl (.inl (k _ _ nb h))
  · exact .inl (.inr ⟨o, k _ _ nb h⟩)
  · exact .inr h
theorem Keep.seqT {B : Addr → Prop} {K : PySem.W.Frag} {H H' : Hp} {a : Addr} {xs : List V} (k : Keep B H H') (nb : ¬ B a) (h : SqT K H a xs) : SqT K H' a xs := by
  rcases h with (h | ⟨o, h⟩) | h
  · exact .inl (.inl (k _ _ nb h))
  · exact .inl (.inr ⟨o, k _ _ nb h⟩)
  · exact .inr h
mutual
theorem Dt.keep {B : Addr → Prop} {K : PySem.W.Frag} {H H' : Hp} (k : Keep B H H') : ∀ (d : PyData) (v : V), Dt B K H v d → Dt B K H' v d
  | .none, _, h => by cases h; exact .non
  | .bool _, _, h => by cases h; exact .bl _
  | .int _, _, h => by cases h; exact .int _
  | .str _, _, h => by cases h; exact .str _
  | .list ds, _, h => by
    cases h with
    | lst nb ne hs ha => exact .lst nb ne (k.rd nb hs) (DtAll.keep k ds _ ha)
  | .tuple ds, _, h => by
    cases h with
    | tup nb hs ha => exact .tup nb (k.rd nb hs) (DtAll.keep k ds _ ha)
  | .dict _, _, h => by
    cases h with
    | emp nb e => exact .emp nb (k _ _ nb e)
theorem DtAll.keep {B : Addr → Prop} {K : PySem.W.Frag} {H H' : Hp} (k : Keep B H H') : ∀ (ds : List PyData) (vs : List V), DtAll B K H vs ds → DtAll B K H' vs ds
  | [], _, h => by cases h; exact .nil
  | d :: ds, _, h => by
    cases h with
    | cons h1 h2 => exact .cons (Dt.keep k d _ h1) (DtAll.keep k ds _ h2)
end
theorem DtAll.len {B : Addr → Prop} {K : PySem.W.Frag} {H : Hp} : ∀ {vs : List V} {ds : List PyData}, DtAll B K H vs ds → vs.length = ds.length
  | _, _, .nil => rfl
  | _, _, .cons _ t => congrArg (· + 1) (DtAll.len t)
theorem DtAll.append {B : Addr → Prop} {K : PySem.W.Frag} {H : Hp} : ∀ {vs ws : List V} {ds es : List PyData}, DtAll B K H vs ds → DtAll B K H ws es → DtAll B K H (vs ++ ws) (ds ++ es)
  | _, _, _, _, .nil, q => q
  | _, _, _, _, .cons r t, q => .cons r (DtAll.append t q)
theorem DtAll.take {B : Addr → Prop} {K : PySem.W.Frag} {H : Hp} : ∀ {vs : List V} {ds : List PyData} (n : Nat), DtAll B K H vs ds → DtAll B K H (vs.take n) (ds.take n)
  | _, _, 0, _ => .nil
  | _, _, _ + 1, .nil => .nil
  | _, _, n + 1, .cons r t => .cons r (DtAll.take n t)
theorem DtAll.drop {B : Addr → Prop} {K : PySem.W.Frag} {H : Hp} : ∀ {vs : List V} {ds : List PyData} (n : Nat), DtAll B K H vs ds → DtAll B K H (vs.drop n) (ds.drop n)
  | _, _, 0, h => h
  | _, _, _ + 1, .nil => .nil
  | _, _, n + 1, .cons _ t => DtAll.drop n t
theorem DtAll.get {B : Addr → Prop} {K : PySem.W.Frag} {H : Hp} : ∀ {vs : List V} {ds : List PyData} {i : Nat} {d : PyData}, DtAll B K H vs ds → ds[i]? = some d → ∃ v, vs[i]? = some v ∧ Dt B K H v d
  | _, _, _, _, .nil, e => by simp at e
  | _, _, 0, _, .cons r _, e => by
    simp at e
    subst e
    exact ⟨_, rfl, r⟩
  | _, _, i + 1, _, .cons _ t, e => by
    obtain ⟨v, h1, h2⟩ := DtAll.get (i := i) t (by simpa using e)
    exact ⟨v, by simpa using h1, h2⟩
theorem DtAll.getV {B : Addr → Prop} {K : PySem.W.Frag} {H : Hp} : ∀ {vs : List V} {ds : List PyData} {i : Nat} {v : V}, DtAll B K H vs ds → vs[i]? = some v → ∃ d, ds[i]? = some d ∧ Dt B K H v d
  | _, _, _, _, .nil, e => by simp at e
  | _, _, 0, _, .cons r _, e => by
    simp at e
    subst e
    exact ⟨_, rfl, r⟩
  | _, _, i + 1, _, .cons _ t, e => by
    obtain ⟨v, h1, h2⟩ := DtAll.getV (i := i) t (by simpa using e)
    exact ⟨v, by simpa using h1, h2⟩
theorem DtAll.rev {B : Addr → Prop} {K : PySem.W.Frag} {H : Hp} : ∀ {vs : List V} {ds : List PyData}, DtAll B K H vs ds → DtAll B K H vs.reverse ds.reverse
  | _, _, .nil => .nil
  | _, _, .cons r t => by
    rw [List.reverse_cons, List.reverse_cons]
    exact (DtAll.rev t).append (.cons r .nil)
theorem DtAll.rep {B : Addr → Prop} {K : PySem.W.Frag} {H : Hp} {v : V} {d : PyData} (h : Dt B K H v d) : ∀ n : Nat, DtAll B K H (List.replicate n v) (List.replicate n d)
  | 0 => .nil
  | n + 1 => .cons h (DtAll.rep h n)

section
variable {X : Cx} {pins : List (Addr × Obj)} {σ : L2.St} {H : Hp} {s : Shared}
theorem no_entries {knd : KeyKind X.prog X.w Key} {es : List DictEntry} (h : PySem.Pairs knd es ([] : List (Key × Value))) : es = [] := by
  cases h
  rfl
mutual
theorem Dt.reads {B : Addr → Prop} (I : Inv X pins σ H s) : ∀ (d : PyData) (v : V) (u : Value), Dt B X.K H v d → RelV v u → ∃ as, Reads s.heap u d as ∧ sysModules ∉ as
  | .none, _, _, h, r => by
    cases h
    cases r
    exact ⟨[], .none, List.not_mem_nil⟩
  | .bool b, _, _, h, r => by
    cases h
    cases r
    exact ⟨[], .bool b, List.not_mem_nil⟩
  | .int i, _, _, h, r => by
    cases h
    obtain ⟨t, rfl⟩ := r
    exact ⟨[], .int i t, List.not_mem_nil⟩
  | .str x, _, _, h, r => by
    cases h
    obtain ⟨t, rfl⟩ := r
    exact ⟨[], .str x t, List.not_mem_nil⟩
  | .list ds, _, _, h, r => by
    cases h with
    | lst nb ne hs ha =>
      cases r
      obtain ⟨its, rv, ⟨ob, n, ho, hc, _, hd⟩, _⟩ := I.list (.inl hs)
      obtain ⟨as, hr, hn⟩ := DtAll.reads I ds _ its ha rv
      refine ⟨_, .list ho hc hd hr, fun z => ?_⟩
      rcases List.mem_cons.mp z with z | z
      · exact ne z.symm
      · exact hn z
  | .tuple ds, _, _, h, r => by
    cases h with
    | tup nb hs ha =>
      cases r
      obtain ⟨its, rv, ⟨ob, ho, hc, n, hd⟩, _⟩ := I.tuple (.inl hs)
      obtain ⟨as, hr, hn⟩ := DtAll.reads I ds _ its ha rv
      exact ⟨_, .tuple ho hc hd hr, hn⟩
  | .dict _, _, _, h, r => by
    cases h with
    | emp nb e =>
      cases r
      obtain ⟨_, hm, vs, rel, ob, es, ep, ho, hx, hd, _, hp, _⟩ := dk_of I.hok e
      cases rel
      have he := no_entries hp
      refine ⟨_, .dict (kvs := []) ho hx.1 hd (by rw [he]; exact .nil) (by rw [he]; exact .nil), fun z => ?_⟩
      rcases List.mem_cons.mp z with z | z
      · rw [← z] at hm
        simp at hm
      · simp at z
theorem DtAll.reads {B : Addr → Prop} (I : Inv X pins σ H s) : ∀ (ds : List PyData) (vs : List V) (us : List Value), DtAll B X.K H vs ds → Vals vs us → ∃ as, ReadsAll s.heap us ds as ∧ sysModules ∉ as
  | [], _, _, h, r => by
    cases h
    cases r
    exact ⟨[], .nil, List.not_mem_nil⟩
  | d :: ds, _, _, h, r => by
    cases h with
    | cons h1 h2 =>
      cases r with
      | cons r1 r2 =>
        obtain ⟨as, q1, n1⟩ := Dt.reads I d _ _ h1 r1
        obtain ⟨bs, q2, n2⟩ := DtAll.reads I ds _ _ h2 r2
        refine ⟨_, .cons q1 q2, fun z => ?_⟩
        rcases List.mem_append.mp z with z | z
        · exact n1 z
        · exact n2 z
end
end

/-! ### repr -/
section
variable {X : Cx}
def rRepr (K : PySem.W.Frag) : List V → Hp → VK → Prop := fun xs H Q => ∃ (x : V) (d : PyData) (B : Addr → Prop), xs = [x] ∧ Dt B K H x d ∧ d.showable = true ∧ d.depth ≤ 60 ∧ d.shown.length ≤ sizeLine ∧ Q (.str d.shown) H
theorem call_reprD (hG : X.A.guards = some []) (hu : X.A.units + 64 < cLine) : CallR X (.builtin "repr") (rRepr X.K) := by
  intro pins s σ H xs us Q I r h
  obtain ⟨x, d, B, rfl, hd, hs, hdp, hz, q⟩ := h
  obtain ⟨u, rfl, rx⟩ := vals1 r
  obtain ⟨as, rd, hn⟩ := Dt.reads I d x u hd rx
  cases hd with
  | non =>
    cases rx
    exact PySem.P.repr_of_none ⟨.str _, H, I.tok _, ⟨_, rfl⟩, q⟩
  | bl b =>
    cases rx
    exact PySem.P.repr_of_bool ⟨.str _, H, I.tok _, ⟨_, rfl⟩, q⟩
  | int i =>
    obtain ⟨t, rfl⟩ := rx
    exact PySem.P.repr_of_int (by simpa [PyData.showable] using hs) ⟨.str _, H, I.tok _, ⟨_, rfl⟩, q⟩
  | str y =>
    obtain ⟨t, rfl⟩ := rx
    exact PySem.P.repr_of_str ⟨.str _, H, I.tok _, ⟨_, rfl⟩, q⟩ (by simpa only [PyData.shown] using hz)
  | lst nb ne hs' ha =>
    cases rx
    exact repr_of_reads' rd hs (fun _ => hn) hG (by omega) (fun _ _ e => e) (fun h' u tk hk => ⟨.str _, H, I.kept hk, ⟨_, rfl⟩, q⟩) hz
  | tup nb hs' ha =>
    cases rx
    exact repr_of_reads' rd hs (fun _ => hn) hG (by omega) (fun _ _ e => e) (fun h' u tk hk => ⟨.str _, H, I.kept hk, ⟨_, rfl⟩, q⟩) hz
  | emp nb e =>
    cases rx
    exact repr_of_reads' rd hs (fun _ => hn) hG (by omega) (fun _ _ e => e) (fun h' u tk hk => ⟨.str _, H, I.kept hk, ⟨_, rfl⟩, q⟩) hz
end

/-! ### a def called where nothing is being shown (no repr under way) -/
section
variable {P : Program} {w : World} {K : PySem.W.Frag} {mg : Str → Option Value} {base : Heap}
def GRun (P : Program) (w : World) (K : PySem.W.Frag) (mg : Str → Option Value) (base : Heap) (k : Nat) (f : Addr) (fd : FuncData) (ps : List Str) (sp : Sp) : Prop :=
  ∀ (A : Around) (outer : List Env) (s : Shared) (H : Hp) (us : List Value) (vs : List V) (Q : VK),
    A.guards = some [] → Room k A → Env0 P w K mg base A outer s H → BindsTo s fd ⟨us, []⟩ (ps.zip us) → Vals vs us → vs.length = ps.length → sp vs H Q E0 →
    codeAny (model P w) A (.call (.ref f) ⟨us, []⟩) (CR CX0 outer P w H s Q E0) s
theorem grun {x qual : Str} {st : Stmt} {f : Addr} {fd : FuncData} {N ps : List Str} {k : Nat} {sp : Sp} (F : Fun K x qual st f fd) (S : FnScope N ps (defScope st))
    (body : ∀ (cdv : Value) (A : Around) (outer : List Env) (s : Shared) (H : Hp) (vs : List V) (Q : VK), A.guards = some [] → Room k (A.deeper (envOfC qual (defScope st) s.heap.objs.size f cdv)) → sp vs H Q E0 →
      ∃ t, PSs (cxOf CX0 P w K mg base N qual (defScope st) f cdv A outer s H E0).nox (defBody st) t ∧ t { nx := fun _ H' => Q .non H', rt := Q } (start N vs) H) :
    GRun P w K mg base (k + 1) f fd ps sp := by
  obtain ⟨oc, od, kV, doc, pm, an, cdv, ct, osl, rfl, lk, hcd⟩ := F.ex
  intro A outer s H us vs Q hG hr e0 hb r hl hsp
  have inK : K.In s.heap := e0.mod.kin.keeps (fun b o q => (e0.bs b o q).1)
  have noL : s.heap.NoLimit := e0.mod.nolimit.keeps (fun b o q => (e0.bs b o q).1)
  have kinds : ∀ y ∈ ps.zip us, (defScope st).names.lookup y.1 = some .local ∨ ((defScope st).names.lookup y.1 = some .cell ∧ ((cellsFrom (s.heap.objs.size + 1) (defScope st).names []).lookup y.1).isSome = true) := by
    intro y hy
    obtain ⟨n, v⟩ := y
    cases S.par n (List.of_mem_zip hy).1 with
    | inl q => exact Or.inl q
    | inr q => exact Or.inr ⟨q, PySem.W.cellsFrom_some _ _ _ (Or.inl q)⟩
  refine codeAny_call_function hr.depth (inK _ _ lk) rfl S.co S.gen rfl (PySem.W.codeRec_of inK hcd) (hb _ _ _ _ ?_)
  refine wpAny_newFunctionEnv_cells S.kind kinds (fun env he s1 x => ?_)
  cases he
  obtain ⟨t, ht, hq⟩ := body cdv A outer s H vs Q hG (hr.deeper _) hsp
  have J := inv_start (CX := CX0) (mg := mg) (E := E0) S hr.hd e0 hl r x
  refine ⟨noL.keeps x.toInCall.keep, codeAny_func (wpAny_mono (ht.nox.run [] s1 (start N vs) H _ J hq) ?_ (fun e s' z => z))⟩
  intro fl s' z
  cases fl with
  | next =>
    obtain ⟨_, H', J', q⟩ := z
    exact ⟨.non, H', J'.os, J'.bare, J'.base, J'.hok, rfl, q⟩
  | ret u =>
    obtain ⟨v, _, H', J', rv, q⟩ := z
    exact ⟨v, H', J'.os, J'.bare, J'.base, J'.hok, rv, q⟩
  | brk => exact (z.choose_spec.choose_spec.2).elim
  | cont => exact (z.choose_spec.choose_spec.2).elim

/-- called from outside with the object at a, the def at fa answers True and leaves what stood -/
abbrev TrueAt (P : Program) (w : World) (fa a : Addr) (t : Shared) : Prop :=
  codeAny (model P w) callerA (.call (.ref fa) ⟨[.ref a], []⟩)
    (fun r u => r = .ok (.ret (.bool true)) ∧
      OldK t.heap u.heap ∧ u.os = t.os ∧ AllBare u.gens) t
/-- nothing but one list of ints, known, is tracked -/
theorem gcall {k : Nat} {fa a : Addr} {fd : FuncData} {x : Str} {sp : Sp} {s₁ : Shared} {mb : Str → Option Value} {H : Hp}
    (inH : K.In s₁.heap) (atG : s₁.heap.Ns mainGlobals mg) (hb : s₁.heap.Ns builtinsNs mb) (bB : ∀ x : Str, x ≠ "__name__" → mb x = bootBuiltins x) (lim : s₁.heap.NoLimit) (hg : s₁.gens = #[])
    (hr : Room k callerA) (R : ∀ base : Heap, K.In base → base.Ns mainGlobals mg → GRun P w K mg base k fa fd [x] sp) (bind : ∀ (s : Shared) (u : Value), BindsTo s fd ⟨[u], []⟩ [(x, u)])
    (hok : HOk P w H s₁.heap) (only : ∀ b o, H b = some o → b = a ∧ (∃ ob xs, o = .frz ob (.lst xs) ∧ ∀ es ep, ob.data ≠ .dict es ep) ∧ K.lookup a = none)
    (hsp : sp [.ref a] H (fun v _ => v = .bl true) E0) :
    TrueAt P w fa a s₁ := by
  have plain : ∀ {b : Addr} {o : Obj} {es : Array DictEntry} {ep : Nat}, s₁.heap.get? b = some o → o.data = .dict es ep → H b = none := by
    intro b o es ep q d
    cases z : H b with
    | none => rfl
    | some u =>
      obtain ⟨_, ⟨ob, xs, rfl, nd⟩, _⟩ := only b u z
      obtain ⟨q2, _⟩ := hok b _ z
      rw [q] at q2
      cases q2
      exact absurd d (nd es ep)
  have nsB : ∀ {b : Addr} {m : Str → Option Value}, s₁.heap.Ns b m → (hidT s₁.heap H).Ns b m := by
    rintro b m ⟨o, es, ep, q, d, r⟩
    exact ⟨o, es, ep, hidT_get q (plain q d), d, r⟩
  have kB : K.In (hidT s₁.heap H) := by
    intro b o q
    refine hidT_get (inH b o q) ?_
    cases z : H b with
    | none => rfl
    | some u =>
      obtain ⟨e, _, n⟩ := only b u z
      rw [e, n] at q
      cases q
  have md : L2.Mod K mg (hidT s₁.heap H) := by
    obtain ⟨mc, l1, l2⟩ := lim
    exact ⟨kB, nsB atG, ⟨mb, nsB hb, bB⟩, ⟨mc, nsB l1, l2⟩⟩
  have env : Env0 P w K mg (hidT s₁.heap H) callerA [] s₁ H :=
    { frames := rfl, mod := md, bs := fun b o q => of_hidT q, bsz := Nat.le_of_eq (hidT_size _ _), funs := trivial, frf := fun b z => absurd z List.not_mem_nil, hok := hok, bare := .of_eq hg }
  have run := R _ kB (nsB atG) callerA [] s₁ H [.ref a] [.ref a] _ rfl hr env (bind s₁ (.ref a)) (.cons rfl .nil) rfl hsp
  refine codeAny_mono run (fun r s' z => ?_)
  match r, z with
  | .error _, z => exact z.elim
  | .ok .next, z => exact z.elim
  | .ok .brk, z => exact z.elim
  | .ok .cont, z => exact z.elim
  | .ok (.ret u), ⟨v, H', os, bare, un, hok', rv, q⟩ =>
    have q : v = .bl true := q
    cases q
    have rv : u = Value.bool true := rv
    cases rv
    refine ⟨rfl, .of_keep (fun b o e => ?_), os, bare⟩
    cases z : H b with
    | none => exact un.keep b o e z List.not_mem_nil List.not_mem_nil
    | some u =>
      obtain ⟨_, ⟨ob, xs, rfl, _⟩, _⟩ := only b u z
      have g1 := (hok b _ z).1
      have g2 := (hok' b _ (un.frzs b ob _ z)).1
      rw [e] at g1
      cases g1
      exact g2
/-- the law's call, the script tracked or written -/
theorem glaw {k : Nat} {fa a : Addr} {fd : FuncData} {x : Str} {sp : Sp} {s₁ : Shared} {mb : Str → Option Value} {vs : List Value} {ns : List Int}
    (inH : K.In s₁.heap) (atG : s₁.heap.Ns mainGlobals mg) (hb : s₁.heap.Ns builtinsNs mb) (bB : ∀ x : Str, x ≠ "__name__" → mb x = bootBuiltins x) (lim : s₁.heap.NoLimit) (hg : s₁.gens = #[])
    (ha : s₁.heap.get? a = some { cls := .type "list", data := .seq vs.toArray }) (hi : IntsAre vs ns) (hl : ns.length ≤ sizeLine)
    (hr : Room k callerA) (R : ∀ base : Heap, K.In base → base.Ns mainGlobals mg → GRun P w K mg base k fa fd [x] sp) (bind : ∀ (s : Shared) (u : Value), BindsTo s fd ⟨[u], []⟩ [(x, u)])
    (hsp : ∀ H : Hp, SqL K H a (ns.map V.int) → sp [.ref a] H (fun v _ => v = .bl true) E0) :
    TrueAt P w fa a s₁ := by
  have rv := vals_ints hi
  cases q : K.lookup a with
  | some o =>
    have e := (inH a o q).symm.trans ha
    cases e
    refine gcall (H := fun _ => none) inH atG hb bB lim hg hr R bind (fun b u z => by cases z) (fun b u z => by cases z) (hsp _ (.inr ⟨_, vs.toArray, _, q, rfl, rfl, rfl, ?_, by simpa using rv⟩))
    rw [List.size_toArray, hi.length]
    exact hl
  | none =>
    have tr : ∀ b u, upd (fun _ => none) a (.frz { cls := .type "list", data := .seq vs.toArray } (.lst (ns.map V.int))) b = some u → b = a ∧ u = .frz { cls := .type "list", data := .seq vs.toArray } (.lst (ns.map V.int)) := by
      intro b u z
      by_cases h : b = a
      · rw [h, upd_same] at z
        exact ⟨h, (Option.some.inj z).symm⟩
      · rw [upd_ne h] at z
        cases z
    refine gcall (H := upd (fun _ => none) a (.frz { cls := .type "list", data := .seq vs.toArray } (.lst (ns.map V.int)))) inH atG hb bB lim hg hr R bind (fun b u z => ?_) (fun b u z => ?_) (hsp _ (.inl (.inr ⟨_, upd_same⟩)))
    · obtain ⟨rfl, rfl⟩ := tr b u z
      exact ⟨ha, by rw [List.length_map]; exact hl, vs, _, rv, ha⟩
    · obtain ⟨rfl, rfl⟩ := tr b u z
      exact ⟨rfl, ⟨_, _, rfl, fun es ep d => by cases d⟩, q⟩
end
/-- the end of the row's proof -/
theorem gwalk {l : PySem.W.OpenLaw} {n k : Nat} {q : Program} {loose : List Str} {XP : (Str → Option Value) → Heap → Prop} {YP : World → Heap → Prop} {d : DefRec} {K : Params → PySem.W.Frag} {sp : World → Sp} {x : Str}
    (hn : l.most = some n) (hn2 : n ≤ sizeLine) (hdf : d.params.defaults = []) (hr : Room k callerA) (hY : ∀ (w : World) (h : Heap), YP w h → (K w.params).In h)
    (F : ∀ (w : World) (mg : Str → Option Value) (fa : Addr) (h : Heap), (K w.params).In h → h.Ns mainGlobals mg → mg d.name = some (.ref fa) →
      ∃ fd : FuncData, (∀ (s : Shared) (u : Value), BindsTo s fd ⟨[u], []⟩ [(x, u)]) ∧ ∀ base : Heap, (K w.params).In base → base.Ns mainGlobals mg → GRun l.prog w (K w.params) mg base k fa fd [x] (sp w))
    (hsp : ∀ (w : World) (H : Hp) (a : Addr) (ns : List Int), ns.length ≤ n → SqL (K w.params) H a (ns.map V.int) → sp w [.ref a] H (fun v _ => v = .bl true) E0) :
    PySem.W.WalkO q loose XP YP l.row.toRowW d [] (fun f vs => PySem.call f vs) := by
  refine Att.attach_call hn hdf (fun w s₀ s₁ mg mb fa o pm cd doc a vs ns G Y _ _ _ hmg hobj hints hlen hg => ?_)
  have inK := hY w _ Y
  obtain ⟨fd, bind, R⟩ := F w mg fa _ inK G.T.g hmg
  exact glaw inK G.T.g G.T.b G.T.builtins G.T.nolimit hg hobj hints (Nat.le_trans hlen hn2) hr R bind (fun H hS => hsp w H a ns hlen hS)
theorem adjust_rev (n : Nat) : Builtin.Slice.sliceAdjust none none (-1) (n : Int) = ((n : Int) - 1, -1) := by
  unfold Builtin.Slice.sliceAdjust
  rfl
theorem places_rev (n : Nat) : Builtin.Slice.slicePlaces ((n : Int) - 1) (-1) (-1) = n := by
  unfold Builtin.Slice.slicePlaces
  rw [if_neg (by decide)]
  by_cases h : (n : Int) - 1 > -1
  · rw [if_pos h, show (- -1 : Int) = 1 by decide, Int.ediv_one]
    omega
  · rw [if_neg h]
    omega
theorem pick_rev (xs : List Value) : ((List.range xs.length).filterMap fun (k : Nat) => xs.toArray[((xs.length : Int) - 1 + (k : Int) * -1).toNat]?) = xs.reverse := by
  have e1 : (fun (k : Nat) => xs.toArray[((xs.length : Int) - 1 + (k : Int) * -1).toNat]?) = (fun j => xs.toArray[j]?) ∘ fun k => xs.length - 1 - k := by
    funext k
    show xs.toArray[((xs.length : Int) - 1 + (k : Int) * -1).toNat]? = xs.toArray[xs.length - 1 - k]?
    congr 1
    omega
  rw [e1, ← List.filterMap_map, PySem.W.krv_range, List.filterMap_reverse]
  have e2 := PySem.W.krv_all xs.toArray
  rw [List.size_toArray] at e2
  rw [e2]
section
variable {prog : Program} {w : World} {A : Around} {E : Value → Shared → Prop} {s : Shared}
theorem appliedR {sl : Addr} {vs : Value} {n : Nat} {Q : Int × Int × Nat → Shared → Prop} (hs : s.heap.IsSliceOf sl .none .none vs) (ps : IsPart vs (some (-1))) (h : Q ((n : Int) - 1, -1, n) s) :
    wpAny (model prog w) A (Builtin.Slice.sliceApplied (.ref sl) (pure (n : Int))) Q E s := by
  obtain ⟨os, hos, hcs, hds⟩ := hs
  unfold Builtin.Slice.sliceApplied Builtin.Slice.sliceFields
  have f3 : wpAny (model prog w) A (Builtin.Slice.slicePartIndex vs) (fun o s' => o = some (-1) ∧ s' = s) E s := HT.slicePart_ ps ⟨rfl, rfl⟩
  refine wpAny_bind (wpAny_bind (wpAny_field hos hds (x := .none) rfl (wpAny_bind (wpAny_field hos hds (x := .none) rfl (wpAny_bind (wpAny_field hos hds (x := vs) rfl (wpAny_pure ?_)))))))
  refine wpAny_bind (wpAny_mono f3 (fun o s' z => ?_) fun _ _ z => z)
  obtain ⟨rfl, rfl⟩ := z
  show wpAny _ _ (if ((-1 : Int) == 0) = true then _ else _) _ _ _
  rw [if_neg (by decide)]
  have h : Q ((n : Int) - 1, -1, Builtin.Slice.slicePlaces ((n : Int) - 1) (-1) (-1)) s' := by
    rw [places_rev]
    exact h
  exact wpAny_bind (slicePart_none (wpAny_bind (slicePart_none (wpAny_bind (wpAny_pure (wpAny_pure h))))))
theorem revR {t sl : Addr} {xs : List Value} {vs : Value} {Q : Value → Shared → Prop} (ht : IsTup s.heap t xs.toArray) (hz : xs.length ≤ sizeLine) (hs : s.heap.IsSliceOf sl .none .none vs) (ps : IsPart vs (some (-1)))
    (h : Q (.ref s.heap.objs.size) { s with heap := s.heap.push { cls := .type "tuple", data := .seq xs.reverse.toArray } }) : wpAny (model prog w) A (getItem (.ref t) (.ref sl)) Q E s := by
  have hTs : s.TypeIs (.ref sl) "slice" := by
    obtain ⟨os, hos, hcs, _⟩ := id hs
    exact ⟨os, hos, hcs⟩
  unfold getItem
  try with_reducible refine wpAny_holding ?_
  first | refine wpAny_bind (wpAny_pure ?_) | skip
  refine wpAny_bind (wpAny_sequenceKey ht.typeIs (by decide) (wpAny_bind (wpAny_callSpecial?_slot (name := Str.ofString "__getitem__") ht.typeIs PyProof.Rows.slot_tuple_getitem
    (wpAny_call_entry PyProof.Rows.slot_tuple_getitem ht.typeIs entry_tuple_getitem ?_ (args_tuple_getitem _ _)))))
  refine wpAny_bind (m := Builtin.Tuple.tupleItemsOf (.ref t)) (tupleItemsOf_ ht (wpAny_bind (wpAny_typeOf hTs ?_)))
  rw [if_pos (by decide)]
  have es : xs.toArray.size = xs.length := List.size_toArray
  rw [es]
  refine wpAny_bind (appliedR hs ps ?_)
  have hno : ¬ (((xs.length : Int) - 1 == 0 && (-1 : Int) == 1 && xs.length == xs.length) = true) := by
    rw [show ((-1 : Int) == 1) = false by decide, Bool.and_false, Bool.false_and]
    exact Bool.false_ne_true
  show wpAny _ _ (if ((xs.length : Int) - 1 == 0 && (-1 : Int) == 1 && xs.length == xs.length) = true then _ else _) _ _ s
  rw [if_neg hno, pick_rev]
  have okR : sizeOk (.seq xs.reverse.toArray) := by
    show xs.reverse.toArray.size ≤ sizeLine
    rw [List.size_toArray, List.length_reverse]
    exact hz
  first
    | exact wpAny_bind (m := Builtin.Tuple.tupleExact _) (wpAny_newObj_type (wpAny_pure ⟨_, rfl, wpAny_pure h⟩) okR)
    | exact wpAny_bind (wpAny_bind (m := Builtin.Tuple.tupleExact _) (wpAny_newObj_type (wpAny_pure (wpAny_pure ⟨_, rfl, wpAny_pure h⟩)) okR))
    | exact wpAny_bind (wpAny_bind (m := Builtin.Tuple.tupleExact _) (wpAny_newObj_type (wpAny_pure ⟨_, rfl, wpAny_pure h⟩) okR))
end
section
variable {X : Cx}
/-- t[::-1] of any tuple: a new one -/
def tRevR (te : TE) : TE := fun σ H Q => te σ H fun x H1 => ∃ a xs, x = .ref a ∧ Rd H1 a (.tup xs) ∧ ∀ p, H1 p = none → Q (.ref p) (upd H1 p (.tup xs.reverse))
theorem pe_revR {e : Expr} {te : TE} {k : Nat} {p1 p2 p3 pos : Pos} (he : PE X e te) :
    PE X (.Subscript e (.Slice none none (some (.UnaryOp .USub (.Constant (.int 1) k p1) p2)) p3) pos) (tRevR te) := by
  have part : PO X (some (.UnaryOp .USub (.Constant (.int 1) k p1) p2)) (tPart (tUn (rU fun i => .int (-i)) (tC (.int 1)))) := po_some (pe_un un_neg pe_int)
  refine ⟨fun pins s σ H Q I h => Subscript_ (thn (he.run pins s σ H _ I h) ?_)⟩
  rintro v s1 ⟨x, H1, I1, r1, a, xs, rfl, hx, q⟩
  cases r1
  refine wpAny_Slice (thn (po_none.run pins s1 σ H1 (fun o G => o = none ∧ G = H1) I1 ⟨rfl, rfl⟩) ?_)
  rintro vl s2 ⟨_, G2, J2, pl, rfl, rfl⟩
  refine thn (po_none.run pins s2 σ G2 (fun o G => o = none ∧ G = G2) J2 ⟨rfl, rfl⟩) ?_
  rintro vu s3 ⟨_, G3, J3, pu, rfl, rfl⟩
  refine thn (part.run pins s3 σ G3 (fun o G => o = some (-1) ∧ G = G3) J3 ⟨1, rfl, -1, rfl, rfl, rfl⟩) ?_
  rintro vs s4 ⟨_, G4, J4, ps, rfl, rfl⟩
  cases pl
  cases pu
  have J5 : Inv X pins σ G4 { s4 with heap := s4.heap.push { cls := .type "slice", data := .fields #[.none, .none, vs] } } := J4.kept (t' := s4.toks) fun b ob z => Heap.get?_push_of_some _ z
  obtain ⟨its, r, ht, hz⟩ := J5.tuple (.inl hx)
  have hl := r.length
  refine tail_any (ops := [.ref a, .ref s4.heap.objs.size]) ht.typeIs (PyProof.Rows.slot_tuple_getitem.lookup) ?_ (by with_unfolding_all rfl)
  refine revR ht (by omega) (Heap.IsSliceOf.new _ .none .none vs) ps ?_
  exact ⟨.ref _, _, J5.laid (t' := s4.toks) (o := .tup xs.reverse) (fun b ob z => Heap.get?_push_of_some _ z) (Nat.le_refl _) ⟨by rw [List.length_reverse]; exact hz, _, r.reverse, IsTup.new _ _⟩, rfl, q _ (J5.hok.fresh (Nat.le_refl _))⟩
end
/-! ### a list, a tuple beside an empty one -/
section
variable {X : Cx}
def rNilL (K : PySem.W.Frag) (g : Bool → Bool) : R2 := fun x y H Q => ∃ (l b : Addr) (xs : List V), x = .ref l ∧ y = .ref b ∧ SqL K H l xs ∧ SqL K H b [] ∧ Q (.bl (g (decide (xs = [])))) H
def rNilT (K : PySem.W.Frag) : R2 := fun x y H Q => ∃ (l b : Addr) (xs : List V), x = .ref l ∧ y = .ref b ∧ SqT K H l xs ∧ SqT K H b [] ∧ Q (.bl (decide (xs = []))) H
theorem op_eqNilL (hu : X.A.units < cLine) : OpR X (compareOp .Eq) (rNilL X.K id) := by
  intro pins s σ H x y v u Q I rx ry h
  obtain ⟨l, b, xs, rfl, rfl, hl, hb, q⟩ := h
  cases rx
  cases ry
  obtain ⟨its, rv, pl, _⟩ := I.list hl
  obtain ⟨its2, rv2, pl2, _⟩ := I.list hb
  cases rv2
  have hn := rv.length
  cases xs with
  | nil =>
    cases rv
    exact SeqAt.eq_listAt (e := fun _ => true) pl.isList pl2.isList rfl hu (fun j h1 _ => absurd h1 (Nat.not_lt_zero _)) ⟨.bl _, H, I, rfl, q⟩
  | cons z zs =>
    refine SeqAt.eq_list_lengthsAt pl.isList pl2.isList ?_ hu ⟨.bl _, H, I, rfl, q⟩
    rw [List.size_toArray, ← hn]
    rfl
theorem op_neNilL (hu : X.A.units < cLine) : OpR X (compareOp .NotEq) (rNilL X.K not) := by
  intro pins s σ H x y v u Q I rx ry h
  obtain ⟨l, b, xs, rfl, rfl, hl, hb, q⟩ := h
  cases rx
  cases ry
  obtain ⟨its, rv, pl, _⟩ := I.list hl
  obtain ⟨its2, rv2, pl2, _⟩ := I.list hb
  cases rv2
  have hn := rv.length
  cases xs with
  | nil =>
    cases rv
    exact SeqAt.RcNeAt.lists (e := fun _ => true) pl.isList pl2.isList rfl hu (fun j h1 _ => absurd h1 (Nat.not_lt_zero _)) _ _ _ _ ⟨.bl _, H, I, rfl, q⟩
  | cons z zs =>
    refine SeqAt.RcNeAt.lists_lengths pl.isList pl2.isList ?_ hu _ _ _ _ ⟨.bl _, H, I, rfl, q⟩
    rw [List.size_toArray, ← hn]
    rfl
theorem op_eqNilT (hu : X.A.units < cLine) : OpR X (compareOp .Eq) (rNilT X.K) := by
  intro pins s σ H x y v u Q I rx ry h
  obtain ⟨l, b, xs, rfl, rfl, hl, hb, q⟩ := h
  cases rx
  cases ry
  obtain ⟨its, rv, pl, _⟩ := I.tuple hl
  obtain ⟨its2, rv2, pl2, _⟩ := I.tuple hb
  cases rv2
  have hn := rv.length
  refine SeqAt.eq_tupleAt (e := fun _ => true) pl pl2 hu (fun j h1 h2 => absurd h2 (Nat.not_lt_zero _)) ⟨.bl _, H, I, ?_, q⟩
  cases xs with
  | nil =>
    cases rv
    rfl
  | cons z zs =>
    show Value.bool _ = Value.bool _
    congr 1
    rw [List.size_toArray, ← hn]
    rfl
end
section
variable {X : Cx} {pins : List (Addr × Obj)} {σ : L2.St} {H : Hp} {s : Shared} {prog : Program} {w : World} {A : Around} {E : Value → Shared → Prop}
theorem mul_one (l : Addr) (items : Array Value) (n : Nat) (dd : Option Addr) (sl : Array (Option Value)) (u : Tok) :
    Meets (Builtin.«tuple.__mul__» ⟨[.ref l, .int 1 u], []⟩) (fun _ R s => s.heap.get? l = some { cls := .type "tuple", dict := dd, data := .seq items n, slots := sl } ∧ R (.ok (.ret (Value.ref l))) s) :=
  .of_wp fun prog w A R s h => by
    obtain ⟨hp, g, d, tk, os⟩ := s
    obtain ⟨hl, h⟩ := h
    have f1 := AutoSeq1.idx_int
    wp_walk using wpAny_loadPart' hl
    exact ⟨_, rfl, h⟩
def rRep1 (K : PySem.W.Frag) : R2 := fun x y H Q => ∃ l xs, x = .ref l ∧ y = .int 1 ∧ SqT K H l xs ∧ Q (.ref l) H
theorem op_rep1 : OpR X (binaryOp .Mult) (rRep1 X.K) := by
  intro pins s σ H x y v u Q I rx ry h
  obtain ⟨l, xs, rfl, rfl, hT, q⟩ := h
  cases rx
  obtain ⟨t, rfl⟩ := ry
  obtain ⟨its, r, ⟨⟨cls, dd, data, sl⟩, ho, hc, n, hd⟩, _⟩ := I.tuple hT
  cases hc
  cases hd
  exact wpAny_binaryOp_repeat_ref (T := "tuple") (U := "int") (by decide) ⟨_, ho, rfl⟩ (fun s' => typeIs_int s' 1 t) noFill_tuple_mul F.fills_int_mul F.slot_int_rmul repeat_tuple F.slot_int_index.lookup
    (call_meets F.slot_int_rmul (typeIs_int s 1 t) F.entry_int_rmul (F.args_int_rmul_2 _ _) (int_rmul_tuple 1 t l its.toArray n dd sl)
      ⟨ho, rfl, ⟨_, ho, rfl⟩, call_meets F.slot_tuple_mul ⟨_, ho, rfl⟩ F.entry_tuple_mul (F.args_tuple_mul_2 _ _) (mul_one l its.toArray n dd sl t) ⟨ho, .ref l, H, I, rfl, q⟩⟩)
/-- t * k for a small k from 1 on -/
def rRepS (K : PySem.W.Frag) : R2 := fun x y H Q => ∃ l k xs, x = .ref l ∧ y = .int k ∧ Rd H l (.tup xs) ∧ xs ≠ [] ∧ 1 ≤ k ∧ k ≤ 1000 ∧ xs.length ≤ 1000 ∧ ∀ q H', Same H H' → Rd H' q (.tup (List.replicate k.toNat xs).flatten) → (q = l ∨ H q = none) → Q (.ref q) H'
theorem op_repS : OpR X (binaryOp .Mult) (rRepS X.K) := by
  intro pins s σ H x y v u Q I rx ry h
  obtain ⟨l, k, xs, rfl, rfl, hT, hne, k1, k2, hz, q⟩ := h
  by_cases e : k = 1
  · subst e
    refine op_rep1 pins s σ H _ _ v u Q I rx ry ⟨l, xs, rfl, rfl, .inl hT, q l H (Same.refl H) ?_ (.inl rfl)⟩
    rw [show (List.replicate (1 : Int).toNat xs).flatten = xs by simp]
    exact hT
  · exact op_repT pins s σ H _ _ v u Q I rx ry ⟨l, k, xs, rfl, rfl, .inl hT, hne, by omega, k2, hz, fun p hp => q p _ (same_new hp) (.inl upd_same) (.inr hp)⟩
end
/-! ### the text by places -/
def top (i : Nat) : Stmt := PySem.Challenge.pw_sortedshelves_k50_queries_with_errors.main.body.getD i (.Pass ⟨0, 0, 0, 0⟩)
abbrev sInteger : Stmt := top 14
abbrev sNumber : Stmt := top 15
abbrev sWord : Stmt := top 16
abbrev sUnit : Stmt := top 17
abbrev sTells : Stmt := top 19
abbrev sSignAt : Stmt := top 20
abbrev sErr : Stmt := top 22
abbrev sRow : Stmt := top 23
abbrev sIsOf : Stmt := top 24
abbrev sLErr : Stmt := top 26
abbrev sStep : Stmt := top 27
abbrev sLetter : Stmt := top 28
abbrev sTurning : Stmt := top 29
abbrev sPutting : Stmt := top 30
abbrev sSwapping : Stmt := top 31
abbrev sImage : Stmt := top 32
abbrev sStepped : Stmt := top 33
abbrev sCut : Stmt := top 34
abbrev sPassed : Stmt := top 35
abbrev sSwapped : Stmt := top 36
abbrev sQErr : Stmt := top 40
abbrev sQuery : Stmt := top 41
abbrev sAnswers : Stmt := top 42
abbrev sDeck : Stmt := top 44
abbrev sDraw : Stmt := top 45
abbrev sOne : Stmt := top 46
abbrev sKind : Stmt := top 47
abbrev sStateL : Stmt := top 48
abbrev sIsOfL : Stmt := top 49
abbrev sStepL : Stmt := top 53
abbrev sSwapL : Stmt := top 54
abbrev sLineL : Stmt := top 55
abbrev sSteppedL : Stmt := top 56
abbrev sSwappedL : Stmt := top 57
abbrev sImageL : Stmt := top 58
abbrev sColsL : Stmt := top 59
abbrev sComp : Stmt := top 60
abbrev sTellsL : Stmt := top 61
abbrev sWordL : Stmt := top 68
abbrev sQueryL : Stmt := top 69
abbrev sAnswersL : Stmt := top 70
abbrev sOther : Stmt := top 71
abbrev sWhole : Stmt := top 72
abbrev sIsQueryL : Stmt := top 73
abbrev sIsLineL : Stmt := top 74
abbrev sIsKindL : Stmt := top 75
abbrev sLaw : Stmt := top 76
theorem scDeck : FnScope ["_law_script", "_law_cell"] ["_law_script"] (defScope sDeck) := ⟨rfl, rfl, rfl, by decide +kernel, rfl, by decide +kernel, by decide +kernel⟩
theorem scDraw : FnScope ["_law_deck_here", "_law_most", "_law_cell", "_law_at", "_law_mixed"] ["_law_deck_here", "_law_most"] (defScope sDraw) := ⟨rfl, rfl, rfl, by decide +kernel, rfl, by decide +kernel, by decide +kernel⟩
theorem scOne : FnScope ["_law_deck_here", "_law_items"] ["_law_deck_here", "_law_items"] (defScope sOne) := ⟨rfl, rfl, rfl, by decide +kernel, rfl, by decide +kernel, by decide +kernel⟩
def DeckAt (a c : Addr) (cells : List Int) (n : Int) (H : Hp) : Prop :=
  a ≠ c ∧ H a = some (.lst [.ref c, .int n]) ∧ H c = some (.lst (cells.map V.int)) ∧ cells.length ≤ 63 ∧ (∀ z ∈ cells, 0 ≤ z)
theorem cut_ints (ns : List Int) (lo hi : Option Int) : ∃ ms : List Int, cutV (ns.map V.int) lo hi = ms.map V.int ∧ ms.length ≤ ns.length := by
  unfold cutV
  refine ⟨(ns.drop (HT.sIx (ns.map V.int).length 0 lo)).take (HT.sIx (ns.map V.int).length (ns.map V.int).length hi - HT.sIx (ns.map V.int).length 0 lo), by rw [List.map_take, List.map_drop], ?_⟩
  rw [List.length_take, List.length_drop]
  omega
theorem int_at {ns : List Int} {i : Nat} {x : V} (h : (ns.map V.int)[i]? = some x) : ∃ u, x = V.int u := by
  rw [List.getElem?_map] at h
  obtain ⟨u, _, e⟩ := Option.map_eq_some_iff.mp h
  exact ⟨u, e.symm⟩
section
variable {P : Program} {w : World} {K : PySem.W.Frag} {mg : Str → Option Value} {base : Heap}
def spDeck (K : PySem.W.Frag) : Sp := fun vs H Q _ => ∃ (l : Addr) (ns : List Int), vs = [.ref l] ∧ SqL K H l (ns.map V.int) ∧ ns.length ≤ 63 ∧
  ∀ (H' : Hp) (a c : Addr) (cells : List Int), Same H H' → H a = none → H c = none → DeckAt a c cells 0 H' → Q (.ref a) H'
theorem ok_deck {f : Addr} {fd : FuncData} (F : Fun K "_law_deck" "_law_deck" sDeck f fd) (mAbs : mg "abs" = none) : FnOk P w K mg base CX0 1 f fd ["_law_script"] (spDeck K) := by
  refine F.ok scDeck (fun vs H Q E h => ?_) (fun cdv A outer s H vs Q E hr h => ?_)
  · obtain ⟨l, ns, rfl, _⟩ := h
    rfl
  · obtain ⟨l, ns, rfl, hS, hlen, k⟩ := h
    refine ⟨_, pss_one (ps_ret (pe_lst (pa_cons (pe_lc (own := [("_law_cell", 1)]) (g := gName 1) (tt := tYes) rfl scDeck.nd (pi_list (pe_slice sl_list (pv 0) po_none (po_some pe_int))) (blkOk_by (N := ["_law_script", "_law_cell"]) (sc := defScope sDeck) (by decide +kernel)) (fun _ _ _ _ _ => pg_name (i := 1) scDeck.nd rfl (Or.inl rfl)) (fun _ _ _ _ _ => pts_nil)
      (fun _ _ _ _ _ => pe_callB call_abs (by rfl) mAbs (by decide +kernel) (pa_cons (pv 1) pa_nil))) (pa_cons pe_int pa_nil)))), ?_⟩
    refine ⟨_, rfl, 63, rfl, l, _, rfl, hS, fun p hp => ?_⟩
    obtain ⟨ms, e, hm⟩ := cut_ints ns none (some 63)
    rw [e]
    refine ⟨p, rfl, ⟨_, SqL.of upd_same⟩, fun D hD => ?_⟩
    have np : p ≠ D := ne_of_none upd_same hD
    have hD0 : H D = none := by
      rw [upd_ne np.symm] at hD
      exact hD
    refine lc_list (K := K) (a := p) (xs := ms.map V.int) (fun i H' => Same H H' ∧ H' p = some (.lst (ms.map V.int)) ∧ ∃ cs : List Int, H' D = some (.lst (cs.map V.int)) ∧ cs.length = i ∧ ∀ z ∈ cs, 0 ≤ z) ⟨?_, ?_, [], upd_same, rfl, fun z hz => absurd hz List.not_mem_nil⟩ (fun i H' _ q => SqL.of q.2.1) ?_ ?_
    · exact (same_new hp).trans (same_new hD)
    · rw [upd_ne np, upd_same]
    · rintro i x H' hx ⟨sm, hp', cs, hD', hl, hc⟩
      obtain ⟨u, rfl⟩ := int_at hx
      refine ⟨rfl, ?_⟩
      refine ⟨_, rfl, u, rfl, _, hD', ?_, fun b o z => ?_, ?_, cs ++ [if u < 0 then -u else u], ?_, ?_, ?_⟩
      · have hi := (List.getElem?_eq_some_iff.mp hx).1
        rw [List.length_map] at hi ⊢
        exact small1000 (by omega)
      · rw [upd_ne (ne_of_none z hD0)]
        exact sm _ _ z
      · rw [upd_ne np]
        exact hp'
      · rw [upd_same, List.map_append]
        rfl
      · rw [List.length_append, hl]
        rfl
      · intro z hz
        rcases List.mem_append.mp hz with hz | hz
        · exact hc z hz
        · rw [List.mem_singleton.mp hz]
          split <;> omega
    · rintro H' ⟨sm, hp', cs, hD', hl, hc⟩
      rw [List.length_map] at hl
      refine ⟨(by show 2 ≤ sizeLine; decide), fun a ha => ?_⟩
      have na : D ≠ a := ne_of_none hD' ha
      have ha0 : H a = none := sm.free ha
      refine k _ a D cs (sm.trans (same_new ha)) ha0 hD0 ⟨na.symm, upd_same, ?_, by omega, hc⟩
      rw [upd_ne na]
      exact hD'
end
/-- the deck's two lists -/
def Bd (a c : Addr) : Addr → Prop := fun b => b = a ∨ b = c
theorem bd_ne {a c b : Addr} {H : Hp} {o : HO} (e : H b = some o) (nl : ∀ xs, o ≠ .lst xs) {xs ys : List V} (ha : H a = some (.lst xs)) (hc : H c = some (.lst ys)) : ¬ Bd a c b := by
  rintro (h | h)
  · rw [h, ha] at e
    exact nl _ (Option.some.inj e).symm
  · rw [h, hc] at e
    exact nl _ (Option.some.inj e).symm
theorem bd_new {a c p : Addr} {H : Hp} {xs ys : List V} (n : H p = none) (ha : H a = some (.lst xs)) (hc : H c = some (.lst ys)) : ¬ Bd a c p := by
  rintro (h | h)
  · rw [h, ha] at n
    cases n
  · rw [h, hc] at n
    cases n
theorem keep_upd {a c x : Addr} {H : Hp} {o : HO} (h : Bd a c x) : Keep (Bd a c) H (upd H x o) := fun b u n e => by
  rw [upd_ne (fun z : b = x => n (z.symm ▸ h))]
  exact e
section
variable {P : Program} {w : World} {K : PySem.W.Frag} {mg : Str → Option Value} {base : Heap}
def spDraw : Sp := fun vs H Q _ => ∃ (a c : Addr) (cells : List Int) (n m : Int), vs = [.ref a, .int m] ∧ DeckAt a c cells n H ∧ 1 ≤ m ∧ m ≤ 1000000 ∧ 0 ≤ n ∧ n ≤ 1000000 ∧
  ∀ (H' : Hp) (cells' : List Int) (r : Int), 0 ≤ r → r < m → DeckAt a c cells' (n + 1) H' → Keep (Bd a c) H H' → Q (.int r) H'
theorem ok_draw {f : Addr} {fd : FuncData} (F : Fun K "_law_draw" "_law_draw" sDraw f fd) (mLen : mg "len" = none) (mInt : mg "int" = none) : FnOk P w K mg base CX0 1 f fd ["_law_deck_here", "_law_most"] spDraw := by
  refine F.ok scDraw (fun vs H Q E h => ?_) (fun cdv A outer s H vs Q E hr h => ?_)
  · obtain ⟨a, c, cells, n, m, rfl, _⟩ := h
    rfl
  · obtain ⟨a, c, cells, n, m, rfl, ⟨nac, ha, hc, hlen, hpos⟩, m1, m2, n1, n2, k⟩ := h
    refine ⟨_, pss_cons (ps_asg (pe_op op_add (pe_ix ix_list (pv 0) pe_int (fun _ _ => rfl)) pe_int) (pg_sub (pv 0) pe_int set_list))
      (pss_cons (ps_asg (pe_tup (pa_cons pe_int (pa_cons (pe_un un_neg pe_int) pa_nil))) (pg_tup rfl (pgs_cons (pg_name (i := 2) scDraw.nd rfl (.inl rfl)) (pgs_cons (pg_name (i := 3) scDraw.nd rfl (.inl rfl)) pgs_nil))))
      (Evl.pss_cut (ps_if (pt_cmpR op_gt (pe_callB call_len_seq (by rfl) mLen PySem.boot_len (pa_cons (pe_ix ix_list (pv 0) pe_int (fun _ _ => rfl)) pa_nil)) pe_int (nomark _))
        (pss_cons (ps_set (i := 3) scDraw.nd rfl (.inl rfl) (pe_op op_mod (pe_callTy call_int1 (by rfl) mInt (by decide +kernel) (pa_cons (pe_ix ix_list (pv 0) pe_int (fun _ _ => rfl)) pa_nil)) (pe_callB call_len_seq (by rfl) mLen PySem.boot_len (pa_cons (pe_ix ix_list (pv 0) pe_int (fun _ _ => rfl)) pa_nil))))
        (pss_one (ps_set (i := 2) scDraw.nd rfl (.inl rfl) (pe_ix ix_list (pe_ix ix_list (pv 0) pe_int (fun _ _ => rfl)) (pv 3) (fun _ _ => rfl)))))
        pss_nil)
      (pss_cons (ps_if (pt_cmpR op_ge (pv 2) (pe_op op_pow pe_int pe_int) (nomark _))
        (pss_cons (ps_asg (pe_op op_fdivW (pe_callTy call_int1 (by rfl) mInt (by decide +kernel) (pa_cons (pv 2) pa_nil)) (pv 1)) (pg_sub (pe_ix ix_list (pv 0) pe_int (fun _ _ => rfl)) (pv 3) set_list))
          (pss_one (ps_ret (pe_op op_mod (pe_callTy call_int1 (by rfl) mInt (by decide +kernel) (pa_cons (pv 2) pa_nil)) (pv 1)))))
        pss_nil)
      (pss_cons (ps_set (i := 4) scDraw.nd rfl (.inl rfl) (pe_op op_add (pe_op op_add (pe_op op_mod (pe_callTy call_int1 (by rfl) mInt (by decide +kernel) (pa_cons (pv 2) pa_nil)) pe_int) (pe_op op_mul pe_int (pe_ix ix_list (pv 0) pe_int (fun _ _ => rfl)))) pe_int))
      (pss_one (ps_ret (pe_op op_mod (pe_callTy call_int1 (by rfl) mInt (by decide +kernel) (pa_cons (pe_op op_mod (pe_callTy call_int1 (by rfl) mInt (by decide +kernel) (pa_cons (pe_op op_pow (pv 4) pe_int) pa_nil)) pe_int) pa_nil)) (pv 1)))))))), ?_⟩
    refine ⟨.ref a, rfl, a, _, 1, _, rfl, rfl, SqL.of ha, atI_nat (j := 1) rfl, n, 1, rfl, rfl, .ref a, rfl, a, _, 1, 1, rfl, rfl, ha, rfl, ?_⟩
    have hA1 : upd H a (.lst [.ref c, .int (n + 1)]) a = some (.lst [.ref c, .int (n + 1)]) := upd_same
    have hC1 : upd H a (.lst [.ref c, .int (n + 1)]) c = some (.lst (cells.map V.int)) := by
      rw [upd_ne nac.symm]
      exact hc
    have k1 : Keep (Bd a c) H (upd H a (.lst [.ref c, .int (n + 1)])) := keep_upd (.inl rfl)
    refine ⟨1, rfl, (by show 2 ≤ sizeLine; decide), fun T hT => ?_⟩
    have k2 := k1.trans (keep_new (B := Bd a c) (o := .tup [.int 0, .int (-1)]) hT)
    have hA2 : upd (upd H a (.lst [.ref c, .int (n + 1)])) T (.tup [.int 0, .int (-1)]) a = some (.lst [.ref c, .int (n + 1)]) := by
      rw [upd_ne (ne_of_none hA1 hT)]
      exact hA1
    have hC2 : upd (upd H a (.lst [.ref c, .int (n + 1)])) T (.tup [.int 0, .int (-1)]) c = some (.lst (cells.map V.int)) := by
      rw [upd_ne (ne_of_none hC1 hT)]
      exact hC1
    have hT2 : upd (upd H a (.lst [.ref c, .int (n + 1)])) T (.tup [.int 0, .int (-1)]) T = some (.tup [.int 0, .int (-1)]) := upd_same
    refine ⟨T, _, rfl, SqT.of hT2, rfl, .int 0, [.int (-1)], rfl, .int (-1), [], rfl, rfl, ?_⟩
    refine ⟨fun σ' H' => ∃ cell at_ : Int, σ' = [some (.ref a), some (.int m), some (.int cell), some (.int at_), none] ∧ Keep (Bd a c) H H' ∧ H' a = some (.lst [.ref c, .int (n + 1)]) ∧ H' c = some (.lst (cells.map V.int)) ∧ 0 ≤ cell ∧ (10 ^ 18 ≤ cell → ∃ j : Nat, j < cells.length ∧ at_ = (j : Int)), ?_, ?_⟩
    · refine ⟨.ref a, rfl, a, _, 0, .ref c, rfl, rfl, SqL.of hA2, atI_nat (j := 0) rfl, c, _, rfl, .inl (SqL.of hC2), _, _, rfl, rfl, _, rfl, ite2 (fun h0 => ?_) (fun h0 => ?_)⟩
      · have h0 := of_decide_eq_true h0
        rw [List.length_map] at h0
        obtain ⟨j, hj, ej⟩ : ∃ j : Nat, j < cells.length ∧ (n + 1) % ((cells.map V.int).length : Int) = (j : Int) := by
          rw [List.length_map]
          have x1 := Int.emod_nonneg (n + 1) (b := (cells.length : Int)) (by omega)
          have x2 := Int.emod_lt_of_pos (n + 1) (b := (cells.length : Int)) h0
          exact ⟨((n + 1) % (cells.length : Int)).toNat, by omega, by omega⟩
        have gj : (cells.map V.int)[j]? = some (.int cells[j]) := by
          rw [List.getElem?_map, List.getElem?_eq_getElem hj]
          rfl
        refine ⟨.ref a, rfl, a, _, 1, _, rfl, rfl, SqL.of hA2, atI_nat (j := 1) rfl, .inl ⟨n + 1, rfl, .ref a, rfl, a, _, 0, .ref c, rfl, rfl, SqL.of hA2, atI_nat (j := 0) rfl, c, _, rfl, .inl (SqL.of hC2), _, _, rfl, rfl, (by rw [List.length_map]; exact h0), ?_⟩⟩
        refine ⟨.ref a, rfl, a, _, 0, .ref c, rfl, rfl, SqL.of hA2, atI_nat (j := 0) rfl, .int j, by rw [← ej]; rfl, c, _, _, _, rfl, rfl, SqL.of hC2, atI_nat gj, ?_⟩
        exact ⟨cells[j], j, by rw [← ej]; rfl, k2, hA2, hC2, hpos _ (List.getElem_mem hj), fun _ => ⟨j, hj, rfl⟩⟩
      · exact ⟨0, -1, rfl, k2, hA2, hC2, Int.le_refl _, fun z => absurd z (by decide)⟩
    · rintro σ' H3 ⟨cell, at_, rfl, k3, hA3, hC3, hp, hj⟩
      refine ⟨_, rfl, 10, 18, rfl, rfl, ⟨by decide, by decide, by decide⟩, _, _, rfl, rfl, _, rfl, ite2 (fun h0 => ?_) (fun h0 => ?_)⟩
      · obtain ⟨j, hj2, ea⟩ := hj (of_decide_eq_true h0)
        subst ea
        refine ⟨_, rfl, .inl ⟨cell, rfl, _, rfl, _, _, rfl, rfl, wide_div (b := 20) (by omega) (by omega) (by decide) (by decide), .ref a, rfl, a, _, 0, .ref c, rfl, rfl, SqL.of hA3, atI_nat (j := 0) rfl, _, rfl, c, _, _, j, rfl, rfl, hC3, Evl.ixN_nat (by rw [List.length_map]; exact hj2), ?_⟩⟩
        refine ⟨_, rfl, .inl ⟨cell, rfl, _, rfl, _, _, rfl, rfl, (by omega), ?_⟩⟩
        refine k _ (cells.set j (cell / m)) _ (Int.emod_nonneg _ (by omega)) (Int.emod_lt_of_pos _ (by omega)) ⟨nac, ?_, ?_, ?_, ?_⟩ (k3.trans (keep_upd (.inr rfl)))
        · rw [upd_ne nac]
          exact hA3
        · rw [upd_same, List.map_set]
        · rw [List.length_set]
          exact hlen
        · intro z hz
          rcases List.mem_or_eq_of_mem_set hz with hz | hz
          · exact hpos z hz
          · rw [hz]
            exact Int.ediv_nonneg hp (by omega)
      · have b1 := Int.emod_nonneg cell (b := 2147483179) (by decide)
        have b2 := Int.emod_lt_of_pos cell (b := 2147483179) (by decide)
        refine ⟨_, rfl, .inl ⟨cell, rfl, _, _, rfl, rfl, (by show (0 : Int) < 2147483179; decide), .ref a, rfl, a, _, 1, _, rfl, rfl, SqL.of hA3, atI_nat (j := 1) rfl, 5501, n + 1, rfl, rfl, .inl ⟨by decide, by decide⟩, _, _, rfl, rfl, _, _, rfl, rfl, ?_⟩⟩
        refine ⟨_, rfl, cell % 2147483179 + 5501 * (n + 1) + 29, 5, rfl, rfl, ⟨by decide, by decide, by omega⟩, .inl ⟨_, rfl, _, _, rfl, rfl, (by show (0 : Int) < 2147483423; decide), .inl ⟨_, rfl, _, rfl, _, _, rfl, rfl, (by omega), ?_⟩⟩⟩
        exact k _ cells _ (Int.emod_nonneg _ (by omega)) (Int.emod_lt_of_pos _ (by omega)) ⟨nac, hA3, hC3, hlen, hpos⟩ k3
end
section
variable {P : Program} {w : World} {K : PySem.W.Frag} {mg : Str → Option Value} {base : Heap}
def spOne (K : PySem.W.Frag) : Sp := fun vs H Q _ => ∃ (a c l : Addr) (cells : List Int) (n : Int) (xs : List V), vs = [.ref a, .ref l] ∧ DeckAt a c cells n H ∧ 0 ≤ n ∧ n ≤ 1000000 ∧ SqL K H l xs ∧ ¬ Bd a c l ∧ xs ≠ [] ∧ xs.length ≤ 1000 ∧
  ∀ (H' : Hp) (cells' : List Int) (x : V), x ∈ xs → DeckAt a c cells' (n + 1) H' → Keep (Bd a c) H H' → Q x H'
theorem ok_one {f fD : Addr} {fd fdD : FuncData} (F : Fun K "_law_one" "_law_one" sOne f fd) (D : FnOk P w K mg base CX0 1 fD fdD ["_law_deck_here", "_law_most"] spDraw) (FD : Fun K "_law_draw" "_law_draw" sDraw fD fdD) (bD : Binds K fdD ["_law_deck_here", "_law_most"] [])
    (gD : mg "_law_draw" = some (.ref fD)) (mLen : mg "len" = none) : FnOk P w K mg base CX0 2 f fd ["_law_deck_here", "_law_items"] (spOne K) := by
  refine F.ok scOne (fun vs H Q E h => ?_) (fun cdv A outer s H vs Q E hr h => ?_)
  · obtain ⟨a, c, l, cells, n, xs, rfl, _⟩ := h
    rfl
  · obtain ⟨a, c, l, cells, n, xs, rfl, dk, n0, n1, hL, nb, hne, hlen, k⟩ := h
    refine ⟨_, pss_one (ps_ret (pe_ix ix_list (pv 1) (pe_call D hr (by rfl) gD FD.kp bD .nil pass0 (pa_cons (pv 0) (pa_cons (pe_callB call_len_seq (by rfl) mLen PySem.boot_len (pa_cons (pv 1) pa_nil)) pa_nil))) (fun _ _ => rfl))), ?_⟩
    have lp : 0 < xs.length := List.length_pos_iff.mpr hne
    refine ⟨_, rfl, _, rfl, _, rfl, l, xs, rfl, .inl hL, a, c, cells, n, _, rfl, dk, by omega, by omega, n0, n1, fun H' cells' r r0 r1 dk' kp => ?_⟩
    have hr2 : r.toNat < xs.length := by omega
    refine ⟨l, xs, r, xs[r.toNat], rfl, rfl, kp.seqL nb hL, ?_, k H' cells' _ (List.getElem_mem hr2) dk' kp⟩
    have e := atI_nat (List.getElem?_eq_getElem hr2)
    rw [show ((r.toNat : Nat) : Int) = r by omega] at e
    exact e
end
/-- the built-in names that nobody stores, and the program's constants -/
structure Mg (mg : Str → Option Value) : Prop where
  len : mg "len" = none
  int : mg "int" = none
  range : mg "range" = none
  tuple : mg "tuple" = none
  list : mg "list" = none
  isi : mg "isinstance" = none
  all : mg "all" = none
  abs : mg "abs" = none
  bool : mg "bool" = none
  repr : mg "repr" = none
  set : mg "set" = none
  str : mg "str" = none
  enum : mg "enumerate" = none
  mcount : ∃ t, mg "MAX_COUNT" = some (.int 9 t)
  mcut : ∃ t, mg "MAX_CUT" = some (.int 30 t)
  mline : ∃ t, mg "MAX_LINE" = some (.int 3 t)
  mpairs : ∃ t, mg "MAX_PAIRS" = some (.int 4 t)
  mpass : ∃ t, mg "MAX_PASS" = some (.int 4 t)
  mpiece : ∃ t, mg "MAX_PIECE" = some (.int 2 t)
  max : mg "max" = none
  sum : mg "sum" = none
  any : mg "any" = none
  mlet : ∃ t, mg "MAX_LETTERS" = some (.int 3 t)
  mrows : ∃ t, mg "MAX_ROWS" = some (.int 400 t)
  mstates : ∃ t, mg "MAX_STATES" = some (.int 6 t)
  masked : ∃ t, mg "MAX_ASKED" = some (.int 20 t)
  mdepth : ∃ t, mg "MAX_DEPTH" = some (.int 4 t)
  mmany : ∃ t, mg "MANY" = some (.int 4 t)
  mlong : ∃ t, mg "LONGEST_PIECE" = some (.int 4 t)
  le : ∃ t, mg "LETTERS" = some (.str "abc" t)
def tyN : PyData → String
  | .none => "NoneType"
  | .bool _ => "bool"
  | .int _ => "int"
  | .str _ => "str"
  | .list _ => "list"
  | .tuple _ => "tuple"
  | .dict _ => "dict"
theorem tyD {B : Addr → Prop} {K : PySem.W.Frag} {H : Hp} {v : V} {d : PyData} (h : Dt B K H v d) : TyX K H v (.type (tyN d)) := by
  cases h with
  | non => exact .base .non
  | bl b => exact .base (.bl b)
  | int i => exact .base (.int i)
  | str x => exact .base (.str x)
  | lst nb ne hs ha =>
    rcases hs with hs | ⟨o, hs⟩
    · exact .base (.lst hs)
    · exact .base (.frz hs)
  | tup nb hs ha =>
    rcases hs with hs | ⟨o, hs⟩
    · exact .base (.tup hs)
    · exact .fTuple hs
  | emp nb e => exact .base (.dK e)
def isInt : PyData → Bool
  | .int _ => true
  | .bool _ => true
  | _ => false
def isBool : PyData → Bool
  | .bool _ => true
  | _ => false
def isTup : PyData → Bool
  | .tuple _ => true
  | _ => false
theorem kitI {K : PySem.W.Frag} (d : PyData) : PySem.W.kitOne K (.type (tyN d)) (.type "int") = some (isInt d) := by
  cases d with
  | none => exact kit_ty (show kitB "NoneType" "int" = some false by decide +kernel)
  | bool _ => exact kit_ty (show kitB "bool" "int" = some true by decide +kernel)
  | int _ => exact kit_ty (show kitB "int" "int" = some true by decide +kernel)
  | str _ => exact kit_ty (show kitB "str" "int" = some false by decide +kernel)
  | list _ => exact kit_ty (show kitB "list" "int" = some false by decide +kernel)
  | tuple _ => exact kit_ty (show kitB "tuple" "int" = some false by decide +kernel)
  | dict _ => exact kit_ty (show kitB "dict" "int" = some false by decide +kernel)
theorem kitB' {K : PySem.W.Frag} (d : PyData) : PySem.W.kitOne K (.type (tyN d)) (.type "bool") = some (isBool d) := by
  cases d with
  | none => exact kit_ty (show kitB "NoneType" "bool" = some false by decide +kernel)
  | bool _ => exact kit_ty (show kitB "bool" "bool" = some true by decide +kernel)
  | int _ => exact kit_ty (show kitB "int" "bool" = some false by decide +kernel)
  | str _ => exact kit_ty (show kitB "str" "bool" = some false by decide +kernel)
  | list _ => exact kit_ty (show kitB "list" "bool" = some false by decide +kernel)
  | tuple _ => exact kit_ty (show kitB "tuple" "bool" = some false by decide +kernel)
  | dict _ => exact kit_ty (show kitB "dict" "bool" = some false by decide +kernel)
theorem kitT {K : PySem.W.Frag} (d : PyData) : PySem.W.kitOne K (.type (tyN d)) (.type "tuple") = some (isTup d) := by
  cases d with
  | none => exact kit_ty (show kitB "NoneType" "tuple" = some false by decide +kernel)
  | bool _ => exact kit_ty (show kitB "bool" "tuple" = some false by decide +kernel)
  | int _ => exact kit_ty (show kitB "int" "tuple" = some false by decide +kernel)
  | str _ => exact kit_ty (show kitB "str" "tuple" = some false by decide +kernel)
  | list _ => exact kit_ty (show kitB "list" "tuple" = some false by decide +kernel)
  | tuple _ => exact kit_ty (show kitB "tuple" "tuple" = some true by decide +kernel)
  | dict _ => exact kit_ty (show kitB "dict" "tuple" = some false by decide +kernel)
def isStr : PyData → Bool
  | .str _ => true
  | _ => false
theorem kitS {K : PySem.W.Frag} (d : PyData) : PySem.W.kitOne K (.type (tyN d)) (.type "str") = some (isStr d) := by
  cases d with
  | none => exact kit_ty (show kitB "NoneType" "str" = some false by decide +kernel)
  | bool _ => exact kit_ty (show kitB "bool" "str" = some false by decide +kernel)
  | int _ => exact kit_ty (show kitB "int" "str" = some false by decide +kernel)
  | str _ => exact kit_ty (show kitB "str" "str" = some true by decide +kernel)
  | list _ => exact kit_ty (show kitB "list" "str" = some false by decide +kernel)
  | tuple _ => exact kit_ty (show kitB "tuple" "str" = some false by decide +kernel)
  | dict _ => exact kit_ty (show kitB "dict" "str" = some false by decide +kernel)
/-- an integer, no bool, within the bounds -/
def numD (d : PyData) (lo hi : Int) : Bool := match d with
  | .int i => decide (lo ≤ i) && decide (i ≤ hi)
  | _ => false
def spNum (K : PySem.W.Frag) : Sp := fun vs H Q _ => ∃ (B : Addr → Prop) (x : V) (d : PyData) (lo hi : Int), vs = [x, .int lo, .int hi] ∧ Dt B K H x d ∧ Q (.bl (numD d lo hi)) H
def intD : PyData → Bool
  | .int _ => true
  | _ => false
def spInt (K : PySem.W.Frag) : Sp := fun vs H Q _ => ∃ (B : Addr → Prop) (x : V) (d : PyData), vs = [x] ∧ Dt B K H x d ∧ Q (.bl (intD d)) H
section
variable {P : Program} {w : World} {K : PySem.W.Frag} {mg : Str → Option Value} {base : Heap}
theorem scInteger : FnScope ["value"] ["value"] (defScope sInteger) := ⟨rfl, rfl, rfl, by decide +kernel, rfl, by decide +kernel, by decide +kernel⟩
theorem ok_Integer {f : Addr} {fd : FuncData} (F : Fun K "is_integer" "is_integer" sInteger f fd) (T : Mg mg) : FnOk P w K mg base CX0 1 f fd ["value"] (spInt K) := by
  refine F.ok scInteger (fun vs H Q E h => ?_) (fun cdv A outer s H vs Q E hr h => ?_)
  · obtain ⟨B, x, d, rfl, _⟩ := h
    rfl
  · obtain ⟨B, x, d, rfl, hd, k⟩ := h
    refine ⟨_, pss_one (ps_ret (pe_and (pe_callB call_isi (by rfl) T.isi PyProof.Rows.boot_isinstance (pa_cons (pv 0) (pa_cons (pe_bltn (v := .ty "int") (by rfl) T.int PyProof.Rows.boot_int rfl) pa_nil)))
      (pe_one (pe_not (pe_callB call_isi (by rfl) T.isi PyProof.Rows.boot_isinstance (pa_cons (pv 0) (pa_cons (pe_bltn (v := .ty "bool") (by rfl) T.bool PyProof.Rows.boot_bool rfl) pa_nil))))))), ?_⟩
    refine ⟨x, rfl, x, .ty "int", _, _, _, rfl, .ty _, tyD hd, kitI d, _, rfl, ?_⟩
    cases d with
    | int i => exact ⟨x, rfl, x, .ty "bool", _, _, _, rfl, .ty _, tyD hd, kitB' _, _, rfl, k⟩
    | bool b => exact ⟨x, rfl, x, .ty "bool", _, _, _, rfl, .ty _, tyD hd, kitB' _, _, rfl, k⟩
    | none => exact k
    | str y => exact k
    | list _ => exact k
    | tuple _ => exact k
    | dict _ => exact k
theorem scNumber : FnScope ["value", "least", "most"] ["value", "least", "most"] (defScope sNumber) := ⟨rfl, rfl, rfl, by decide +kernel, rfl, by decide +kernel, by decide +kernel⟩
theorem ok_Number {f fI : Addr} {fd fdI : FuncData} (F : Fun K "is_number" "is_number" sNumber f fd) (I : FnOk P w K mg base CX0 1 fI fdI ["value"] (spInt K)) (FI : Fun K "is_integer" "is_integer" sInteger fI fdI) (bI : Binds K fdI ["value"] []) (gI : mg "is_integer" = some (.ref fI)) :
    FnOk P w K mg base CX0 2 f fd ["value", "least", "most"] (spNum K) := by
  refine F.ok scNumber (fun vs H Q E h => ?_) (fun cdv A outer s H vs Q E hr h => ?_)
  · obtain ⟨B, x, d, lo, hi, rfl, _⟩ := h
    rfl
  · obtain ⟨B, x, d, lo, hi, rfl, hd, k⟩ := h
    refine ⟨_, pss_one (ps_ret (pe_and (pe_call I (hr.mono (by decide)) (by rfl) gI FI.kp bI .nil pass0 (pa_cons (pv 0) pa_nil)) (pe_one (pe_chain op_le op_le (pv 1) (pv 0) (pv 2))))), ?_⟩
    refine ⟨x, rfl, B, x, d, rfl, hd, _, rfl, ?_⟩
    cases hd with
    | int i =>
      refine ⟨.int lo, rfl, .int i, rfl, lo, i, rfl, rfl, _, rfl, ?_⟩
      refine ite2 (fun h1 => ?_) (fun h1 => ?_)
      · refine ⟨.int hi, rfl, i, hi, rfl, rfl, ?_⟩
        have e : numD (.int i) lo hi = decide (i ≤ hi) := by
          show (decide (lo ≤ i) && decide (i ≤ hi)) = decide (i ≤ hi)
          rw [h1]
          rfl
        rw [e] at k
        exact k
      · have e : numD (.int i) lo hi = false := by
          show (decide (lo ≤ i) && decide (i ≤ hi)) = false
          rw [Bool.eq_false_iff.mpr h1]
          rfl
        rw [e] at k
        exact k
    | bl b => exact k
    | non => exact k
    | str y => exact k
    | lst nb ne hs ha => exact k
    | tup nb hs ha => exact k
    | emp nb e => exact k
theorem scWhole : FnScope ["_law_value", "_law_least", "_law_most"] ["_law_value", "_law_least", "_law_most"] (defScope sWhole) := ⟨rfl, rfl, rfl, by decide +kernel, rfl, by decide +kernel, by decide +kernel⟩
theorem ok_Whole {f : Addr} {fd : FuncData} (F : Fun K "_law_whole" "_law_whole" sWhole f fd) (T : Mg mg) : FnOk P w K mg base CX0 1 f fd ["_law_value", "_law_least", "_law_most"] (spNum K) := by
  refine F.ok scWhole (fun vs H Q E h => ?_) (fun cdv A outer s H vs Q E hr h => ?_)
  · obtain ⟨B, x, d, lo, hi, rfl, _⟩ := h
    rfl
  · obtain ⟨B, x, d, lo, hi, rfl, hd, k⟩ := h
    refine ⟨_, pss_one (ps_ret (pe_and (pe_callB call_isi (by rfl) T.isi PyProof.Rows.boot_isinstance (pa_cons (pv 0) (pa_cons (pe_bltn (v := .ty "int") (by rfl) T.int PyProof.Rows.boot_int rfl) pa_nil)))
      (pe_and (pe_not (pe_callB call_isi (by rfl) T.isi PyProof.Rows.boot_isinstance (pa_cons (pv 0) (pa_cons (pe_bltn (v := .ty "bool") (by rfl) T.bool PyProof.Rows.boot_bool rfl) pa_nil))))
      (pe_one (pe_chain op_le op_le (pv 1) (pv 0) (pv 2)))))), ?_⟩
    refine ⟨x, rfl, x, .ty "int", _, _, _, rfl, .ty _, tyD hd, kitI d, _, rfl, ?_⟩
    cases hd with
    | int i =>
      refine ⟨.int i, rfl, .int i, .ty "bool", _, _, _, rfl, .ty _, tyD (.int (B := B) i), kitB' (.int i), _, rfl, _, rfl, .int lo, rfl, .int i, rfl, lo, i, rfl, rfl, _, rfl, ?_⟩
      refine ite2 (fun h1 => ?_) (fun h1 => ?_)
      · refine ⟨.int hi, rfl, i, hi, rfl, rfl, ?_⟩
        have e : numD (.int i) lo hi = decide (i ≤ hi) := by
          show (decide (lo ≤ i) && decide (i ≤ hi)) = decide (i ≤ hi)
          rw [h1]
          rfl
        rw [e] at k
        exact k
      · have e : numD (.int i) lo hi = false := by
          show (decide (lo ≤ i) && decide (i ≤ hi)) = false
          rw [Bool.eq_false_iff.mpr h1]
          rfl
        rw [e] at k
        exact k
    | bl b => exact ⟨.bl b, rfl, .bl b, .ty "bool", _, _, _, rfl, .ty _, tyD (.bl (B := B) b), kitB' (.bool b), _, rfl, _, rfl, k⟩
    | non => exact k
    | str y => exact k
    | lst nb ne hs ha => exact k
    | tup nb hs ha => exact k
    | emp nb e => exact k
end
/-! ### data, counted and kept apart -/
theorem Dt.len_le {B : Addr → Prop} {K : PySem.W.Frag} {H : Hp} {a : Addr} {ds : List PyData} (h : Dt B K H (.ref a) (.tuple ds)) : ∃ xs, SqT K H a xs ∧ DtAll B K H xs ds ∧ xs.length = ds.length := by
  cases h with
  | tup nb hs ha => exact ⟨_, .inl hs, ha, ha.len⟩
theorem Dt.tup_ref {B : Addr → Prop} {K : PySem.W.Frag} {H : Hp} {v : V} {ds : List PyData} (h : Dt B K H v (.tuple ds)) : ∃ a xs, v = .ref a ∧ ¬ B a ∧ SqT K H a xs ∧ DtAll B K H xs ds ∧ xs.length = ds.length := by
  cases h with
  | tup nb hs ha => exact ⟨_, _, rfl, nb, .inl hs, ha, ha.len⟩
theorem Dt.tup_rd {B : Addr → Prop} {K : PySem.W.Frag} {H : Hp} {v : V} {ds : List PyData} (h : Dt B K H v (.tuple ds)) : ∃ a xs, v = .ref a ∧ ¬ B a ∧ Rd H a (.tup xs) ∧ DtAll B K H xs ds ∧ xs.length = ds.length := by
  cases h with
  | tup nb hs ha => exact ⟨_, _, rfl, nb, hs, ha, ha.len⟩
mutual
theorem Dt.off {B : Addr → Prop} {K : PySem.W.Frag} {H : Hp} {q : Addr} (n : H q = none) : ∀ (d : PyData) (v : V), Dt B K H v d → Dt (fun b => B b ∨ b = q) K H v d
  | .none, _, h => by cases h; exact .non
  | .bool _, _, h => by cases h; exact .bl _
  | .int _, _, h => by cases h; exact .int _
  | .str _, _, h => by cases h; exact .str _
  | .list ds, _, h => by
    cases h with
    | lst nb ne hs ha =>
      refine .lst (fun z => ?_) ne hs (DtAll.off n ds _ ha)
      rcases z with z | z
      · exact nb z
      · rw [z] at hs
        rcases hs with e | ⟨o, e⟩ <;> (rw [n] at e; cases e)
  | .tuple ds, _, h => by
    cases h with
    | tup nb hs ha =>
      refine .tup (fun z => ?_) hs (DtAll.off n ds _ ha)
      rcases z with z | z
      · exact nb z
      · rw [z] at hs
        rcases hs with e | ⟨o, e⟩ <;> (rw [n] at e; cases e)
  | .dict _, _, h => by
    cases h with
    | emp nb e =>
      refine .emp (fun z => ?_) e
      rcases z with z | z
      · exact nb z
      · rw [z, n] at e
        cases e
theorem DtAll.off {B : Addr → Prop} {K : PySem.W.Frag} {H : Hp} {q : Addr} (n : H q = none) : ∀ (ds : List PyData) (vs : List V), DtAll B K H vs ds → DtAll (fun b => B b ∨ b = q) K H vs ds
  | [], _, h => by cases h; exact .nil
  | d :: ds, _, h => by
    cases h with
    | cons h1 h2 => exact .cons (Dt.off n d _ h1) (DtAll.off n ds _ h2)
end
theorem same_dt {B : Addr → Prop} {K : PySem.W.Frag} {H H' : Hp} {v : V} {d : PyData} (s : Same H H') (h : Dt B K H v d) : Dt B K H' v d := Dt.keep (Keep.same s) d v h
theorem same_seqT {K : PySem.W.Frag} {H H' : Hp} {a : Addr} {xs : List V} (s : Same H H') (h : SqT K H a xs) : SqT K H' a xs := Keep.seqT (B := fun _ => False) (Keep.same s) (fun z => z) h
theorem all_take {f : PyData → Bool} {ds : List PyData} : ((ds.map f).all id) = ds.all f := by
  rw [List.all_map]
  rfl
mutual
def nodes : PyData → Nat
  | .list xs => 1 + nodesAll xs
  | .tuple xs => 1 + nodesAll xs
  | .none => 1
  | .bool _ => 1
  | .int _ => 1
  | .str z => 1 + z.length
  | .dict _ => 1
def nodesAll : List PyData → Nat
  | [] => 0
  | x :: xs => nodes x + nodesAll xs
end
theorem nodes_pos : ∀ d : PyData, 1 ≤ nodes d
  | .list xs => by unfold nodes; omega
  | .tuple xs => by unfold nodes; omega
  | .none => by unfold nodes; omega
  | .bool _ => by unfold nodes; omega
  | .int _ => by unfold nodes; omega
  | .str _ => by unfold nodes; omega
  | .dict _ => by unfold nodes; omega
theorem nodes_tup (xs : List PyData) : nodes (.tuple xs) = 1 + nodesAll xs := by rw [nodes]
theorem nodes_lst (xs : List PyData) : nodes (.list xs) = 1 + nodesAll xs := by rw [nodes]
theorem nodesAll_cons (x : PyData) (xs : List PyData) : nodesAll (x :: xs) = nodes x + nodesAll xs := by rw [nodesAll]
theorem nodesAll_nil : nodesAll [] = 0 := by rw [nodesAll]
theorem len_nodes : ∀ xs : List PyData, xs.length ≤ nodesAll xs
  | [] => Nat.zero_le _
  | x :: xs => by
    have := len_nodes xs
    have := nodes_pos x
    rw [nodesAll_cons, List.length_cons]
    omega
theorem mem_nodes : ∀ {xs : List PyData} {x : PyData}, x ∈ xs → nodes x ≤ nodesAll xs
  | [], _, h => absurd h List.not_mem_nil
  | y :: ys, x, h => by
    rw [nodesAll_cons]
    rcases List.mem_cons.mp h with e | e
    · rw [e]
      omega
    · have := mem_nodes e
      omega
theorem nodesAll_append : ∀ xs ys : List PyData, nodesAll (xs ++ ys) = nodesAll xs + nodesAll ys
  | [], ys => by rw [List.nil_append, nodesAll_nil, Nat.zero_add]
  | x :: xs, ys => by rw [List.cons_append, nodesAll_cons, nodesAll_cons, nodesAll_append xs ys, Nat.add_assoc]
theorem deck_upd {a c p : Addr} {cells : List Int} {n : Int} {H : Hp} {o : HO} (h : DeckAt a c cells n H) (np : ¬ Bd a c p) : DeckAt a c cells n (upd H p o) := by
  obtain ⟨h1, h2, h3, h4, h5⟩ := h
  refine ⟨h1, ?_, ?_, h4, h5⟩
  · rw [upd_ne (fun z : a = p => np (.inl z.symm))]
    exact h2
  · rw [upd_ne (fun z : c = p => np (.inr z.symm))]
    exact h3
theorem deck_off {a c p : Addr} {cells : List Int} {n : Int} {H : Hp} (h : DeckAt a c cells n H) (np : H p = none) : ¬ Bd a c p := bd_new np h.2.1 h.2.2.1
theorem deck_new {a c p : Addr} {cells : List Int} {n : Int} {H : Hp} {o : HO} (h : DeckAt a c cells n H) (np : H p = none) : DeckAt a c cells n (upd H p o) := deck_upd h (deck_off h np)
/-- a list that is made at D while the deck is drawn from: at most s draws an item -/
def CInv (a c D : Addr) (H0 : Hp) (G : V → Prop) (n0 s : Int) (j : Nat) (H' : Hp) : Prop :=
  ∃ (cells : List Int) (n' : Int) (acc : List V), DeckAt a c cells n' H' ∧ n0 ≤ n' ∧ n' ≤ n0 + s * j ∧ Keep (Bd a c) H0 H' ∧ H' D = some (.lst acc) ∧ acc.length = j ∧ ∀ v ∈ acc, G v
theorem cstart {a c D : Addr} {H0 : Hp} {G : V → Prop} {cells : List Int} {n0 s : Int} (dk : DeckAt a c cells n0 H0) (hD : H0 D = none) : CInv a c D H0 G n0 s 0 (upd H0 D (.lst [])) :=
  ⟨cells, n0, [], deck_new dk hD, Int.le_refl _, by simp, keep_new hD, upd_same, rfl, fun v z => absurd z List.not_mem_nil⟩
theorem cstep {a c D : Addr} {H0 H1 H2 : Hp} {G : V → Prop} {cells2 : List Int} {n0 s n1 n2 : Int} {j : Nat} {acc : List V} {v : V} (hD0 : H0 D = none) (nD : ¬ Bd a c D) (hj : j ≤ 1000) (h0 : n0 ≤ n1) (h1 : n1 ≤ n0 + s * j) (kp : Keep (Bd a c) H0 H1) (hD : H1 D = some (.lst acc)) (hl : acc.length = j)
    (hG : ∀ v ∈ acc, G v) (dk : DeckAt a c cells2 n2 H2) (h2 : n1 ≤ n2) (h3 : n2 ≤ n1 + s) (k2 : Keep (Bd a c) H1 H2) (g : G v) :
    ∃ acc', H2 D = some (.lst acc') ∧ acc'.length < sizeLine ∧ CInv a c D H0 G n0 s (j + 1) (upd H2 D (.lst (acc' ++ [v]))) := by
  refine ⟨acc, k2 _ _ nD hD, small1000 (by omega), cells2, n2, acc ++ [v], deck_upd dk nD, by omega, ?_, fun b o nb z => ?_, upd_same, ?_, fun u hu => ?_⟩
  · have e : s * ((j + 1 : Nat) : Int) = s * j + s := by
      rw [Int.natCast_add, Int.mul_add]
      simp
    rw [e]
    omega
  · rw [upd_ne (ne_of_none z hD0)]
    exact k2 _ _ nb (kp _ _ nb z)
  · rw [List.length_append, hl]
    rfl
  · rcases List.mem_append.mp hu with hu | hu
    · exact hG u hu
    · rw [List.mem_singleton.mp hu]
      exact g
mutual
theorem Dt.weak {B B' : Addr → Prop} {K : PySem.W.Frag} {H : Hp} (k : ∀ b, B' b → B b) : ∀ (d : PyData) (v : V), Dt B K H v d → Dt B' K H v d
  | .none, _, h => by cases h; exact .non
  | .bool _, _, h => by cases h; exact .bl _
  | .int _, _, h => by cases h; exact .int _
  | .str _, _, h => by cases h; exact .str _
  | .list ds, _, h => by
    cases h with
    | lst nb ne hs ha => exact .lst (fun z => nb (k _ z)) ne hs (DtAll.weak k ds _ ha)
  | .tuple ds, _, h => by
    cases h with
    | tup nb hs ha => exact .tup (fun z => nb (k _ z)) hs (DtAll.weak k ds _ ha)
  | .dict _, _, h => by
    cases h with
    | emp nb e => exact .emp (fun z => nb (k _ z)) e
theorem DtAll.weak {B B' : Addr → Prop} {K : PySem.W.Frag} {H : Hp} (k : ∀ b, B' b → B b) : ∀ (ds : List PyData) (vs : List V), DtAll B K H vs ds → DtAll B' K H vs ds
  | [], _, h => by cases h; exact .nil
  | d :: ds, _, h => by
    cases h with
    | cons h1 h2 => exact .cons (Dt.weak k d _ h1) (DtAll.weak k ds _ h2)
end
theorem Keep.wide {B B' : Addr → Prop} {H H' : Hp} (k : ∀ b, B b → B' b) (h : Keep B H H') : Keep B' H H' := fun b o n e => h b o (fun z => n (k b z)) e
section
variable {X : Cx}
/-- []: new, and no table of modules -/
def tNilN : TE := fun _ H Q => ∀ p, H p = none → p ≠ sysModules → Q (.ref p) (upd H p (.lst []))
theorem pe_nilN {pos : Pos} : PE X (.List [] pos) tNilN := by
  refine ⟨fun pins s σ H Q I h => ?_⟩
  refine wpAny_List_spliced (thn (pa_nil.run pos pins s σ H (fun xs H1 => xs = [] ∧ H1 = H) I ⟨rfl, rfl⟩) ?_)
  rintro us s1 ⟨xs, H1, I1, r, rfl, rfl⟩
  cases r
  exact ⟨Nat.zero_le _, .ref s1.heap.objs.size, _, I1.laid (o := .lst []) (t' := s1.toks) (fun b u e => Heap.get?_push_of_some _ e) (Nat.le_refl _) ⟨Nat.zero_le _, [], 0, .nil, Heap.get?_push_size _ rfl⟩, rfl, h _ (I1.hok.fresh (Nat.le_refl _)) (Nat.ne_of_gt I1.big)⟩
/-- list(t): new, and no table of modules -/
def rListN (K : PySem.W.Frag) : List V → Hp → VK → Prop := fun xs H Q => ∃ p ys, xs = [.ref p] ∧ SqT K H p ys ∧ ∀ l, H l = none → l ≠ sysModules → Q (.ref l) (upd H l (.lst ys))
theorem call_listN : CallR X (.type "list") (rListN X.K) := by
  intro pins s σ H xs us Q I r h
  obtain ⟨p, ys, rfl, hq, q⟩ := h
  obtain ⟨u, rfl, rx⟩ := vals1 r
  cases rx
  obtain ⟨its, rv, pl, hz⟩ := I.tuple hq
  have hlen := rv.length
  obtain ⟨o, ho, hc, n, hd⟩ := id pl
  refine call_list_seq p (.inr rfl) ho hc hd (fun h' c' kp e => ?_) (by simp only [List.size_toArray]; omega)
  exact ⟨.ref s.heap.objs.size, _, I.laid (t' := s.toks) kp (Nat.le_refl _) (show ObjOk X.prog X.w _ h' _ (.lst ys) from ⟨hz, its, c', rv, e⟩), rfl, q _ (I.hok.fresh (Nat.le_refl _)) (Nat.ne_of_gt I.big)⟩
/-- t[lo:hi], some tuple of the cut: t or a new one -/
def rSlS (K : PySem.W.Frag) : V → Option Int → Option Int → Hp → VK → Prop := fun x lo hi H Q => ∃ a xs, x = .ref a ∧ Rd H a (.tup xs) ∧ ∀ q H', Same H H' → Rd H' q (.tup (cutV xs lo hi)) → (q = a ∨ H q = none) → Q (.ref q) H'
theorem sl_tupS : SlR X (rSlS X.K) := by
  intro pins s σ H x v vl vu lo hi sl Q I rx hs pl pu h
  obtain ⟨a, xs, rfl, hx, q⟩ := h
  refine sl_tupA pins s σ H _ v vl vu lo hi sl Q I rx hs pl pu ⟨a, xs, rfl, .inl hx, fun hw => ?_, fun hw p hp => ?_⟩
  · refine q a H (Same.refl H) ?_ (.inl rfl)
    have e : cutV xs lo hi = xs := by
      unfold cutV
      rw [hw.1, hw.2, List.drop_zero, Nat.sub_zero, List.take_length]
    rw [e]
    exact hx
  · exact q p _ (same_new hp) (.inl upd_same) (.inr hp)
/-- t + u, some tuple of both -/
def rCatS (K : PySem.W.Frag) : R2 := fun x y H Q => ∃ a b xs ys, x = .ref a ∧ y = .ref b ∧ Rd H a (.tup xs) ∧ Rd H b (.tup ys) ∧ xs.length + ys.length ≤ sizeLine ∧ ∀ q H', Same H H' → Rd H' q (.tup (xs ++ ys)) → (q = a ∨ q = b ∨ H q = none) → Q (.ref q) H'
theorem op_catS : OpR X (binaryOp .Add) (rCatS X.K) := by
  intro pins s σ H x y v u Q I rx ry h
  obtain ⟨a, b, xs, ys, rfl, rfl, hx, hy, hz, q⟩ := h
  refine op_catA pins s σ H _ _ v u Q I rx ry ⟨a, b, xs, ys, rfl, rfl, .inl hx, .inl hy, hz, fun e => ?_, fun _ e => ?_, fun _ _ p hp => ?_⟩
  · subst e
    exact q b H (Same.refl H) hy (.inr (.inl rfl))
  · subst e
    refine q a H (Same.refl H) ?_ (.inl rfl)
    rw [List.append_nil]
    exact hx
  · exact q p _ (same_new hp) (.inl upd_same) (.inr (.inr hp))
end
theorem cut_take (xs : List V) (j : Nat) (h : j ≤ xs.length) : cutV xs none (some (j : Int)) = xs.take j := by
  unfold cutV
  rw [HT.sIx_none, HT.sIx_nat, List.drop_zero, Nat.sub_zero, Nat.min_eq_left h]
theorem cut_drop (xs : List V) (j : Nat) (h : j ≤ xs.length) : cutV xs (some (j : Int)) none = xs.drop j := by
  unfold cutV
  rw [HT.sIx_none, HT.sIx_nat, Nat.min_eq_left h]
  exact List.take_of_length_le (by rw [List.length_drop]; omega)
theorem cut_mid (xs : List V) (j : Nat) (h : j < xs.length) : cutV xs (some (j : Int)) (some ((j + 1 : Nat) : Int)) = (xs.drop j).take 1 := by
  unfold cutV
  rw [HT.sIx_nat, HT.sIx_nat, Nat.min_eq_left (by omega), Nat.min_eq_left (by omega)]
  congr 1
  omega
/-- all of B is tracked -/
def TB (B : Addr → Prop) (H : Hp) : Prop := ∀ b, B b → H b ≠ none
theorem tb_off {B : Addr → Prop} {H : Hp} {p : Addr} (tb : TB B H) (n : H p = none) : ¬ B p := fun z => tb p z n
theorem tb_upd {B : Addr → Prop} {H : Hp} {p : Addr} {o : HO} (tb : TB B H) : TB B (upd H p o) := fun b z e => by
  by_cases h : b = p
  · rw [h, upd_same] at e
    cases e
  · rw [upd_ne h] at e
    exact tb b z e
theorem tb_same {B : Addr → Prop} {H H' : Hp} (s : Same H H') (tb : TB B H) : TB B H' := fun b z e => by
  cases q : H b with
  | none => exact tb b z q
  | some o =>
    rw [s b o q] at e
    cases e
theorem tb_keep {B : Addr → Prop} {H H' : Hp} {a c : Addr} {cells : List Int} {n : Int} (tb : TB B H) (dk : DeckAt a c cells n H') (k : Keep (Bd a c) H H') : TB B H' := fun b z e => by
  by_cases h : Bd a c b
  · exact deck_off dk e h
  · cases q : H b with
    | none => exact tb b z q
    | some o =>
      rw [k b o h q] at e
      cases e
theorem new_tup {B : Addr → Prop} {p : Addr} {K : PySem.W.Frag} {H : Hp} {xs : List V} {ds : List PyData} (tb : TB B H) (h : H p = none) (ha : DtAll B K (upd H p (.tup xs)) xs ds) : Dt B K (upd H p (.tup xs)) (.ref p) (.tuple ds) :=
  .tup (tb_off tb h) (.inl upd_same) ha
theorem same_rd {H H' : Hp} {a : Addr} {o : HO} (s : Same H H') (h : Rd H a o) : Rd H' a o := Keep.rd (B := fun _ => False) (Keep.same s) (fun z => z) h
theorem deck_same {a c : Addr} {cells : List Int} {n : Int} {H H' : Hp} (s : Same H H') (h : DeckAt a c cells n H) : DeckAt a c cells n H' := ⟨h.1, s _ _ h.2.1, s _ _ h.2.2.1, h.2.2.2.1, h.2.2.2.2⟩
theorem sz_of {n : Nat} (h : n ≤ 100000) : n ≤ sizeLine := Nat.le_trans h (by decide)
theorem nb_of {B : Addr → Prop} {p q : Addr} {H : Hp} (tb : TB B H) (np : ¬ B p) (h : q = p ∨ H q = none) : ¬ B q := by
  rcases h with h | h
  · rw [h]
    exact np
  · exact tb_off tb h
theorem nb_of2 {B : Addr → Prop} {p r q : Addr} {H : Hp} (tb : TB B H) (np : ¬ B p) (nr : ¬ B r) (h : q = p ∨ q = r ∨ H q = none) : ¬ B q := by
  rcases h with h | h | h
  · rw [h]
    exact np
  · rw [h]
    exact nr
  · exact tb_off tb h
theorem same_seqL {K : PySem.W.Frag} {H H' : Hp} {a : Addr} {xs : List V} (s : Same H H') (h : SqL K H a xs) : SqL K H' a xs := L2.Same.seq s h
theorem same_all {B : Addr → Prop} {K : PySem.W.Frag} {H H' : Hp} {vs : List V} {ds : List PyData} (s : Same H H') (h : DtAll B K H vs ds) : DtAll B K H' vs ds := DtAll.keep (Keep.same s) _ _ h
theorem nodes_rev : ∀ xs : List PyData, nodesAll xs.reverse = nodesAll xs
  | [] => rfl
  | x :: xs => by rw [List.reverse_cons, nodesAll_append, nodes_rev xs, nodesAll_cons, nodesAll_cons, nodesAll_nil]; omega
/-! ### rules that hide the heap-/
def tLstA (t : TA) : TE := fun σ H Q => t σ H fun xs H1 => xs.length ≤ sizeLine ∧ ∀ p H', Same H1 H' → H1 p = none → p ≠ sysModules → H' p = some (.lst xs) → Q (.ref p) H'
def rCatA : R2 := fun x y H Q => ∃ l b xs zs, x = .ref l ∧ y = .ref b ∧ H l = some (.lst xs) ∧ H b = some (.lst zs) ∧ xs.length + zs.length ≤ sizeLine ∧ ∀ p H', Same H H' → H p = none → p ≠ sysModules → H' p = some (.lst (xs ++ zs)) → Q (.ref p) H'
section
variable {X : Cx}
def rCatN : R2 := fun x y H Q => ∃ l b xs zs, x = .ref l ∧ y = .ref b ∧ H l = some (.lst xs) ∧ H b = some (.lst zs) ∧ xs.length + zs.length ≤ sizeLine ∧ ∀ p, H p = none → p ≠ sysModules → Q (.ref p) (upd H p (.lst (xs ++ zs)))
theorem op_catN : OpR X (binaryOp .Add) rCatN := by
  intro pins s σ H x y v u Q I rx ry h
  obtain ⟨l, b, xs, zs, rfl, rfl, hx, hy, hz, q⟩ := h
  cases rx
  cases ry
  obtain ⟨_, its, n, r, h1, e⟩ := I.lstM hx
  obtain ⟨_, jts, m, r2, h2, e2⟩ := I.lstM hy
  refine PySem.P.add_list e e2 ?_ (by rw [List.size_toArray, List.size_toArray]; omega)
  rw [show its.toArray ++ jts.toArray = (its ++ jts).toArray by simp]
  exact ⟨.ref _, _, I.lnew (t' := s.toks) (r.append r2) (by rw [List.length_append]; omega), rfl, q _ I.fresh (Nat.ne_of_gt I.big)⟩
theorem pe_lstA {es : List Expr} {t : TA} {pos : Pos} (ht : PA X es t) : PE X (.List es pos) (tLstA t) := by
  refine ⟨fun pins s σ H Q I h => wpAny_List_spliced (thn (ht.run pos pins s σ H _ I h) ?_)⟩
  rintro us s1 ⟨xs, H1, I1, r, hz, q⟩
  have hl := r.length
  have np := I1.hok.fresh (Nat.le_refl s1.heap.objs.size)
  exact ⟨by rw [← hl]; exact hz, .ref s1.heap.objs.size, _, I1.laid (o := .lst xs) (t' := s1.toks) (fun b u e => Heap.get?_push_of_some _ e) (Nat.le_refl _) ⟨hz, us, 0, r, Heap.get?_push_size _ rfl⟩, rfl, q _ _ (same_new np) np (Nat.ne_of_gt I1.big) upd_same⟩
theorem op_catA' : OpR X (binaryOp .Add) rCatA := by
  intro pins s σ H x y v u Q I rx ry h
  obtain ⟨l, b, xs, zs, h1, h2, h3, h4, h5, q⟩ := h
  exact op_catN pins s σ H x y v u Q I rx ry ⟨l, b, xs, zs, h1, h2, h3, h4, h5, fun p np ns => q p _ (same_new np) np ns upd_same⟩
def tTupA (t : TA) : TE := fun σ H Q => t σ H fun xs H1 => xs.length ≤ sizeLine ∧ ∀ p H', Same H1 H' → H1 p = none → H' p = some (.tup xs) → Q (.ref p) H'
end
theorem ifF {A B : Prop} (h : B) : if false = true then A else B := h
theorem ifE {c : Bool} {A B : Prop} (e : c = false) (h : B) : if c = true then A else B := by
  rw [e]
  exact h
theorem ifT {c : Bool} {A B : Prop} (e : c = true) (h : A) : if c = true then A else B := by
  rw [e]
  exact h
/-! ### data that were changed a few times -/
def ods : List PyData := [.none, .bool true, .bool false, .int 0, .int 1, .int 2, .int 4, .int 9, .int 10, .int 30, .int 31, .int (-1), .int (10 ^ 40), .str "a", .str "c", .str "d", .str "", .str "cut", .str "pass", .str "ab", .tuple [], .tuple [.int 0], .tuple [.str "a"], .list [], .dict []]
inductive Ch : PyData → PyData → Prop
  | odd {d e : PyData} (h : e ∈ ods) : Ch d e
  | del {ds : List PyData} (i : Nat) (h : i < ds.length) : Ch (.tuple ds) (.tuple (ds.eraseIdx i))
  | dup {ds : List PyData} {x : PyData} (i : Nat) (h : ds[i]? = some x) : Ch (.tuple ds) (.tuple (ds ++ [x]))
  | lst {ds : List PyData} : Ch (.tuple ds) (.list ds)
  | rev {ds : List PyData} : Ch (.tuple ds) (.tuple ds.reverse)
  | sub {ds : List PyData} {x y : PyData} (i : Nat) (h : ds[i]? = some x) (c : Ch x y) : Ch (.tuple ds) (.tuple (ds.set i y))
inductive Near : Nat → PyData → PyData → Prop
  | same {k : Nat} {d : PyData} : Near k d d
  | step {k : Nat} {d e f : PyData} (h : Near k d e) (c : Ch e f) : Near (k + 1) d f
theorem Near.up {k : Nat} {d e : PyData} (h : Near k d e) : Near (k + 1) d e := by
  induction h with
  | same => exact .same
  | step _ c ih => exact .step ih c
theorem Near.mono {k : Nat} {d e : PyData} (h : Near k d e) : ∀ j, k ≤ j → Near j d e
  | j, hj => by
    induction hj with
    | refl => exact h
    | step _ ih => exact ih.up
theorem Near.zero {d e : PyData} (h : Near 0 d e) : e = d := by
  cases h
  rfl
theorem ods_tup {es : List PyData} (h : PyData.tuple es ∈ ods) : es = [] ∨ es = [.int 0] ∨ es = [.str "a"] := by
  simp only [ods, List.mem_cons, PyData.tuple.injEq, reduceCtorEq, false_or, or_false, List.not_mem_nil] at h
  exact h
theorem near_str {k : Nat} {x : PyData} {z : Str} (h : Near k x (.str z)) (n : PyData.str z ∉ ods) : x = .str z := by
  cases h with
  | same => rfl
  | step h c =>
    cases c with
    | odd h => exact absurd h n
/-- one list of data against another, place by place -/
def A2 (k : Nat) (ms es : List PyData) : Prop := es.length = ms.length ∧ ∀ (i : Nat) (x y : PyData), ms[i]? = some x → es[i]? = some y → Near k x y
theorem A2.mem {k : Nat} {ms es : List PyData} (h : A2 k ms es) {e : PyData} (he : e ∈ es) : ∃ m ∈ ms, Near k m e := by
  obtain ⟨i, hi⟩ := List.mem_iff_getElem?.mp he
  have hl := (List.getElem?_eq_some_iff.mp hi).1
  have hl2 : i < ms.length := by rw [← h.1]; exact hl
  have hm : ms[i]? = some ms[i] := List.getElem?_eq_getElem hl2
  exact ⟨_, List.mem_of_getElem? hm, h.2 i _ _ hm hi⟩
theorem A2.rfl' {k : Nat} {ms : List PyData} : A2 k ms ms := ⟨rfl, fun i x y h1 h2 => by
  rw [h1] at h2
  cases h2
  exact .same⟩
theorem A2.up {k : Nat} {ms es : List PyData} (h : A2 k ms es) : A2 (k + 1) ms es := ⟨h.1, fun i x y h1 h2 => (h.2 i x y h1 h2).up⟩
theorem A2.del {k : Nat} {ms es : List PyData} (h : A2 k ms es) (i : Nat) : A2 k (ms.eraseIdx i) (es.eraseIdx i) := by
  refine ⟨by rw [List.length_eraseIdx, List.length_eraseIdx, h.1], fun j x y h1 h2 => ?_⟩
  rw [List.getElem?_eraseIdx] at h1 h2
  split at h1
  · rename_i q
    rw [if_pos q] at h2
    exact h.2 _ _ _ h1 h2
  · rename_i q
    rw [if_neg q] at h2
    exact h.2 _ _ _ h1 h2
theorem A2.rev {k : Nat} {ms es : List PyData} (h : A2 k ms es) : A2 k ms.reverse es.reverse := by
  refine ⟨by rw [List.length_reverse, List.length_reverse, h.1], fun j x y h1 h2 => ?_⟩
  have l1 := (List.getElem?_eq_some_iff.mp h1).1
  have l2 := (List.getElem?_eq_some_iff.mp h2).1
  rw [List.length_reverse] at l1 l2
  rw [List.getElem?_reverse l1] at h1
  rw [List.getElem?_reverse l2, h.1] at h2
  exact h.2 _ _ _ h1 h2
theorem A2.dup {k : Nat} {ms es : List PyData} (h : A2 k ms es) {i : Nat} {x : PyData} (hx : es[i]? = some x) : ∃ m, ms[i]? = some m ∧ A2 k (ms ++ [m]) (es ++ [x]) := by
  have hl := (List.getElem?_eq_some_iff.mp hx).1
  have hl2 : i < ms.length := by rw [← h.1]; exact hl
  have hm : ms[i]? = some ms[i] := List.getElem?_eq_getElem hl2
  refine ⟨_, hm, by rw [List.length_append, List.length_append, h.1]; rfl, fun j u v h1 h2 => ?_⟩
  by_cases q : j < ms.length
  · rw [List.getElem?_append_left q] at h1
    rw [List.getElem?_append_left (by rw [h.1]; exact q)] at h2
    exact h.2 _ _ _ h1 h2
  · have q1 : ms.length ≤ j := by omega
    rw [List.getElem?_append_right q1] at h1
    rw [List.getElem?_append_right (by rw [h.1]; exact q1), h.1] at h2
    cases e : j - ms.length with
    | zero =>
      rw [e] at h1 h2
      cases h1
      cases h2
      exact h.2 _ _ _ hm hx
    | succ n =>
      rw [e] at h1
      cases h1
theorem A2.sub {k : Nat} {ms es : List PyData} (h : A2 k ms es) {i : Nat} {x y : PyData} (hx : es[i]? = some x) (c : Ch x y) : A2 (k + 1) ms (es.set i y) := by
  refine ⟨by rw [List.length_set, h.1], fun j u v h1 h2 => ?_⟩
  rw [List.getElem?_set] at h2
  split at h2
  · rename_i q
    subst q
    split at h2
    · cases h2
      exact .step (h.2 _ _ _ h1 hx) c
    · cases h2
  · exact (h.2 _ _ _ h1 h2).up
theorem mem_set {ds : List PyData} {i : Nat} {y e : PyData} (h : e ∈ ds.set i y) : e ∈ ds ∨ e = y := List.mem_or_eq_of_mem_set h
/-- how a tuple of a few changes goes back to one -/
def Way (k : Nat) (ds es : List PyData) : Prop :=
  A2 k ds es ∨ (1 ≤ k ∧ ∃ ms, ms.length ≠ ds.length ∧ (∀ m ∈ ms, m ∈ ds) ∧ A2 (k - 1) ms es) ∨ (1 ≤ k ∧ A2 (k - 1) ds.reverse es) ∨
  (2 ≤ k ∧ ∀ e ∈ es, ∃ y ∈ ds, Near (k - 2) y e)
def Odd (k : Nat) (es : List PyData) : Prop := 1 ≤ k ∧ ∀ e ∈ es, Near (k - 1) (.int 0) e ∨ Near (k - 1) (.str "a") e
theorem odd_new {k : Nat} {es : List PyData} (h : PyData.tuple es ∈ ods) : Odd (k + 1) es := by
  refine ⟨by omega, fun e he => ?_⟩
  rcases ods_tup h with rfl | rfl | rfl
  · exact absurd he List.not_mem_nil
  · rw [List.mem_singleton.mp he]
    exact .inl .same
  · rw [List.mem_singleton.mp he]
    exact .inr .same
theorem some_up {k : Nat} {es : List PyData} (h : Odd k es) : ∀ e ∈ es, Near k (.int 0) e ∨ Near k (.str "a") e := fun e he => by
  obtain ⟨k1, h⟩ := h
  rcases h e he with h | h
  · exact .inl (h.mono _ (by omega))
  · exact .inr (h.mono _ (by omega))
theorem odd_step {k : Nat} {es : List PyData} {f : PyData} (h : Odd k es) (c : Ch (.tuple es) f) : ∀ fs, f = .tuple fs → Odd (k + 1) fs := by
  intro fs ef
  subst ef
  have k1 := h.1
  have hu := some_up h
  cases c with
  | odd hm => exact odd_new hm
  | del i hi => exact ⟨by omega, fun e he => hu e (List.mem_of_mem_eraseIdx he)⟩
  | dup i hx => exact ⟨by omega, fun e he => by
      rcases List.mem_append.mp he with he | he
      · exact hu e he
      · rw [List.mem_singleton.mp he]
        exact hu _ (List.mem_of_getElem? hx)⟩
  | rev => exact ⟨by omega, fun e he => hu e (List.mem_reverse.mp he)⟩
  | sub i hx c => exact ⟨by omega, fun e he => by
      rcases mem_set he with he | he
      · exact hu e he
      · rw [he]
        have e1 : k + 1 - 1 = (k - 1) + 1 := by omega
        rw [e1]
        rcases h.2 _ (List.mem_of_getElem? hx) with h | h
        · exact .inl (.step h c)
        · exact .inr (.step h c)⟩
theorem pred_up {k : Nat} (h : 1 ≤ k) : k + 1 - 1 = (k - 1) + 1 := by omega
theorem pred_up2 {k : Nat} (h : 2 ≤ k) : k + 1 - 2 = (k - 2) + 1 := by omega
theorem way_far {k : Nat} {ds es : List PyData} (k1 : 1 ≤ k) (h : ∀ e ∈ es, ∃ y ∈ ds, Near (k - 1) y e) : Way (k + 1) ds es :=
  .inr (.inr (.inr ⟨by omega, fun e he => by
    obtain ⟨y, hy, hn⟩ := h e he
    exact ⟨y, hy, hn.mono _ (by omega)⟩⟩))
theorem far_step {j : Nat} {ds es fs : List PyData} (h : ∀ e ∈ es, ∃ y ∈ ds, Near j y e) (c : Ch (.tuple es) (.tuple fs)) (no : PyData.tuple fs ∉ ods) : ∀ e ∈ fs, ∃ y ∈ ds, Near (j + 1) y e := by
  cases c with
  | odd hm => exact absurd hm no
  | del i hi =>
      intro e he
      obtain ⟨y, hy, hn⟩ := h e (List.mem_of_mem_eraseIdx he)
      exact ⟨y, hy, hn.up⟩
  | dup i hx =>
      intro e he
      rcases List.mem_append.mp he with he | he
      · obtain ⟨y, hy, hn⟩ := h e he
        exact ⟨y, hy, hn.up⟩
      · rw [List.mem_singleton.mp he]
        obtain ⟨y, hy, hn⟩ := h _ (List.mem_of_getElem? hx)
        exact ⟨y, hy, hn.up⟩
  | rev =>
      intro e he
      obtain ⟨y, hy, hn⟩ := h e (List.mem_reverse.mp he)
      exact ⟨y, hy, hn.up⟩
  | sub i hx c =>
      intro e he
      rcases mem_set he with he | he
      · obtain ⟨y, hy, hn⟩ := h e he
        exact ⟨y, hy, hn.up⟩
      · rw [he]
        obtain ⟨y, hy, hn⟩ := h _ (List.mem_of_getElem? hx)
        exact ⟨y, hy, .step hn c⟩
theorem way_step {k : Nat} {ds es : List PyData} {f : PyData} (h : Way k ds es) (c : Ch (.tuple es) f) : ∀ fs, f = .tuple fs → Way (k + 1) ds fs ∨ Odd (k + 1) fs := by
  intro fs ef
  subst ef
  by_cases no : PyData.tuple fs ∈ ods
  · exact .inr (odd_new no)
  · left
    rcases h with h | ⟨k1, ms, hl, hm, h⟩ | ⟨k1, h⟩ | ⟨k2, h⟩
    · cases c with
      | odd hm => exact absurd hm no
      | del i hi => exact .inr (.inl ⟨by omega, _, by rw [List.length_eraseIdx, if_pos (by rw [← h.1]; exact hi)]; have := h.1; omega, fun m hm => List.mem_of_mem_eraseIdx hm, h.del i⟩)
      | dup i hx =>
        obtain ⟨m, hm, h⟩ := h.dup hx
        exact .inr (.inl ⟨by omega, _, by rw [List.length_append]; show ds.length + 1 ≠ ds.length; omega, fun n hn => by
          rcases List.mem_append.mp hn with hn | hn
          · exact hn
          · rw [List.mem_singleton.mp hn]
            exact List.mem_of_getElem? hm, h⟩)
      | rev => exact .inr (.inr (.inl ⟨by omega, h.rev⟩))
      | sub i hx c => exact .inl (h.sub hx c)
    · by_cases hs : ∃ i x y, es[i]? = some x ∧ Ch x y ∧ fs = es.set i y
      · obtain ⟨i, x, y, hx, cc, rfl⟩ := hs
        refine .inr (.inl ⟨by omega, ms, hl, hm, ?_⟩)
        rw [pred_up k1]
        exact h.sub hx cc
      · cases c with
        | odd hm => exact absurd hm no
        | sub i hx c => exact absurd ⟨i, _, _, hx, c, rfl⟩ hs
        | del i hi =>
            refine way_far k1 fun e he => ?_
            obtain ⟨y, hy, hn⟩ := h.mem (List.mem_of_mem_eraseIdx he)
            exact ⟨y, hm _ hy, hn⟩
        | dup i hx =>
            refine way_far k1 fun e he => ?_
            rcases List.mem_append.mp he with he | he
            · obtain ⟨y, hy, hn⟩ := h.mem he
              exact ⟨y, hm _ hy, hn⟩
            · rw [List.mem_singleton.mp he]
              obtain ⟨y, hy, hn⟩ := h.mem (List.mem_of_getElem? hx)
              exact ⟨y, hm _ hy, hn⟩
        | rev =>
            refine way_far k1 fun e he => ?_
            obtain ⟨y, hy, hn⟩ := h.mem (List.mem_reverse.mp he)
            exact ⟨y, hm _ hy, hn⟩
    · cases c with
      | odd hm => exact absurd hm no
      | sub i hx c =>
        refine .inr (.inr (.inl ⟨by omega, ?_⟩))
        rw [pred_up k1]
        exact h.sub hx c
      | del i hi =>
          refine way_far k1 fun e he => ?_
          obtain ⟨y, hy, hn⟩ := h.mem (List.mem_of_mem_eraseIdx he)
          exact ⟨y, List.mem_reverse.mp hy, hn⟩
      | dup i hx =>
          refine way_far k1 fun e he => ?_
          rcases List.mem_append.mp he with he | he
          · obtain ⟨y, hy, hn⟩ := h.mem he
            exact ⟨y, List.mem_reverse.mp hy, hn⟩
          · rw [List.mem_singleton.mp he]
            obtain ⟨y, hy, hn⟩ := h.mem (List.mem_of_getElem? hx)
            exact ⟨y, List.mem_reverse.mp hy, hn⟩
      | rev =>
          refine way_far k1 fun e he => ?_
          obtain ⟨y, hy, hn⟩ := h.mem (List.mem_reverse.mp he)
          exact ⟨y, List.mem_reverse.mp hy, hn⟩
    · refine .inr (.inr (.inr ⟨by omega, ?_⟩))
      rw [pred_up2 k2]
      exact far_step h c no
/-- a tuple a few changes away: from a tuple, or from a new one -/
theorem near_tup {k : Nat} {s e : PyData} (h : Near k s e) : ∀ es, e = .tuple es → (∃ ds, s = .tuple ds ∧ Way k ds es) ∨ Odd k es := by
  induction h with
  | same => exact fun es e => .inl ⟨es, e, .inl A2.rfl'⟩
  | step h c ih =>
    intro fs ef
    rename_i k d e f
    by_cases q : ∃ es, e = .tuple es
    · obtain ⟨es, rfl⟩ := q
      rcases ih es rfl with ⟨ds, e1, w⟩ | o
      · rcases way_step w c fs ef with w | o
        · exact .inl ⟨ds, e1, w⟩
        · exact .inr o
      · exact .inr (odd_step o c fs ef)
    · subst ef
      cases c with
      | odd hm => exact .inr (odd_new hm)
      | del i hi => exact absurd ⟨_, rfl⟩ q
      | dup i hx => exact absurd ⟨_, rfl⟩ q
      | rev => exact absurd ⟨_, rfl⟩ q
      | sub i hx c => exact absurd ⟨_, rfl⟩ q
theorem Way.mem {k : Nat} {ds es : List PyData} (h : Way k ds es) {e : PyData} (he : e ∈ es) : ∃ y ∈ ds, Near k y e := by
  rcases h with h | ⟨k1, ms, hl, hm, h⟩ | ⟨k1, h⟩ | ⟨k2, h⟩
  · exact h.mem he
  · obtain ⟨y, hy, hn⟩ := h.mem he
    exact ⟨y, hm _ hy, hn.mono _ (by omega)⟩
  · obtain ⟨y, hy, hn⟩ := h.mem he
    exact ⟨y, List.mem_reverse.mp hy, hn.mono _ (by omega)⟩
  · obtain ⟨y, hy, hn⟩ := h e he
    exact ⟨y, hy, hn.mono _ (by omega)⟩
/-! ### what a pass is away -/
def TN (x : PyData) : Prop := ∃ rs, x = .tuple rs ∧ rs ≠ [] ∧ ∀ r ∈ rs, ∃ zs, r = .tuple zs ∧ zs ≠ [] ∧ ∀ z ∈ zs, ∃ i, z = .int i
def TS (x : PyData) : Prop := ∃ rs, x = .tuple rs ∧ rs ≠ [] ∧ ∀ r ∈ rs, ∃ zs, r = .tuple zs ∧ zs ≠ [] ∧ ∀ z ∈ zs, ∃ i, z = .str i
theorem tn_ts {x : PyData} (h : TN x) (g : TS x) : False := by
  obtain ⟨rs, rfl, n, h⟩ := h
  obtain ⟨rs', e, _, g⟩ := g
  cases e
  obtain ⟨r, hr⟩ := List.exists_mem_of_ne_nil _ n
  obtain ⟨zs, rfl, nz, h⟩ := h r hr
  obtain ⟨zs', e, _, g⟩ := g _ hr
  cases e
  obtain ⟨z, hz⟩ := List.exists_mem_of_ne_nil _ nz
  obtain ⟨i, rfl⟩ := h z hz
  obtain ⟨j, e⟩ := g _ hz
  cases e
theorem tn_ods {x : PyData} (h : x ∈ ods) : ¬ TN x ∧ ¬ TS x := by
  refine ⟨?_, ?_⟩ <;>
  · rintro ⟨rs, rfl, n, k⟩
    rcases ods_tup h with rfl | rfl | rfl
    · exact n rfl
    · obtain ⟨zs, e, _⟩ := k _ List.mem_cons_self
      cases e
    · obtain ⟨zs, e, _⟩ := k _ List.mem_cons_self
      cases e
def Rn (T : PyData → Prop) (x : PyData) (r : Nat) : Prop := 2 ≤ r ∨ (1 ≤ r ∧ ∃ y, Ch x y ∧ T y) ∨ T x
theorem rn_ch {T : PyData → Prop} {x y : PyData} {r : Nat} (c : Ch x y) (h : Rn T y r) : Rn T x (r + 1) := by
  rcases h with h | ⟨h, _⟩ | h
  · exact .inl (by omega)
  · exact .inl (by omega)
  · exact .inr (.inl ⟨by omega, _, c, h⟩)
theorem rn_up {T : PyData → Prop} {x : PyData} {r s : Nat} (h : Rn T x r) (q : r ≤ s) : Rn T x s := by
  rcases h with h | ⟨h, g⟩ | h
  · exact .inl (by omega)
  · exact .inr (.inl ⟨by omega, g⟩)
  · exact .inr (.inr h)
theorem rn_leaf {T : PyData → Prop} (hT : ∀ x ∈ ods, ¬ T x) {x : PyData} (n1 : ∀ es, x ≠ .tuple es) (n2 : ¬ T x) {r : Nat} (h : Rn T x r) : 2 ≤ r := by
  rcases h with h | ⟨h, y, c, g⟩ | h
  · exact h
  · cases c with
    | odd hm => exact absurd g (hT _ hm)
    | del i hi => exact absurd rfl (n1 _)
    | dup i hx => exact absurd rfl (n1 _)
    | lst => exact absurd rfl (n1 _)
    | rev => exact absurd rfl (n1 _)
    | sub i hx c => exact absurd rfl (n1 _)
  · exact absurd h n2
theorem tn_leaf {x : PyData} (n1 : ∀ es, x ≠ .tuple es) : ¬ TN x ∧ ¬ TS x := ⟨fun ⟨rs, e, _⟩ => n1 rs e, fun ⟨rs, e, _⟩ => n1 rs e⟩
theorem leafN {x : PyData} (n1 : ∀ es, x ≠ .tuple es) {r : Nat} (h : Rn TN x r) : 2 ≤ r := rn_leaf (fun y hy => (tn_ods hy).1) n1 (tn_leaf n1).1 h
theorem leafS {x : PyData} (n1 : ∀ es, x ≠ .tuple es) {r : Nat} (h : Rn TS x r) : 2 ≤ r := rn_leaf (fun y hy => (tn_ods hy).2) n1 (tn_leaf n1).2 h
def Cst (c : Nat) (es : List PyData) : Prop :=
  (∃ (i j : Nat) (x y : PyData) (r s : Nat), i ≠ j ∧ es[i]? = some x ∧ es[j]? = some y ∧ Rn TN x r ∧ Rn TS y s ∧ r + s ≤ c) ∨
  (∃ x ∈ es, ∃ r, (Rn TN x r ∨ Rn TS x r) ∧ 2 + r ≤ c)
theorem cst_up {c d : Nat} {es : List PyData} (q : c ≤ d) (h : Cst c es) : Cst d es := by
  rcases h with ⟨i, j, x, y, r, s, n, h1, h2, h3, h4, h5⟩ | ⟨x, hx, r, h1, h2⟩
  · exact .inl ⟨i, j, x, y, r, s, n, h1, h2, h3, h4, by omega⟩
  · exact .inr ⟨x, hx, r, h1, by omega⟩
theorem cst_map {c : Nat} {es fs : List PyData} (f : Nat → Nat) (inj : ∀ i j, i < fs.length → j < fs.length → i ≠ j → f i ≠ f j) (hf : ∀ (i : Nat) (x : PyData), fs[i]? = some x → es[f i]? = some x) (h : Cst c fs) : Cst c es := by
  rcases h with ⟨i, j, x, y, r, s, n, h1, h2, h3, h4, h5⟩ | ⟨x, hx, r, h1, h2⟩
  · exact .inl ⟨f i, f j, x, y, r, s, inj i j (List.getElem?_eq_some_iff.mp h1).1 (List.getElem?_eq_some_iff.mp h2).1 n, hf i x h1, hf j y h2, h3, h4, h5⟩
  · obtain ⟨i, hi⟩ := List.mem_iff_getElem?.mp hx
    exact .inr ⟨x, List.mem_of_getElem? (hf i x hi), r, h1, h2⟩
theorem cst_del {c i : Nat} {es : List PyData} (h : Cst c (es.eraseIdx i)) : Cst c es := by
  refine cst_map (fun j => if j < i then j else j + 1) (fun a b _ _ n => ?_) (fun j x hx => ?_) h
  · show (if a < i then a else a + 1) ≠ (if b < i then b else b + 1)
    split <;> split <;> omega
  · rw [List.getElem?_eraseIdx] at hx
    show es[if j < i then j else j + 1]? = some x
    split at hx
    · rename_i q
      rw [if_pos q]
      exact hx
    · rename_i q
      rw [if_neg q]
      exact hx
theorem cst_rev {c : Nat} {es : List PyData} (h : Cst c es.reverse) : Cst c es := by
  refine cst_map (fun j => es.length - 1 - j) (fun a b ha hb n => ?_) (fun j x hx => ?_) h
  · rw [List.length_reverse] at ha hb
    show es.length - 1 - a ≠ es.length - 1 - b
    omega
  · have l1 := (List.getElem?_eq_some_iff.mp hx).1
    rw [List.length_reverse] at l1
    rw [List.getElem?_reverse l1] at hx
    exact hx
theorem app_at {es : List PyData} {x y : PyData} {i : Nat} (h : (es ++ [x])[i]? = some y) : (i < es.length ∧ es[i]? = some y) ∨ (i = es.length ∧ y = x) := by
  by_cases q : i < es.length
  · rw [List.getElem?_append_left q] at h
    exact .inl ⟨q, h⟩
  · right
    rw [List.getElem?_append_right (by omega)] at h
    cases e : i - es.length with
    | zero =>
      rw [e] at h
      cases h
      exact ⟨by omega, rfl⟩
    | succ n =>
      rw [e] at h
      cases h
theorem max_pos {x : PyData} {r s : Nat} (h : Rn TN x r) (g : Rn TS x s) : 1 ≤ r ∨ 1 ≤ s := by
  rcases h with h | ⟨h, _⟩ | h
  · exact .inl (by omega)
  · exact .inl h
  · rcases g with g | ⟨g, _⟩ | g
    · exact .inr (by omega)
    · exact .inr g
    · exact (tn_ts h g).elim
theorem cst_dup {c i : Nat} {x : PyData} {es : List PyData} (hx : es[i]? = some x) (h : Cst c (es ++ [x])) : Cst (c + 1) es := by
  have both : ∀ {r s : Nat}, Rn TN x r → Rn TS x s → r + s ≤ c → Cst (c + 1) es := fun {r s} h3 h4 h5 => by
    rcases max_pos h3 h4 with q | q
    · exact .inr ⟨x, List.mem_of_getElem? hx, s, .inr h4, by omega⟩
    · exact .inr ⟨x, List.mem_of_getElem? hx, r, .inl h3, by omega⟩
  rcases h with ⟨a, b, u, v, r, s, n, h1, h2, h3, h4, h5⟩ | ⟨u, hu, r, h1, h2⟩
  · rcases app_at h1 with ⟨la, g1⟩ | ⟨ea, rfl⟩
    · rcases app_at h2 with ⟨lb, g2⟩ | ⟨eb, rfl⟩
      · exact .inl ⟨a, b, u, v, r, s, n, g1, g2, h3, h4, by omega⟩
      · by_cases q : a = i
        · rw [q, hx] at g1
          cases g1
          exact both h3 h4 h5
        · exact .inl ⟨a, i, u, v, r, s, q, g1, hx, h3, h4, by omega⟩
    · rcases app_at h2 with ⟨lb, g2⟩ | ⟨eb, rfl⟩
      · by_cases q : b = i
        · rw [q, hx] at g2
          cases g2
          exact both h3 h4 h5
        · exact .inl ⟨i, b, u, v, r, s, fun z => q z.symm, hx, g2, h3, h4, by omega⟩
      · omega
  · rcases List.mem_append.mp hu with hu | hu
    · exact .inr ⟨u, hu, r, h1, by omega⟩
    · rw [List.mem_singleton.mp hu] at h1
      exact .inr ⟨x, List.mem_of_getElem? hx, r, h1, by omega⟩
theorem set_at {es : List PyData} {y v : PyData} {i a : Nat} (h : (es.set i y)[a]? = some v) : (a = i ∧ v = y) ∨ (a ≠ i ∧ es[a]? = some v) := by
  rw [List.getElem?_set] at h
  split at h
  · rename_i q
    split at h
    · cases h
      exact .inl ⟨q.symm, rfl⟩
    · cases h
  · rename_i q
    exact .inr ⟨fun z => q z.symm, h⟩
theorem cst_sub {c k i : Nat} {x y : PyData} {es : List PyData} (hx : es[i]? = some x) (hN : ∀ r, Rn TN y r → Rn TN x (r + k)) (hS : ∀ r, Rn TS y r → Rn TS x (r + k)) (h : Cst c (es.set i y)) : Cst (c + k) es := by
  rcases h with ⟨a, b, u, v, r, s, n, h1, h2, h3, h4, h5⟩ | ⟨u, hu, r, h1, h2⟩
  · rcases set_at h1 with ⟨rfl, rfl⟩ | ⟨na, g1⟩
    · rcases set_at h2 with ⟨rfl, rfl⟩ | ⟨nb, g2⟩
      · exact absurd rfl n
      · exact .inl ⟨a, b, x, v, r + k, s, n, hx, g2, hN r h3, h4, by omega⟩
    · rcases set_at h2 with ⟨rfl, rfl⟩ | ⟨nb, g2⟩
      · exact .inl ⟨a, b, u, x, r, s + k, n, g1, hx, h3, hS s h4, by omega⟩
      · exact .inl ⟨a, b, u, v, r, s, n, g1, g2, h3, h4, by omega⟩
  · rcases mem_set hu with hu | rfl
    · exact .inr ⟨u, hu, r, h1, by omega⟩
    · refine .inr ⟨x, List.mem_of_getElem? hx, r + k, ?_, by omega⟩
      rcases h1 with h1 | h1
      · exact .inl (hN r h1)
      · exact .inr (hS r h1)
def Wp (k : Nat) (d : PyData) : Prop := 4 ≤ k ∨ ∃ es, d = .tuple es ∧ ((.str "pass" ∈ es ∧ Cst k es) ∨ ∃ c, c + 1 ≤ k ∧ Cst c es)
theorem wp_up {k : Nat} {d : PyData} (h : Wp k d) : Wp (k + 1) d := by
  rcases h with h | ⟨es, e, h⟩
  · exact .inl (by omega)
  · refine .inr ⟨es, e, ?_⟩
    rcases h with ⟨h, g⟩ | ⟨c, h, g⟩
    · exact .inl ⟨h, cst_up (by omega) g⟩
    · exact .inr ⟨c, by omega, g⟩
theorem str_no (z : Str) : ∀ es, PyData.str z ≠ .tuple es := fun _ e => by cases e
theorem cst_small {c : Nat} {es : List PyData} (h : es.length ≤ 1) (g : Cst c es) : 2 ≤ c := by
  rcases g with ⟨i, j, x, y, r, s, n, h1, h2, h3, h4, h5⟩ | ⟨x, hx, r, h1, h2⟩
  · have := (List.getElem?_eq_some_iff.mp h1).1
    have := (List.getElem?_eq_some_iff.mp h2).1
    omega
  · omega
theorem wp_ch {k : Nat} {d e : PyData} (c : Ch d e) (h : Wp k e) : Wp (k + 1) d := by
  rcases h with h | ⟨fs, rfl, h⟩
  · exact .inl (by omega)
  · cases c with
    | odd hm =>
      left
      have hl : fs.length ≤ 1 ∧ PyData.str "pass" ∉ fs := by
        rcases ods_tup hm with rfl | rfl | rfl
        · exact ⟨by decide, List.not_mem_nil⟩
        · exact ⟨by decide, fun z => by cases List.mem_singleton.mp z⟩
        · exact ⟨by decide, fun z => by
            have z := List.mem_singleton.mp z
            rw [PyData.str.injEq] at z
            exact absurd z (by decide)⟩
      rcases h with ⟨h, _⟩ | ⟨c, h, g⟩
      · exact absurd h hl.2
      · have := cst_small hl.1 g
        omega
    | del i hi =>
      refine .inr ⟨_, rfl, ?_⟩
      rcases h with ⟨h, g⟩ | ⟨c, h, g⟩
      · exact .inl ⟨List.mem_of_mem_eraseIdx h, cst_up (by omega) (cst_del g)⟩
      · exact .inr ⟨c, by omega, cst_del g⟩
    | dup i hx =>
      refine .inr ⟨_, rfl, ?_⟩
      rcases h with ⟨h, g⟩ | ⟨c, h, g⟩
      · refine .inl ⟨?_, cst_dup hx g⟩
        rcases List.mem_append.mp h with h | h
        · exact h
        · rw [List.mem_singleton.mp h]
          exact List.mem_of_getElem? hx
      · exact .inr ⟨c + 1, by omega, cst_dup hx g⟩
    | rev =>
      refine .inr ⟨_, rfl, ?_⟩
      rcases h with ⟨h, g⟩ | ⟨c, h, g⟩
      · exact .inl ⟨List.mem_reverse.mp h, cst_up (by omega) (cst_rev g)⟩
      · exact .inr ⟨c, by omega, cst_rev g⟩
    | sub i hx cc =>
      refine .inr ⟨_, rfl, ?_⟩
      rcases h with ⟨h, g⟩ | ⟨c, h, g⟩
      · rcases mem_set h with h | h
        · exact .inl ⟨h, cst_sub (k := 1) hx (fun r => rn_ch cc) (fun r => rn_ch cc) g⟩
        · subst h
          exact .inr ⟨k, by omega, cst_sub (k := 0) hx (fun r q => .inl (leafN (str_no _) q)) (fun r q => .inl (leafS (str_no _) q)) g⟩
      · exact .inr ⟨c + 1, by omega, cst_sub (k := 1) hx (fun r => rn_ch cc) (fun r => rn_ch cc) g⟩
theorem wp_near {k : Nat} {d e : PyData} (h : Near k d e) : ∀ j, Wp j e → Wp (j + k) d := by
  induction h with
  | same =>
    rename_i k d
    intro j w
    induction k with
    | zero => exact w
    | succ k ih => exact wp_up ih
  | step h c ih =>
    intro j w
    rename_i k d e f
    have := ih (j + 1) (wp_ch c w)
    rw [show j + (k + 1) = j + 1 + k by omega]
    exact this
/-- a pass, and what is far from one -/
theorem wp_pass {rest : List PyData} {u v : PyData} (hu : TN u) (hv : TS v) : Wp 0 (.tuple [.str "pass", u, v]) :=
  .inr ⟨_, rfl, .inl ⟨List.mem_cons_self, .inl ⟨1, 2, u, v, 0, 0, by omega, rfl, rfl, .inr (.inr hu), .inr (.inr hv), by omega⟩⟩⟩
theorem far_leaf {x : PyData} (n1 : ∀ es, x ≠ .tuple es) : ¬ Wp 3 x := by
  rintro (h | ⟨es, e, _⟩)
  · omega
  · exact n1 _ e
theorem cst3 {x y z : PyData} (hx : ∀ es, x ≠ .tuple es) (hz : ∀ es, z ≠ .tuple es) (y1 : ¬ TN y) (y2 : ¬ TS y) {c : Nat} (h : Cst c [x, y, z]) : 3 ≤ c := by
  have one : ∀ u ∈ [x, y, z], (∀ r, Rn TN u r → 1 ≤ r) ∧ (∀ r, Rn TS u r → 1 ≤ r) := fun u hu => by
    have lf : ∀ {w : PyData}, (∀ es, w ≠ .tuple es) → (∀ r, Rn TN w r → 1 ≤ r) ∧ (∀ r, Rn TS w r → 1 ≤ r) := fun hw => ⟨fun r h => by have := leafN hw h; omega, fun r h => by have := leafS hw h; omega⟩
    rcases List.mem_cons.mp hu with rfl | hu
    · exact lf hx
    · rcases List.mem_cons.mp hu with rfl | hu
      · refine ⟨fun r h => ?_, fun r h => ?_⟩
        · rcases h with h | ⟨h, _⟩ | h
          · omega
          · exact h
          · exact absurd h y1
        · rcases h with h | ⟨h, _⟩ | h
          · omega
          · exact h
          · exact absurd h y2
      · rw [List.mem_singleton.mp hu]
        exact lf hz
  rcases h with ⟨i, j, u, v, r, s, n, h1, h2, h3, h4, h5⟩ | ⟨u, hu, r, h1, h2⟩
  · have r1 := (one u (List.mem_of_getElem? h1)).1 r h3
    have s1 := (one v (List.mem_of_getElem? h2)).2 s h4
    by_cases q : i = 1
    · have hv : ∀ es, v ≠ .tuple es := by
        match j, h2, n with
        | 0, h2, _ => cases h2; exact hx
        | 1, h2, n => exact absurd q n
        | 2, h2, _ => cases h2; exact hz
        | n + 3, h2, _ => cases h2
      have := leafS hv h4
      omega
    · have hv : ∀ es, u ≠ .tuple es := by
        match i, h1, q with
        | 0, h2, _ => cases h2; exact hx
        | 1, h2, n => exact absurd rfl n
        | 2, h2, _ => cases h2; exact hz
        | n + 3, h2, _ => cases h2
      have := leafN hv h3
      omega
  · rcases h1 with h1 | h1
    · have := (one u hu).1 r h1
      omega
    · have := (one u hu).2 r h1
      omega
theorem cst2 {x z : PyData} (hx : ∀ es, x ≠ .tuple es) (hz : ∀ es, z ≠ .tuple es) {c : Nat} (h : Cst c [x, z]) : 3 ≤ c := by
  have one : ∀ u ∈ [x, z], ∀ es, u ≠ .tuple es := fun u hu => by
    rcases List.mem_cons.mp hu with rfl | hu
    · exact hx
    · rw [List.mem_singleton.mp hu]
      exact hz
  rcases h with ⟨i, j, u, v, r, s, n, h1, h2, h3, h4, h5⟩ | ⟨u, hu, r, h1, h2⟩
  · have := leafN (one u (List.mem_of_getElem? h1)) h3
    have := leafS (one v (List.mem_of_getElem? h2)) h4
    omega
  · rcases h1 with h1 | h1
    · have := leafN (one u hu) h1
      omega
    · have := leafS (one u hu) h1
      omega
theorem far_tup {es : List PyData} (n : PyData.str "pass" ∉ es) (h : ∀ c, Cst c es → 3 ≤ c) : ¬ Wp 3 (.tuple es) := by
  rintro (q | ⟨fs, e, q⟩)
  · omega
  · cases e
    rcases q with ⟨q, _⟩ | ⟨c, q, g⟩
    · exact n q
    · have := h c g
      omega
theorem far_cut {us : List PyData} {m : Int} (hu : ∀ u ∈ us, ∃ i, u = PyData.int i) : ¬ Wp 3 (.tuple [.str "cut", .tuple us, .int m]) := by
  refine far_tup (fun h => ?_) (fun c h => cst3 (str_no _) (fun _ e => by cases e) ?_ ?_ h)
  · rcases List.mem_cons.mp h with h | h
    · rw [PyData.str.injEq] at h
      exact absurd h (by decide)
    · rcases List.mem_cons.mp h with h | h
      · cases h
      · cases List.mem_singleton.mp h
  · rintro ⟨rs, e, n, k⟩
    cases e
    obtain ⟨r, hr⟩ := List.exists_mem_of_ne_nil _ n
    obtain ⟨i, rfl⟩ := hu r hr
    obtain ⟨zs, e, _⟩ := k _ hr
    cases e
  · rintro ⟨rs, e, n, k⟩
    cases e
    obtain ⟨r, hr⟩ := List.exists_mem_of_ne_nil _ n
    obtain ⟨i, rfl⟩ := hu r hr
    obtain ⟨zs, e, _⟩ := k _ hr
    cases e
theorem far_stop {x : Str} (hx : x ≠ "pass") : ¬ Wp 3 (.tuple [.str "stop", .str x]) := by
  refine far_tup (fun h => ?_) (fun c h => cst2 (str_no _) (str_no _) h)
  rcases List.mem_cons.mp h with h | h
  · rw [PyData.str.injEq] at h
    exact absurd h (by decide)
  · have h := List.mem_singleton.mp h
    rw [PyData.str.injEq] at h
    exact hx h.symm
/-- a text that stands in data somewhere -/
inductive Has (s : Str) : PyData → Prop
  | str : Has s (.str s)
  | lst {ds : List PyData} {x : PyData} (h : x ∈ ds) (k : Has s x) : Has s (.list ds)
  | tup {ds : List PyData} {x : PyData} (h : x ∈ ds) (k : Has s x) : Has s (.tuple ds)
theorem a_ods : PyData.str "a" ∈ ods := by
  simp [ods]
theorem has_ods {s : Str} (n : PyData.str s ∉ ods) : ∀ {e : PyData}, e ∈ ods → ¬ Has s e := by
  intro e he h
  cases h with
  | str => exact n he
  | lst h k =>
    have : ∀ ds, PyData.list ds ∈ ods → ds = [] := fun ds h => by
      simp only [ods, List.mem_cons, PyData.list.injEq, reduceCtorEq, false_or, or_false, List.not_mem_nil] at h
      exact h
    rw [this _ he] at h
    exact List.not_mem_nil h
  | tup h k =>
    rcases ods_tup he with rfl | rfl | rfl
    · exact List.not_mem_nil h
    · rw [List.mem_singleton.mp h] at k
      cases k
    · rw [List.mem_singleton.mp h] at k
      cases k
      exact n a_ods
theorem has_ch {s : Str} (n : PyData.str s ∉ ods) {d e : PyData} (c : Ch d e) : Has s e → Has s d := by
  induction c with
  | odd hm => exact fun h => absurd h (has_ods n hm)
  | del i hi =>
    intro h
    cases h with
    | tup h k => exact .tup (List.mem_of_mem_eraseIdx h) k
  | dup i hx =>
    intro h
    cases h with
    | tup h k =>
      rcases List.mem_append.mp h with h | h
      · exact .tup h k
      · rw [List.mem_singleton.mp h] at k
        exact .tup (List.mem_of_getElem? hx) k
  | lst =>
    intro h
    cases h with
    | lst h k => exact .tup h k
  | rev =>
    intro h
    cases h with
    | tup h k => exact .tup (List.mem_reverse.mp h) k
  | sub i hx c ih =>
    intro h
    cases h with
    | tup h k =>
      rcases mem_set h with h | h
      · exact .tup h k
      · rw [h] at k
        exact .tup (List.mem_of_getElem? hx) (ih k)
theorem has_near {s : Str} (n : PyData.str s ∉ ods) {k : Nat} {d e : PyData} (h : Near k d e) : Has s e → Has s d := by
  induction h with
  | same => exact id
  | step _ c ih => exact fun q => ih (has_ch n c q)
theorem ch_del {ds : List PyData} {j : Nat} (h : j < ds.length) : Ch (.tuple ds) (.tuple (ds.take j ++ ds.drop (j + 1))) := by
  rw [← List.eraseIdx_eq_take_drop_succ]
  exact .del j h
theorem ch_dup {ds : List PyData} {j : Nat} (h : j < ds.length) : Ch (.tuple ds) (.tuple (ds ++ (ds.drop j).take 1)) := by
  rw [List.drop_eq_getElem_cons h, List.take_succ_cons, List.take_zero]
  exact .dup j (List.getElem?_eq_getElem h)
theorem ch_sub {ds : List PyData} {j : Nat} {y : PyData} (h : j < ds.length) (c : Ch ds[j] y) : Ch (.tuple ds) (.tuple ((ds.take j ++ [y]) ++ ds.drop (j + 1))) := by
  have e : ds.set j y = (ds.take j ++ [y]) ++ ds.drop (j + 1) := by
    rw [List.set_eq_take_append_cons_drop, if_pos h, List.append_assoc, List.singleton_append]
  rw [← e]
  exact .sub j (List.getElem?_eq_getElem h) c
/-! ### a value with one part otherwise -/
theorem ods_ok : ∀ d ∈ ods, nodes d ≤ 5 := by decide +kernel
theorem mk_tupB {B : Addr → Prop} {K : PySem.W.Frag} {H : Hp} {p : Addr} {xs : List V} {ds : List PyData} (tb : TB B H) (h : H p = none) (ha : DtAll B K H xs ds) : Dt B K (upd H p (.tup xs)) (.ref p) (.tuple ds) ∧ TB B (upd H p (.tup xs)) ∧ Same H (upd H p (.tup xs)) :=
  ⟨.tup (tb_off tb h) (.inl upd_same) (same_all (same_new h) ha), tb_upd tb, same_new h⟩
section
variable {P : Program} {w : World} {K : PySem.W.Frag} {mg : Str → Option Value} {base : Heap}
theorem scOther : FnScope ["_law_deck_here", "_law_value", "_law_deep", "_law_odd", "_law_at", "_law_way"] ["_law_deck_here", "_law_value", "_law_deep"] (defScope sOther) := ⟨rfl, rfl, rfl, by decide +kernel, rfl, by decide +kernel, by decide +kernel⟩
def spOther (K : PySem.W.Frag) (t : Nat) : Sp := fun vs H Q _ => ∃ (B : Addr → Prop) (a c : Addr) (cells : List Int) (n : Int) (v : V) (d : PyData), vs = [.ref a, v, .int t] ∧ (∀ b, Bd a c b → B b) ∧ TB B H ∧ DeckAt a c cells n H ∧ 0 ≤ n ∧ n + 4 * t ≤ 900000 ∧ t ≤ 1000 ∧ Dt B K H v d ∧ nodes d ≤ 40000 ∧
  ∀ (H' : Hp) (cells' : List Int) (n' : Int) (v' : V) (d' : PyData), DeckAt a c cells' n' H' → n ≤ n' → n' ≤ n + (4 * t + 4) → Keep (Bd a c) H H' → Dt B K H' v' d' → nodes d' ≤ 2 * nodes d + 5 → Ch d d' → Q v' H'
theorem no_fn {k : Nat} {f : Addr} {fd : FuncData} {ps : List Str} : FnOk P w K mg base CX0 k f fd ps (fun _ _ _ _ => False) := ⟨fun _ _ _ _ h => h.elim, fun _ _ _ _ _ _ _ _ _ _ _ _ _ h => h.elim⟩
theorem other_body {f fD fO : Addr} {fd fdD fdO : FuncData} {t kk : Nat} {sp : Sp} (F : Fun K "_law_otherwise" "_law_otherwise" sOther f fd) (gB : mg "_law_otherwise" = some (.ref f)) (bB : Binds K fd ["_law_deck_here", "_law_value", "_law_deep"] []) (hk : 2 ≤ kk) (REC : FnOk P w K mg base CX0 kk f fd ["_law_deck_here", "_law_value", "_law_deep"] sp) (hrec : ∀ t', t = t' + 1 → sp = spOther K t')
    (D : FnOk P w K mg base CX0 1 fD fdD ["_law_deck_here", "_law_most"] spDraw) (FD : Fun K "_law_draw" "_law_draw" sDraw fD fdD) (bD : Binds K fdD ["_law_deck_here", "_law_most"] []) (gD : mg "_law_draw" = some (.ref fD))
    (O : FnOk P w K mg base CX0 2 fO fdO ["_law_deck_here", "_law_items"] (spOne K)) (FO : Fun K "_law_one" "_law_one" sOne fO fdO) (bO : Binds K fdO ["_law_deck_here", "_law_items"] []) (gO : mg "_law_one" = some (.ref fO)) (T : Mg mg) :
    FnOk P w K mg base CX0 (kk + 1) f fd ["_law_deck_here", "_law_value", "_law_deep"] (spOther K t) := by
  refine F.ok scOther (fun vs H Q E h => ?_) (fun cdv A outer s H vs Q E hr h => ?_)
  · obtain ⟨B, a, c, cells, n, v, d, rfl, _⟩ := h
    rfl
  · obtain ⟨B, a, c, cells, n, v, d, rfl, hB, tb, dk, n0, n1, t1, hd, hnd, k⟩ := h
    have W : ∀ {H1 H2 : Hp}, Keep (Bd a c) H1 H2 → Keep B H1 H2 := fun k => Keep.wide hB k
    have hu0 := hr.units0
    refine ⟨_, pss_cons (ps_set (i := 3) scOther.nd rfl (.inl rfl) (pe_lst (pa_cons pe_non (pa_cons pe_bl (pa_cons pe_bl (pa_cons pe_int (pa_cons pe_int (pa_cons pe_int (pa_cons pe_int (pa_cons pe_int (pa_cons pe_int (pa_cons pe_int (pa_cons pe_int (pa_cons (pe_un un_neg pe_int) (pa_cons (pe_op op_pow pe_int pe_int) (pa_cons pe_str (pa_cons pe_str (pa_cons pe_str (pa_cons pe_str (pa_cons pe_str (pa_cons pe_str (pa_cons pe_str (pa_cons (pe_tup pa_nil) (pa_cons (pe_tup (pa_cons pe_int pa_nil)) (pa_cons (pe_tup (pa_cons pe_str pa_nil)) (pa_cons pe_nilN (pa_cons pe_dnewK pa_nil)))))))))))))))))))))))))))
      (pss_cons (ps_if (PW.pt (pw_or (pt_not (pt_val (pe_callB (r := rIsi K) call_isi (by rfl) T.isi PyProof.Rows.boot_isinstance (pa_cons (pv 1) (pa_cons (pe_bltn (v := .ty "tuple") (by rfl) T.tuple PyProof.Rows.boot_tuple rfl) pa_nil))))) (pw_or (pt_cmpR (op_eqNilT hu0) (pv 1) (pe_tup pa_nil) (nomark _)) (pw_or (pt_cmpR op_eq (pv 2) pe_int (nomark _)) (pw_or1 (pt_cmpR op_eq (pe_call D (hr.mono (by omega)) (by rfl) gD FD.kp bD .nil pass0 (pa_cons (pv 0) (pa_cons pe_int pa_nil))) pe_int (nomark _)))))))
        (pss_one (ps_ret (pe_call O (hr.mono hk) (by rfl) gO FO.kp bO .nil pass0 (pa_cons (pv 0) (pa_cons (pv 3) pa_nil))))) pss_nil)
      (pss_cons (ps_par (i := 4) (j := 5) rfl scOther.nd rfl rfl (by decide) rfl rfl (pa_cons (pe_call D (hr.mono (by omega)) (by rfl) gD FD.kp bD .nil pass0 (pa_cons (pv 0) (pa_cons (pe_callB call_len_seq (by rfl) T.len PySem.boot_len (pa_cons (pv 1) pa_nil)) pa_nil))) (pa_cons (pe_call D (hr.mono (by omega)) (by rfl) gD FD.kp bD .nil pass0 (pa_cons (pv 0) (pa_cons pe_int pa_nil))) pa_nil)) (by rfl))
      (pss_cons (ps_if (pt_cmpR op_eq (pv 5) pe_int (nomark _)) (pss_one (ps_ret (pe_op op_catS (pe_slice sl_tupS (pv 1) po_none (po_some (pv 4))) (pe_slice sl_tupS (pv 1) (po_some (pe_op op_add (pv 4) pe_int)) po_none)))) pss_nil)
      (pss_cons (ps_if (pt_cmpR op_eq (pv 5) pe_int (nomark _)) (pss_one (ps_ret (pe_op op_catS (pv 1) (pe_slice sl_tupS (pv 1) (po_some (pv 4)) (po_some (pe_op op_add (pv 4) pe_int)))))) pss_nil)
      (pss_cons (ps_if (pt_cmpR op_eq (pv 5) pe_int (nomark _)) (pss_one (ps_ret (pe_callTy call_listN (by rfl) T.list (by decide +kernel) (pa_cons (pv 1) pa_nil)))) pss_nil)
      (pss_cons (ps_if (pt_cmpR op_eq (pv 5) pe_int (nomark _)) (pss_one (ps_ret (pe_revR (pv 1)))) pss_nil)
      (pss_one (ps_ret (pe_op op_catS (pe_op op_catS (pe_slice sl_tupS (pv 1) po_none (po_some (pv 4))) (pe_tup (pa_cons (pe_call REC hr (by rfl) gB F.kp bB .nil pass0 (pa_cons (pv 0) (pa_cons (pe_ix ix_tup (pv 1) (pv 4) (fun _ _ => rfl)) (pa_cons (pe_op op_sub (pv 2) pe_int) pa_nil)))) pa_nil))) (pe_slice sl_tupS (pv 1) (po_some (pe_op op_add (pv 4) pe_int)) po_none)))))))))), ?_⟩
    refine ⟨1, rfl, 10, 40, rfl, rfl, ⟨by decide, by decide, by decide⟩, by show 0 ≤ sizeLine; decide, fun p1 e1 => ?_⟩
    obtain ⟨D1, tb1, s1⟩ := mk_tupB (K := K) (xs := []) (ds := []) tb e1 .nil
    have dk1 := deck_same s1 dk
    generalize upd H p1 (HO.tup []) = G1 at *
    refine ⟨by show 1 ≤ sizeLine; decide, fun p2 e2 => ?_⟩
    obtain ⟨D2, tb2, s2⟩ := mk_tupB (K := K) (xs := [.int 0]) tb1 e2 (.cons (.int _) .nil)
    have dk2 := deck_same s2 dk1
    generalize upd G1 p2 (HO.tup [.int 0]) = G2 at *
    refine ⟨by show 1 ≤ sizeLine; decide, fun p3 e3 => ?_⟩
    obtain ⟨D3, tb3, s3⟩ := mk_tupB (K := K) (xs := [.str "a"]) tb2 e3 (.cons (.str _) .nil)
    have dk3 := deck_same s3 dk2
    generalize upd G2 p3 (HO.tup [.str "a"]) = G3 at *
    intro p4 e4 m4
    have D4 : Dt B K (upd G3 p4 (.lst [])) (.ref p4) (.list []) := .lst (tb_off tb3 e4) m4 (.inl upd_same) .nil
    have s4 := same_new (o := .lst []) e4
    have tb4 := tb_upd (p := p4) (o := .lst []) tb3
    have dk4 := deck_same s4 dk3
    generalize upd G3 p4 (HO.lst []) = G4 at *
    intro p5 e5
    have D5 : Dt B K (upd G4 p5 (.dK [])) (.ref p5) (.dict []) := .emp (tb_off tb4 e5) upd_same
    have s5 := same_new (o := .dK []) e5
    have tb5 := tb_upd (p := p5) (o := .dK []) tb4
    have dk5 := deck_same s5 dk4
    generalize upd G4 p5 (HO.dK []) = G5 at *
    refine ⟨by show 25 ≤ sizeLine; decide, fun O9 h9 => ?_⟩
    have nO := deck_off dk5 h9
    have hall : DtAll B K G5 [.non, .bl true, .bl false, .int 0, .int 1, .int 2, .int 4, .int 9, .int 10, .int 30, .int 31, .int (-1), .int (10 ^ 40), .str "a", .str "c", .str "d", .str "", .str "cut", .str "pass", .str "ab", .ref p1, .ref p2, .ref p3, .ref p4, .ref p5] ods :=
      .cons .non (.cons (.bl _) (.cons (.bl _) (.cons (.int _) (.cons (.int _) (.cons (.int _) (.cons (.int _) (.cons (.int _) (.cons (.int _) (.cons (.int _) (.cons (.int _) (.cons (.int _) (.cons (.int _) (.cons (.str _) (.cons (.str _) (.cons (.str _) (.cons (.str _) (.cons (.str _) (.cons (.str _) (.cons (.str _)
        (.cons (same_dt (s2.trans (s3.trans (s4.trans s5))) D1) (.cons (same_dt (s3.trans (s4.trans s5)) D2) (.cons (same_dt (s4.trans s5) D3) (.cons (same_dt s5 D4) (.cons D5 .nil))))))))))))))))))))))))
    have c5 := s1.trans (s2.trans (s3.trans (s4.trans s5)))
    have xdef : ∃ xs : List V, xs = [.non, .bl true, .bl false, .int 0, .int 1, .int 2, .int 4, .int 9, .int 10, .int 30, .int 31, .int (-1), .int (10 ^ 40), .str "a", .str "c", .str "d", .str "", .str "cut", .str "pass", .str "ab", .ref p1, .ref p2, .ref p3, .ref p4, .ref p5] := ⟨_, rfl⟩
    obtain ⟨od, hod⟩ := xdef
    rw [← hod] at hall
    have odne : od ≠ [] := by
      rw [hod]
      exact List.cons_ne_nil _ _
    have odl : od.length ≤ 1000 := by
      rw [hod]
      show 25 ≤ 1000
      decide
    have s9 : Same G5 (upd G5 O9 (.lst od)) := same_new h9
    have hO9 : upd G5 O9 (.lst od) O9 = some (.lst od) := upd_same
    have tb9 := tb_upd (p := O9) (o := .lst od) tb5
    have dk9 := deck_same s9 dk5
    have c0 : Keep (Bd a c) H (upd G5 O9 (.lst od)) := Keep.same (c5.trans s9)
    have hall9 := same_all s9 hall
    have hdO := Dt.keep (W c0) _ _ hd
    show gName 3 (V.ref O9) _ (upd G5 O9 (.lst [.non, .bl true, .bl false, .int 0, .int 1, .int 2, .int 4, .int 9, .int 10, .int 30, .int 31, .int (-1), .int (10 ^ 40), .str "a", .str "c", .str "d", .str "", .str "cut", .str "pass", .str "ab", .ref p1, .ref p2, .ref p3, .ref p4, .ref p5])) _
    rw [← hod]
    clear hall hod D1 D2 D3 D4 D5
    generalize upd G5 O9 (HO.lst od) = G9 at *
    have fin : ∀ (H' : Hp) (cells' : List Int) (n' : Int), DeckAt a c cells' n' H' → n ≤ n' → n' ≤ n + 1 → Keep (Bd a c) G9 H' → spOne K [.ref a, .ref O9] H' (fun v' H'' => Q v' H'') E0 := fun H' cells' n' dk' h1' h2' kp => by
      refine ⟨a, c, O9, cells', n', _, rfl, dk', by omega, by omega, SqL.of (kp _ _ nO hO9), nO, odne, odl, fun H'' cells'' x hx dk'' kk => ?_⟩
      obtain ⟨i, hi⟩ := List.getElem?_of_mem hx
      obtain ⟨d', hd1, hd2⟩ := hall9.getV hi
      have o2 := ods_ok d' (List.mem_of_getElem? hd1)
      have hp := nodes_pos d
      exact k H'' cells'' (n' + 1) x d' dk'' (by omega) (by omega) (c0.trans (kp.trans kk)) (Dt.keep (W (kp.trans kk)) _ _ hd2) (by omega) (.odd (List.mem_of_getElem? hd1))
    refine ⟨v, rfl, v, .ty "tuple", _, _, _, rfl, .ty _, tyD hdO, kitT d, _, rfl, ?_⟩
    cases d with
    | none => exact ⟨_, rfl, _, rfl, fin _ cells n dk9 (Int.le_refl _) (by omega) Keep.rfl'⟩
    | bool _ => exact ⟨_, rfl, _, rfl, fin _ cells n dk9 (Int.le_refl _) (by omega) Keep.rfl'⟩
    | int _ => exact ⟨_, rfl, _, rfl, fin _ cells n dk9 (Int.le_refl _) (by omega) Keep.rfl'⟩
    | str _ => exact ⟨_, rfl, _, rfl, fin _ cells n dk9 (Int.le_refl _) (by omega) Keep.rfl'⟩
    | list _ => exact ⟨_, rfl, _, rfl, fin _ cells n dk9 (Int.le_refl _) (by omega) Keep.rfl'⟩
    | dict _ => exact ⟨_, rfl, _, rfl, fin _ cells n dk9 (Int.le_refl _) (by omega) Keep.rfl'⟩
    | tuple ds =>
      obtain ⟨p, xs, rfl, np, hs, ha, hl⟩ := hdO.tup_rd
      have npd : ¬ Bd a c p := fun z => np (hB p z)
      rw [nodes_tup] at hnd
      have lds := len_nodes ds
      refine ⟨.ref p, rfl, by show 0 ≤ sizeLine; decide, fun e he => ?_⟩
      have ke := keep_new (B := Bd a c) (o := .tup []) he
      have dke := deck_new (o := .tup []) dk9 he
      have tbe := tb_upd (p := e) (o := .tup []) tb9
      have hse := ke.rd npd hs
      have hae := DtAll.keep (W ke) _ _ ha
      refine ⟨p, e, xs, rfl, rfl, .inl hse, SqT.of upd_same, _, rfl, ite2 (fun ex => ?_) (fun ex => ?_)⟩
      · exact ⟨_, rfl, _, rfl, fin _ cells n dke (Int.le_refl _) (by omega) ke⟩
      · have xne : xs ≠ [] := fun z => ex (decide_eq_true z)
        have lpos : 0 < xs.length := List.length_pos_iff.mpr xne
        refine ⟨_, rfl, rfl, _, rfl, ite2 (fun e0 => ?_) (fun e0 => ?_)⟩
        · exact ⟨_, rfl, _, rfl, fin _ cells n dke (Int.le_refl _) (by omega) ke⟩
        refine ⟨_, rfl, a, c, cells, n, 6, rfl, dke, by decide, by decide, n0, by omega, fun H1 cells1 r1 r10 r16 dk1 k1 => ?_⟩
        refine ⟨rfl, _, rfl, ite2 (fun ez => ?_) (fun ez => ?_)⟩
        · exact ⟨_, rfl, _, rfl, fin _ cells1 (n + 1) dk1 (by omega) (by omega) (ke.trans k1)⟩
        · have hs1 := k1.rd npd hse
          refine ⟨_, rfl, .ref p, rfl, p, xs, rfl, .inr (.inl hs1), a, c, cells1, n + 1, _, rfl, dk1, by omega, by omega, by omega, by omega, fun H2 cells2 r2 r20 r2l dk2 k2 => ?_⟩
          refine ⟨_, rfl, a, c, cells2, n + 1 + 1, 9, rfl, dk2, by decide, by decide, by omega, by omega, fun H3 cells3 r3 r30 r39 dk3 k3 => ?_⟩
          have k13 := k1.trans (k2.trans k3)
          have kall := c0.trans (ke.trans k13)
          have hs3 := k13.rd npd hse
          have tbm := tb_keep tbe dk3 k13
          have ha3 := DtAll.keep (W k13) _ _ hae
          obtain ⟨j, hj, ej⟩ : ∃ j : Nat, j < xs.length ∧ r2 = (j : Int) := ⟨r2.toNat, by omega, by omega⟩
          subst ej
          have hjd : j < ds.length := by omega
          have ct : cutV xs none (some (j : Int)) = xs.take j := cut_take xs j (by omega)
          have cd1 : cutV xs (some ((j : Int) + 1)) none = xs.drop (j + 1) := cut_drop xs (j + 1) (by omega)
          have cm : cutV xs (some (j : Int)) (some ((j : Int) + 1)) = (xs.drop j).take 1 := cut_mid xs j hj
          have nsum : nodesAll ds = nodesAll (ds.take j) + nodesAll (ds.drop j) := by rw [← nodesAll_append, List.take_append_drop]
          have ndrop : nodesAll (ds.drop j) = nodes ds[j] + nodesAll (ds.drop (j + 1)) := by rw [List.drop_eq_getElem_cons hjd, nodesAll_cons]
          refine ⟨_, _, rfl, ?_⟩
          refine ⟨_, rfl, rfl, _, rfl, ite2 (fun ew => ?_) (fun ew => ?_)⟩
          · -- one item less
            refine ⟨_, rfl, _, rfl, (j : Int), rfl, p, xs, rfl, hs3, fun q1 H4 s4 hq1 w1 => ?_⟩
            rw [ct] at hq1
            have dk4 := deck_same s4 dk3
            have tb4 := tb_same s4 tbm
            refine ⟨_, rfl, _, rfl, (j : Int), 1, rfl, rfl, _, rfl, p, xs, rfl, same_rd s4 hs3, fun q2 H5 s5 hq2 w2 => ?_⟩
            rw [cd1] at hq2
            have dk5 := deck_same s5 dk4
            have tb5 := tb_same s5 tb4
            refine ⟨q1, q2, _, _, rfl, rfl, same_rd s5 hq1, hq2, ?_, fun q H6 s6 hq w6 => ?_⟩
            · rw [List.length_take, List.length_drop]
              exact sz_of (by omega)
            · have n1' := nb_of tbm np w1
              have n2' := nb_of tb4 np w2
              have n6' := nb_of2 tb5 n1' n2' w6
              have sall := L2.Same.trans s4 (L2.Same.trans s5 s6)
              refine k H6 cells3 _ (.ref q) (.tuple (ds.take j ++ ds.drop (j + 1))) (deck_same s6 dk5) (by omega) (by omega) (kall.trans (Keep.same sall)) (.tup n6' hq (same_all sall ((ha3.take j).append (ha3.drop (j + 1))))) ?_ (ch_del hjd)
              rw [nodes_tup, nodes_tup, nodesAll_append]
              omega
          · refine ⟨_, rfl, rfl, _, rfl, ite2 (fun ew1 => ?_) (fun ew1 => ?_)⟩
            · -- an item twice
              refine ⟨_, rfl, _, rfl, _, rfl, (j : Int), rfl, _, rfl, (j : Int), 1, rfl, rfl, _, rfl, p, xs, rfl, hs3, fun q2 H5 s5 hq2 w2 => ?_⟩
              rw [cm] at hq2
              have dk5 := deck_same s5 dk3
              have tb5 := tb_same s5 tbm
              refine ⟨p, q2, _, _, rfl, rfl, same_rd s5 hs3, hq2, ?_, fun q3 H6 s6 hq3 w3 => ?_⟩
              · rw [List.length_take, List.length_drop]
                exact sz_of (by omega)
              · have n2' := nb_of tbm np w2
                have n3' := nb_of2 tb5 np n2' w3
                have sall := L2.Same.trans s5 s6
                refine k H6 cells3 _ (.ref q3) (.tuple (ds ++ (ds.drop j).take 1)) (deck_same s6 dk5) (by omega) (by omega) (kall.trans (Keep.same sall)) (.tup n3' hq3 (same_all sall (ha3.append ((ha3.drop j).take 1)))) ?_ (ch_dup hjd)
                have n1d : nodesAll ((ds.drop j).take 1) = nodes ds[j] := by
                  rw [List.drop_eq_getElem_cons hjd, List.take_succ_cons, List.take_zero, nodesAll_cons, nodesAll_nil, Nat.add_zero]
                rw [nodes_tup, nodes_tup, nodesAll_append, n1d]
                omega
            · refine ⟨_, rfl, rfl, _, rfl, ite2 (fun ew2 => ?_) (fun ew2 => ?_)⟩
              · -- a list of it
                refine ⟨_, rfl, p, xs, rfl, .inl hs3, fun q hq nq => ?_⟩
                have sq := same_new (o := .lst xs) hq
                refine k _ cells3 _ (.ref q) (.list ds) (deck_same sq dk3) (by omega) (by omega) (kall.trans (Keep.same sq)) (.lst (tb_off tbm hq) nq (.inl upd_same) (same_all sq ha3)) ?_ .lst
                rw [nodes_lst, nodes_tup]
                omega
              · refine ⟨_, rfl, rfl, _, rfl, ite2 (fun ew3 => ?_) (fun ew3 => ?_)⟩
                · -- turned round
                  refine ⟨_, rfl, p, xs, rfl, hs3, fun q hq => ?_⟩
                  have sq := same_new (o := .tup xs.reverse) hq
                  refine k _ cells3 _ (.ref q) (.tuple ds.reverse) (deck_same sq dk3) (by omega) (by omega) (kall.trans (Keep.same sq)) (.tup (tb_off tbm hq) (.inl upd_same) (same_all sq ha3.rev)) ?_ .rev
                  rw [nodes_tup, nodes_tup, nodes_rev]
                  omega
                · -- one item otherwise
                  obtain ⟨t', rfl⟩ : ∃ t', t = t' + 1 := by
                    cases t with
                    | zero => exact (e0 (decide_eq_true rfl)).elim
                    | succ t' => exact ⟨t', rfl⟩
                  have hsp := hrec t' rfl
                  subst hsp
                  obtain ⟨vj, hvj, hdj⟩ := ha3.get (List.getElem?_eq_getElem hjd)
                  have mj : ds[j] ∈ ds := List.getElem_mem hjd
                  have mn := mem_nodes mj
                  refine ⟨_, rfl, _, rfl, (j : Int), rfl, p, xs, rfl, hs3, fun q1 H4 s4 hq1 w1 => ?_⟩
                  rw [ct] at hq1
                  have dk4 := deck_same s4 dk3
                  have tb4 := tb_same s4 tbm
                  have n1' := nb_of tbm np w1
                  refine ⟨_, rfl, _, rfl, _, rfl, p, xs, (j : Int), vj, rfl, rfl, .inl (same_rd s4 hs3), atI_nat hvj, _, rfl, ((t' + 1 : Nat) : Int), 1, rfl, rfl, B, a, c, cells3, n + 1 + 1 + 1, vj, ds[j], ?_, hB, tb4, dk4, by omega, by omega, by omega, same_dt s4 hdj, by omega, fun H5 cells5 n5 v5 d5 dk5 m5 m5' k5 hd5 hn5 hc5 => ?_⟩
                  · show [V.ref a, vj, V.int (((t' + 1 : Nat) : Int) - 1)] = [V.ref a, vj, V.int (t' : Int)]
                    rw [show (((t' + 1 : Nat) : Int) - 1) = (t' : Int) by omega]
                  · have hq15 := k5.rd (fun z => n1' (hB _ z)) hq1
                    refine ⟨(by show 1 ≤ sizeLine; decide), fun u hu => ?_⟩
                    have su := same_new (o := .tup [v5]) hu
                    have dk6 := deck_same su dk5
                    have tb5 := tb_keep tb4 dk5 k5
                    have tb6 := tb_same su tb5
                    have nu := tb_off tb5 hu
                    refine ⟨q1, u, _, _, rfl, rfl, same_rd su hq15, .inl upd_same, ?_, fun q2 H7 s7 hq2 w2 => ?_⟩
                    · rw [List.length_take, List.length_singleton]
                      exact sz_of (by omega)
                    · have dk7 := deck_same s7 dk6
                      have tb7 := tb_same s7 tb6
                      have n2' := nb_of2 tb6 n1' nu w2
                      have k47 : Keep (Bd a c) H4 H7 := k5.trans (Keep.same (L2.Same.trans su s7))
                      have k37 : Keep (Bd a c) H3 H7 := (Keep.same s4).trans k47
                      refine ⟨_, rfl, _, rfl, (j : Int), 1, rfl, rfl, _, rfl, p, xs, rfl, k37.rd npd hs3, fun q3 H8 s8 hq3 w3 => ?_⟩
                      rw [cd1] at hq3
                      have dk8 := deck_same s8 dk7
                      have tb8 := tb_same s8 tb7
                      have n3' := nb_of tb7 np w3
                      refine ⟨q2, q3, _, _, rfl, rfl, same_rd s8 hq2, hq3, ?_, fun q H9 s9 hq w9 => ?_⟩
                      · rw [List.length_append, List.length_take, List.length_drop, List.length_singleton]
                        exact sz_of (by omega)
                      · have n9' := nb_of2 tb8 n2' n3' w9
                        have k79 := Keep.same (B := Bd a c) (L2.Same.trans s8 s9)
                        have k39 := k37.trans k79
                        have ha9 := DtAll.keep (W k39) _ _ ha3
                        have hd9 : Dt B K H9 v5 d5 := Dt.keep (W ((Keep.same (B := Bd a c) (L2.Same.trans su s7)).trans k79)) _ _ hd5
                        refine k H9 cells5 n5 (.ref q) (.tuple ((ds.take j ++ [d5]) ++ ds.drop (j + 1))) (deck_same s9 dk8) (by omega) (by omega) (kall.trans k39) (.tup n9' hq (((ha9.take j).append (.cons hd9 .nil)).append (ha9.drop (j + 1)))) ?_ (ch_sub hjd hc5)
                        rw [nodes_tup, nodes_tup, nodesAll_append, nodesAll_append, nodesAll_cons, nodesAll_nil]
                        omega
theorem ok_other {f fD fO : Addr} {fd fdD fdO : FuncData} (F : Fun K "_law_otherwise" "_law_otherwise" sOther f fd) (gB : mg "_law_otherwise" = some (.ref f)) (bB : Binds K fd ["_law_deck_here", "_law_value", "_law_deep"] [])
    (D : FnOk P w K mg base CX0 1 fD fdD ["_law_deck_here", "_law_most"] spDraw) (FD : Fun K "_law_draw" "_law_draw" sDraw fD fdD) (bD : Binds K fdD ["_law_deck_here", "_law_most"] []) (gD : mg "_law_draw" = some (.ref fD))
    (O : FnOk P w K mg base CX0 2 fO fdO ["_law_deck_here", "_law_items"] (spOne K)) (FO : Fun K "_law_one" "_law_one" sOne fO fdO) (bO : Binds K fdO ["_law_deck_here", "_law_items"] []) (gO : mg "_law_one" = some (.ref fO)) (T : Mg mg) :
    ∀ t : Nat, FnOk P w K mg base CX0 (3 + t) f fd ["_law_deck_here", "_law_value", "_law_deep"] (spOther K t)
  | 0 => other_body (kk := 2) F gB bB (Nat.le_refl _) no_fn (fun t' e => nomatch e) D FD bD gD O FO bO gO T
  | t + 1 => other_body (kk := 3 + t) F gB bB (by omega) (ok_other F gB bB D FD bD gD O FO bO gO T t) (fun t' e => by rw [Nat.succ.inj e]) D FD bD gD O FO bO gO T
end
/-! ### more rules: data against a text, walks with numbers -/
section
variable {X : Cx} {prog : Program} {w : World} {A : Around} {E : Value → Shared → Prop} {s : Shared}
/-- {} == a text: neither side answers -/
theorem dct_eq_no (l : Addr) (es : Array DictEntry) (n : Nat) (y : Option Addr) (sl : Array (Option Value)) (b : Str) (u : Tok) :
    Meets (Builtin.«dict.__eq__» ⟨[.ref l, .str b u], []⟩) (fun _ R s => s.heap.get? l = some { cls := .type "dict", dict := y, data := .dict es n, slots := sl } ∧ R (.ok (.ret .notImplemented)) s) := by
  refine .of_wp fun prog w A R s h => ?_
  cases s
  have k1 := h.1
  have k2 := h.2
  have k3 := F.sub_str_dict
  wp_walk using PySem.AutoSeq1.wpAny_loadPart' k1
  exact ⟨_, rfl, k2⟩
end
section
variable {X : Cx} {prog : Program} {w : World} {A : Around} {E : Value → Shared → Prop} {s : Shared}
theorem str_eq_no (b : Str) (u : Tok) (l : Addr) (es : Array DictEntry) (n : Nat) (y : Option Addr) (sl : Array (Option Value)) :
    Meets (Builtin.«str.__eq__» ⟨[.str b u, .ref l], []⟩) (fun _ R s => s.heap.get? l = some { cls := .type "dict", dict := y, data := .dict es n, slots := sl } ∧ R (.ok (.ret .notImplemented)) s) := by
  refine .of_wp fun prog w A R s h => ?_
  cases s
  have k1 := h.1
  have k2 := h.2
  have k3 := F.sub_dict_str
  wp_walk using wpAny_load k1
  exact ⟨_, rfl, k2⟩
def strIs (d : PyData) (z : Str) : Bool := match d with
  | .str x => decide (x = z)
  | _ => false
def rEqStr (K : PySem.W.Frag) : R2 := fun x y H Q => ∃ (B : Addr → Prop) (d : PyData) (z : Str), y = .str z ∧ Dt B K H x d ∧ Q (.bl (strIs d z)) H
theorem op_eqStr (hu : X.A.units < cLine) : OpR X (compareOp .Eq) (rEqStr X.K) := by
  intro pins s σ H x y v u Q I rx ry h
  obtain ⟨B, d, z, rfl, hd, q⟩ := h
  have no : ∀ (x : V), scal x (.str z) = true → x ≠ .str z → RelV x v → Q (.bl false) H → wpAny (model X.prog X.w) X.A (compareOp .Eq v u) (EP X pins σ Q) X.xe s := fun x h1 h2 rx q => op_eq pins s σ H _ _ v u Q I rx ry ⟨h1, by rw [decide_eq_false h2]; exact q⟩
  cases hd with
  | non => exact no .non rfl (by intro h; cases h) rx q
  | bl b => exact no (.bl b) rfl (by intro h; cases h) rx q
  | int i => exact no (.int i) rfl (by intro h; cases h) rx q
  | str x =>
    refine op_eq pins s σ H _ _ v u Q I rx ry ⟨rfl, ?_⟩
    have e : decide (V.str x = V.str z) = decide (x = z) := by
      by_cases e : x = z
      · rw [decide_eq_true e, decide_eq_true (by rw [e])]
      · rw [decide_eq_false e, decide_eq_false (fun h => e (V.str.inj h))]
    rw [e]
    exact q
  | lst nb ne hs ha =>
    cases rx
    obtain ⟨t, rfl⟩ := ry
    obtain ⟨its, rv, pl, _⟩ := I.list (.inl hs)
    exact SeqAt.RcAt.list_str z t pl.isList hu _ _ _ _ ⟨.bl false, H, I, rfl, q⟩
  | tup nb hs ha =>
    cases rx
    obtain ⟨t, rfl⟩ := ry
    obtain ⟨its, rv, pl, _⟩ := I.tuple (.inl hs)
    exact SeqAt.RcAt.tuple_str z t pl hu _ _ _ _ ⟨.bl false, H, I, rfl, q⟩
  | emp nb e =>
    cases rx
    obtain ⟨t, rfl⟩ := ry
    obtain ⟨_, hm, vs, rel, ob, es, ep, ho, hx, hd, _, hp, _⟩ := dk_of I.hok e
    obtain ⟨cls, dd, data, sl⟩ := ob
    have h1 := hx.1
    simp only at h1 hd
    subst h1 hd
    exact SeqAt.rc_eq_decline_or (k := false) ⟨_, ho, rfl⟩ (typeIs_str s z t) (by decide) F.sub_str_dict F.slot_dict_eq F.slot_str_eq_refl
      (fun _ hq => call_meets F.slot_dict_eq ⟨_, ho, rfl⟩ F.entry_dict_eq (F.args_dict_eq_2 _ _) (dct_eq_no _ es _ _ _ z t) ⟨ho, hq⟩)
      (fun _ hq => call_meets F.slot_str_eq_refl (typeIs_str s z t) F.entry_str_eq (F.args_str_eq_2 _ _) (str_eq_no z t _ es _ _ _) ⟨ho, hq⟩)
      (fun _ hq => wpAny_of_eq (rfl : isSame (.ref _) (.str z t) = pure false) hq) (.inr hu) ⟨.bl false, H, I, rfl, q⟩
end
section
variable {X : Cx}
theorem ext_tup (l : Addr) (xs : Array Value) (n : Nat) (b : Addr) (ys : Array Value) (m : Nat) (y : Option Addr) (sl : Array (Option Value)) (h0 : ¬(!xs.isEmpty && Builtin.List.listTooLong (xs.size + ys.size)) = true) (h1 : xs.size ≤ sizeLine) (h2 : xs.size + ys.size ≤ sizeLine + 1) :
    Meets (Builtin.«list.extend» ⟨[.ref l, .ref b], []⟩) (fun _ R s => s.heap.get? l = some { cls := .type "list", dict := none, data := .seq xs n, slots := #[] } ∧ s.heap.get? b = some { cls := .type "tuple", dict := y, data := .seq ys m, slots := sl } ∧
      R (.ok (.ret Value.none)) { s with heap := s.heap.update l (Obj.mapSeq fun x => x ++ ys), toks := s.toks }) := by
  refine .of_wp fun prog w A R s h => ?_
  cases s
  have k1 := h.1
  have k2 := h.2.1
  have k3 := h.2.2
  have t1 := AutoSeq1.idx_int
  have t2 := AutoSeq1.sub_tuple_tuple
  have t3 := AutoSeq1.sub_list_list
  have t4 := AutoSeq1.sub_tuple_list
  have t5 := AutoSeq1.sub_list_tuple
  have k4 : (xs ++ ys).size ≤ sizeLine + 1 := by
    rw [Array.size_append]
    exact h2
  wp_walk using (PySem.wpAny_updateSeq k1 rfl (hz := h1) (_hz' := k4)), AutoSeq1.wpAny_loadPart' k1, AutoSeq1.wpAny_loadPart' k2
  exact ⟨_, rfl, k3⟩
def rExtT (K : PySem.W.Frag) : V → List V → Hp → VK → Prop := fun x vs H Q => ∃ l b xs zs, x = .ref l ∧ vs = [.ref b] ∧ H l = some (.lst xs) ∧ SqT K H b zs ∧ xs.length + zs.length ≤ sizeLine ∧ Q .non (upd H l (.lst (xs ++ zs)))
theorem mt_extT : MtM X "list.extend" (rExtT X.K) := by
  intro pins s σ H x vs v us Q I rx rv h
  obtain ⟨l, b, xs, zs, rfl, rfl, hl, hb, hz, q⟩ := h
  cases rx
  obtain ⟨u, rfl, ru⟩ := rv.one
  cases ru
  obtain ⟨z, its, n, r, hz1, e⟩ := I.lstM hl
  obtain ⟨jts, r2, ⟨⟨cls, y, data, sl⟩, ho, hc, m, hd⟩, hz2⟩ := I.tuple hb
  simp only at hc hd
  subst hc hd
  have a1 := r.length
  have a2 := r2.length
  have hsz : its.toArray.size + jts.toArray.size ≤ sizeLine := by
    rw [List.size_toArray, List.size_toArray]
    omega
  have hno : ¬ (!its.toArray.isEmpty && Builtin.List.listTooLong (its.toArray.size + jts.toArray.size)) = true := by
    rw [notLongL hsz, Bool.and_false]
    exact Bool.false_ne_true
  refine call_meets F.slot_list_extend ⟨_, e, rfl⟩ F.entry_list_extend (F.args_list_extend_2 _ _) (ext_tup l its.toArray n b jts.toArray m y sl hno (by rw [List.size_toArray]; omega) (by omega)) ⟨e, ho, ?_⟩
  exact ⟨.non, _, I.lset (its' := its ++ jts) hl e (by simp) (r.append r2) (by rw [List.length_append]; omega), rfl, q⟩
end
section
variable {X : Cx}
theorem mul_emp (l : Addr) (n : Nat) (y : Option Addr) (sl : Array (Option Value)) (u : Tok) :
    Meets (Builtin.«tuple.__mul__» ⟨[.ref l, .int 2 u], []⟩) (fun _ R s => s.heap.get? l = some { cls := .type "tuple", dict := y, data := .seq #[] n, slots := sl } ∧ R (.ok (.ret (Value.ref l))) s) := by
  refine .of_wp fun prog w A R s h => ?_
  cases s
  have k1 := h.1
  have k2 := h.2
  have k3 := AutoSeq1.idx_int
  wp_walk using AutoSeq1.wpAny_loadPart' k1
  exact ⟨_, rfl, k2⟩
end
section
variable {X : Cx}
theorem vals_signs {z : Str} : ∀ (n : Nat) (acc : List Value), acc.length = n → (∀ (j : Nat) (v : Value), acc[j]? = some v → ∃ c u, (z.cps.toList.take n)[j]? = some c ∧ v = Value.str ⟨#[c]⟩ u) → n ≤ z.cps.toList.length → Vals ((z.cps.toList.take n).map fun c => V.str ⟨#[c]⟩) acc := by
  generalize z.cps.toList = cs
  intro n acc hl hj hn
  induction acc generalizing n cs with
  | nil =>
    rw [← hl, List.length_nil, List.take_zero]
    exact .nil
  | cons v acc ih =>
    cases cs with
    | nil =>
      rw [List.length_nil] at hn
      rw [List.length_cons] at hl
      omega
    | cons c cs =>
      cases n with
      | zero => cases hl
      | succ n =>
        rw [List.take_succ_cons, List.map_cons]
        obtain ⟨c', u, h1, rfl⟩ := hj 0 v rfl
        rw [List.take_succ_cons] at h1
        cases h1
        refine .cons ⟨u, rfl⟩ (ih cs n (by simpa using hl) (fun j x hx => ?_) (by simpa using hn))
        obtain ⟨c2, u2, h2, h3⟩ := hj (j + 1) x (by simpa using hx)
        exact ⟨c2, u2, by simpa using h2, h3⟩
def rTupS : List V → Hp → VK → Prop := fun xs H Q => ∃ z : Str, xs = [.str z] ∧ z.length ≤ sizeLine ∧ ∀ p H', Same H H' → H p = none → H' p = some (.tup (z.cps.toList.map fun c => V.str ⟨#[c]⟩)) → Q (.ref p) H'
theorem call_tupS (hc : X.calm = true) : CallR X (.type "tuple") rTupS := by
  intro pins s σ H xs us Q I r h
  obtain ⟨z, rfl, hz, q⟩ := h
  obtain ⟨u, rfl, rx⟩ := vals1 r
  obtain ⟨t, rfl⟩ := rx
  refine call_tuple_str (I.ok.hd hc) z t (fun h' tk acc hk ha => ?_) hz
  have I1 : Inv X pins σ H { s with heap := h', toks := tk } := I.kept hk
  have hv : Vals (z.cps.toList.map fun c => V.str ⟨#[c]⟩) acc.toList := by
    have q1 := vals_signs (z := z) z.cps.toList.length acc.toList (by rw [Array.length_toList, ha.1, Array.length_toList]) (fun j v hv => ?_) (Nat.le_refl _)
    · rw [List.take_length] at q1
      exact q1
    · obtain ⟨c, u, h1, h2⟩ := ha.2 j v (by rw [← Array.getElem?_toList]; exact hv)
      exact ⟨c, u, by rw [List.take_length, Array.getElem?_toList]; exact h1, h2⟩
  have np := I1.fresh
  refine ⟨.ref h'.objs.size, _, I1.laid (o := .tup (z.cps.toList.map fun c => V.str ⟨#[c]⟩)) (t' := tk) (fun b o e => Heap.get?_push_of_some _ e) (Nat.le_refl _) ⟨?_, acc.toList, hv, ⟨_, Heap.get?_push_size _ rfl, rfl, _, rfl⟩⟩, rfl, q _ _ (same_new np) np upd_same⟩
  rw [List.length_map, Array.length_toList]
  exact hz
end
section
variable {X : Cx}
/-- t * 2 -/
def rRep2 (K : PySem.W.Frag) : R2 := fun x y H Q => ∃ l xs, x = .ref l ∧ y = .int 2 ∧ Rd H l (.tup xs) ∧ xs.length ≤ 1000 ∧ ∀ q H', Same H H' → Rd H' q (.tup (xs ++ xs)) → (q = l ∨ H q = none) → Q (.ref q) H'
theorem op_rep2 : OpR X (binaryOp .Mult) (rRep2 X.K) := by
  intro pins s σ H x y v u Q I rx ry h
  obtain ⟨l, xs, rfl, rfl, hT, hz, q⟩ := h
  cases xs with
  | cons z zs =>
    refine op_repT pins s σ H _ _ v u Q I rx ry ⟨l, 2, z :: zs, rfl, rfl, .inl hT, by simp, by decide, by decide, hz, fun p hp => ?_⟩
    rw [show (List.replicate (2 : Int).toNat (z :: zs)).flatten = (z :: zs) ++ (z :: zs) by rw [show (2 : Int).toNat = 2 from rfl, List.replicate_succ, List.replicate_succ, List.replicate_zero, List.flatten_cons, List.flatten_cons, List.flatten_nil, List.append_nil]]
    exact q p _ (same_new hp) (.inl upd_same) (.inr hp)
  | nil =>
    cases rx
    obtain ⟨t, rfl⟩ := ry
    obtain ⟨its, r, ⟨⟨cls, y, data, sl⟩, ho, hc, n, hd⟩, _⟩ := I.tuple (.inl hT)
    cases r
    simp only at hc hd
    subst hc hd
    exact wpAny_binaryOp_repeat_ref (T := "tuple") (U := "int") (by decide) ⟨_, ho, rfl⟩ (fun s' => typeIs_int s' 2 t) noFill_tuple_mul F.fills_int_mul F.slot_int_rmul repeat_tuple F.slot_int_index.lookup
      (call_meets F.slot_int_rmul (typeIs_int s 2 t) F.entry_int_rmul (F.args_int_rmul_2 _ _) (int_rmul_tuple 2 t l #[] n y sl)
        ⟨ho, rfl, ⟨_, ho, rfl⟩, call_meets F.slot_tuple_mul ⟨_, ho, rfl⟩ F.entry_tuple_mul (F.args_tuple_mul_2 _ _) (mul_emp l n y sl t) ⟨ho, .ref l, H, I, rfl, q l H (Same.refl H) hT (.inl rfl)⟩⟩)
end
/-! ### how many unlike texts a list has, by way of a set -/
def stp (acc : List Str) (x : Str) : List Str := if acc.any (· == x) = true then acc else acc ++ [x]
def dd (xs : List Str) : List Str := xs.foldl stp []
theorem dd_snoc (xs : List Str) (x : Str) : dd (xs ++ [x]) = stp (dd xs) x := by
  unfold dd
  rw [List.foldl_append, List.foldl_cons, List.foldl_nil]
theorem stp_any (acc : List Str) (x k : Str) : (stp acc x).any (· == k) = (acc.any (· == k) || decide (k = x)) := by
  unfold stp
  split
  · rename_i h
    by_cases e : k = x
    · rw [e, h]
      rfl
    · rw [decide_eq_false e, Bool.or_false]
  · rw [List.any_append, List.any_cons, List.any_nil, Bool.or_false]
    congr 1
    by_cases e : k = x
    · rw [decide_eq_true e, e, beq_self_eq_true]
    · rw [decide_eq_false e]
      exact beq_false_of_ne fun z => e z.symm
theorem stp_len (acc : List Str) (x : Str) : (stp acc x).length = if acc.any (· == x) then acc.length else acc.length + 1 := by
  unfold stp
  split <;> simp
theorem dd_le (xs : List Str) : (dd xs).length ≤ xs.length := by
  have h : ∀ (ys acc : List Str), (ys.foldl stp acc).length ≤ acc.length + ys.length := fun ys => by
    induction ys with
    | nil => exact fun acc => Nat.le_refl _
    | cons y ys ih =>
      intro acc
      have := ih (stp acc y)
      have e := stp_len acc y
      rw [List.foldl_cons, List.length_cons]
      split at e <;> omega
  have := h xs []
  rw [List.length_nil, Nat.zero_add] at this
  exact this
theorem take_snoc {xs : List Str} {i : Nat} (h : i < xs.length) : xs.take (i + 1) = xs.take i ++ [xs.getD i Str.empty] := by
  rw [List.take_add_one, List.getD_eq_getElem?_getD, List.getElem?_eq_getElem h]
  rfl
theorem set_as {P : Program} {w : World} {h : Heap} {a : Addr} {S S2 : Str → Bool} {n m : Nat} (q : h.SetOf (PySem.strKind P w) a S n) (e1 : ∀ k, S k = S2 k) (e2 : n = m) : h.SetOf (PySem.strKind P w) a S2 m := by
  cases e2
  rw [← funext e1]
  exact q
section
variable {prog : Program} {w : World} {A : Around} {R : Result → Shared → Prop} {I S : Addr} {fp wr : List Addr} {G : Array GenState → Array GenState → Prop} {n : Nat} {P : Nat → Value → Prop} {St : Nat → Shared → Prop}
theorem set_keep {s s' : Shared} {F : Str → Bool} {m : Nat} (q : s.heap.SetOf (PySem.strKind prog w) S F m) (k : ∀ o, s.heap.get? S = some o → s'.heap.get? S = some o) : s'.heap.SetOf (PySem.strKind prog w) S F m := by
  obtain ⟨o, e1, e2, e3, e4, e5⟩ := q
  exact ⟨o, e1, e2, e3, k _ e4, e5⟩
theorem set_walk (W : WalksS prog w A.in1 I fp wr G n P St) (no : S ∉ fp) (xs : List Str) (hx : xs.length = n) (hb : n + 1 < scanBound) (hv : ∀ i v, P i v → ∃ t, v = .str (xs.getD i Str.empty) t) :
    ∀ (k i : Nat) (s : Shared), i + k = n → St i s → s.heap.SetOf (PySem.strKind prog w) S (fun z => (dd (xs.take i)).any (· == z)) (dd (xs.take i)).length →
      (∀ s2, Moved (S :: wr) G s s2 → s2.heap.SetOf (PySem.strKind prog w) S (fun z => (dd xs).any (· == z)) (dd xs).length → R (.ok (.ret .none)) s2) →
      codeAny (model prog w) A (.builtin "set.update.loop" ⟨[.ref S, .ref I], []⟩) R s
  | 0, i, s, hk, st, q, fin => by
    have nw : S ∉ wr := fun z => no (W.sub _ z)
    rw [List.take_of_length_le (by omega)] at q
    refine codeAny_builtin PyProof.Rows.F.entry_set_update_loop (by
      rw [Around.under_plainId PyProof.Rows.F.plain_set_update_loop _]
      refine wpAny_bind (W.done s _ _ (by rw [show n = i by omega]; exact st) fun s2 mv => ?_)
      exact wpAny_pure (fin s2 (mv.mono fun b z => List.mem_cons_of_mem _ z) (set_keep q fun o e => mv.heap S _ nw e)))
  | k + 1, i, s, hk, st, q, fin => by
    have nw : S ∉ wr := fun z => no (W.sub _ z)
    have sub : ∀ b ∈ wr, b ∈ S :: wr := fun b z => List.mem_cons_of_mem _ z
    refine codeAny_builtin PyProof.Rows.F.entry_set_update_loop (by
      rw [Around.under_plainId PyProof.Rows.F.plain_set_update_loop _]
      refine wpAny_bind (W.item i s _ _ (by omega) st fun v s2 hP st2 mv => ?_)
      obtain ⟨t, rfl⟩ := hv i v hP
      have q2 : s2.heap.SetOf _ S _ _ := set_keep q fun o e => mv.heap S _ nw e
      refine wpAny_bind (wpAny_holding (m := setAdd S (.str (xs.getD i Str.empty) t)) ?_)
      refine wpAny_holding (wpAny_bind ((PySem.strKind prog w).pyHash (k := xs.getD i Str.empty) (strKind_is _ _ _ _) ?_))
      refine wpAny_setAddHashed_of (knd := PySem.strKind prog w) (s := { s2 with toks := s2.toks + 1 }) (strKind_is _ _ _ _) rfl q2 (Nat.lt_of_le_of_lt (Nat.succ_le_succ (Nat.le_trans (dd_le _) (by rw [List.length_take]; omega : _ ≤ n))) hb) fun h3 sb q3 => ?_
      have q4 : h3.SetOf (PySem.strKind prog w) S (fun z => (dd (xs.take (i + 1))).any (· == z)) (dd (xs.take (i + 1))).length := by
        refine set_as q3 (fun z => ?_) ?_
        · rw [take_snoc (by omega), dd_snoc, stp_any]
        · rw [take_snoc (by omega), dd_snoc, stp_len]
      refine wpAny_pure ⟨plainId_quiet PyProof.Rows.F.plain_set_update_loop _, set_walk W no xs hx hb hv k (i + 1) _ (by omega) (W.frame _ s2 _ _ st2 (Nat.le_succ _) fun b hb2 o e => ?_) q4 fun s4 mv4 q5 => ?_⟩
      · rw [sb.2 b fun z => no (z ▸ hb2)]
        exact e
      · refine fin s4 (Moved.trans W.gtrans ((mv.mono sub).then_heap (Nat.le_succ _) fun b o nb e => ?_) mv4) q5
        rw [sb.2 b fun z => nb (z ▸ List.mem_cons_self)]
        exact e)
end
section
variable {prog : Program} {w : World} {A : Around} {E : Value → Shared → Prop} {s : Shared}
abbrev newSet (b : Bool) : Obj := { cls := .type "set", dict := none, data := .set #[] 0 (.fresh 0 0 b) }
set_option maxHeartbeats 4000000 in
theorem set_of_texts {l : Addr} {vs : Array Value} {xs : List Str} {Q : Value → Shared → Prop} (nh : A.handled = none) (hl : s.heap.IsList l vs) (hi : PyProof.Rows.StrsAre vs.toList xs) (hb : xs.length + 1 < scanBound)
    (fin : ∀ (h2 : Heap) (tk : Nat), h2.SetOf (PySem.strKind prog w) s.heap.objs.size (fun z => (dd xs).any (· == z)) (dd xs).length → (∀ b o, b < s.heap.objs.size → s.heap.get? b = some o → h2.get? b = some o) → Q (.ref s.heap.objs.size) { s with heap := h2, toks := tk }) :
    wpAny (model prog w) A (call (.type "set") [.ref l]) Q E s := by
  have c1 := PySem.F.called_set.made
  have c2 := PySem.F.called_set.sub
  have c3 := PySem.F.called_set.notType
  have c4 := PySem.F.called_set.canCreate
  have c5 := PySem.F.typeCall_set_1 (.ref l)
  obtain ⟨_, _, c6⟩ := PySem.F.called_set.mro
  refine wpAny_call (codeAny_of_tree (show wpAny _ _ (callAny (.type "set") _) _ _ _ from wpAny_pure ⟨Code.quiet_builtin _ (by decide +kernel), codeAny_builtin PySem.F.entry_type_call ?_⟩))
  rw [Around.under_plain (weight_type_call_type "set" [.ref l] []) rfl]
  repeat (any_goals (first | assumption | wp_step))
  refine codeAny_mono (code_set_new_1 (.ref l) (E := E) (Q₁ := fun v t => ∃ b : Bool, v = .ref s.heap.objs.size ∧ t = { s with heap := s.heap.push (newSet b) }) fun b => ⟨b, rfl, rfl⟩) fun r s1 hr => ?_
  match r, hr with
  | .error e, hr => exact hr
  | .ok (.ret v), hr =>
    obtain ⟨b, rfl, rfl⟩ := hr
    have n1 : (s.heap.push (newSet b)).get? s.heap.objs.size = some (newSet b) := Heap.get?_push_size _ rfl
    have n2 : Shared.TypeIs { s with heap := s.heap.push (newSet b) } (.ref s.heap.objs.size) "set" := ⟨_, n1, rfl⟩
    have c7 := PySem.F.called_set.init.lookup
    have c8 := PySem.F.called_set.init.bind (.ref s.heap.objs.size)
    repeat (any_goals (first | assumption | wp_step))
    refine codeAny_mono (codeAny_call_builtin (R := wants (fun v t => v = .none ∧ ∃ h2 tk, t = { s with heap := h2, toks := tk } ∧ h2.SetOf (PySem.strKind prog w) s.heap.objs.size (fun z => (dd xs).any (· == z)) (dd xs).length ∧ ∀ b o, b < s.heap.objs.size → s.heap.get? b = some o → h2.get? b = some o) E)
      PySem.F.called_set.init.plain PySem.F.entry_set_init (check_set_init_1 n2 ?_)) fun r2 s2 hr2 => ?_
    · obtain ⟨⟨cls, dct, data, sl⟩, ho, hc, m, hd⟩ := hl
      simp only at hc hd
      cases hc
      cases hd
      have n3 : (s.heap.push (newSet b)).get? l = some { cls := .type "list", dict := dct, data := .seq vs m, slots := sl } := Heap.get?_push_of_some _ ho
      have n4 := PySem.F.sub_list_set
      have n5 := PySem.F.sub_list_frozenset
      have n6 : (Value.type "list" == Value.type "dict") = false := by decide
      have n7 : (s.heap.push (newSet b)).IsList l vs := ⟨_, n3, rfl, m, rfl⟩
      unfold Builtin.«set.__init__» noKeywords Builtin.Frozenset.updateFrom
      generalize hp : pyIter = IT
      wp_walk
      subst hp
      refine wpAny_pyIter_list n7 (wpAny_bind (wpAny_runValue ?_))
      have lt := Heap.lt_size ho
      have z1 : l ≠ (s.heap.push (newSet b)).objs.size := by
        rw [Heap.size_push]
        exact Nat.ne_of_lt (Nat.lt_succ_of_lt lt)
      have z2 : s.heap.objs.size ∉ [(s.heap.push (newSet b)).objs.size, l] := by
        rw [Heap.size_push]
        intro z
        rcases List.mem_cons.mp z with z | z
        · exact Nat.ne_of_lt (Nat.lt_succ_self _) z
        · exact Nat.ne_of_gt lt (List.mem_singleton.mp z)
      have z3 : xs.length = vs.size := by
        rw [← StrsAre.len_eq hi, Array.length_toList]
      refine set_walk ((Walks.list (by simp [nh] : A.in1.in1.in1.handled = none) _ l z1 vs).toS) z2 xs z3 (by omega) (fun i v hv => SS.strs_at hi i v (by rw [Array.getElem?_toList]; exact hv)) vs.size 0 _ (Nat.zero_add _) ⟨⟨_, Heap.get?_push_size _ rfl, rfl, rfl⟩, n7.push _⟩ ?_ ?_
      · exact set_as ((PyProof.Rows.setObjOf_fresh (knd := PySem.strKind prog w) b).setOf (Heap.get?_push_of_some _ n1) (by unfold scanBound; omega)) (fun _ => rfl) rfl
      · rintro ⟨h2, g, dr, tk, os⟩ mv q
        cases (mv.gens : g = s.gens)
        cases (mv.drawn : dr = s.drawn)
        cases (mv.os : os = s.os)
        refine wpAny_pure (show wpAny _ _ (ret Value.none) _ _ _ from wpAny_pure ⟨rfl, h2, tk, rfl, q, fun b2 o lt2 e => mv.heap b2 o ?_ (Heap.get?_push_of_some _ (Heap.get?_push_of_some _ e))⟩)
        rw [Heap.size_push]
        intro z
        rcases List.mem_cons.mp z with z | z
        · exact Nat.ne_of_lt lt2 z
        · exact Nat.ne_of_lt (Nat.lt_succ_of_lt lt2) (List.mem_singleton.mp z)
    · match r2, hr2 with
      | .error e, hr2 => exact hr2
      | .ok (.ret v), hr2 =>
        obtain ⟨rfl, h2, tk, rfl, q, kk⟩ := hr2
        repeat (any_goals (first | assumption | wp_step))
        exact fin _ _ q kk
      | .ok .next, hr2 => exact hr2.elim
      | .ok .brk, hr2 => exact hr2.elim
      | .ok .cont, hr2 => exact hr2.elim
end
section
variable {X : Cx}
/-- len(set(xs)) of a list of texts -/
def tLenSetT (K : PySem.W.Frag) (ta : TE) : TE := fun σ H Q => ta σ H fun x H1 => ∃ (l : Addr) (xs : List Str), x = .ref l ∧ SqL K H1 l (xs.map V.str) ∧ xs.length ≤ 20 ∧ Q (.int (dd xs).length) H1
theorem pe_lenSetT {a : Expr} {ta : TE} {p p2 q pos : Pos} (hc : X.calm = true) (g1 : Gl X "len") (m1 : X.mg "len" = none) (g2 : Gl X "set") (m2 : X.mg "set" = none) (ha : PE X a ta) (na : starEach [a] X.env = (false, eval a X.env) :: starEach [] X.env := by rfl) :
    PE X (.Call (.Name "len" p) [.Call (.Name "set" p2) [a] [] q] [] pos) (tLenSetT X.K ta) := by
  refine ⟨fun pins s σ H Q I h => Call_ (ld_blt I g1 m1 boot_len (PyProof.Rows.callWith_builtin1 (PyProof.Rows.args_cons (Call_ (ld_blt I g2 m2 boot_set (PyProof.Rows.callWith_type1 (PyProof.Rows.args_cons (thn (ha.run pins s σ H _ I h) fun v s1 w => PyProof.Rows.args_nil ?_) na) na rfl))) rfl) rfl rfl))⟩
  obtain ⟨x, H1, I1, r1, l, xs, rfl, hl, hz, k⟩ := w
  cases r1
  obtain ⟨its, r, pl, _⟩ := I1.list hl
  have b1 : xs.length + 1 < scanBound := by
    unfold scanBound
    omega
  have b2 := dd_le xs
  refine set_of_texts (I1.ok.hd hc) pl.isList (by simpa using strsAre_of r) b1 fun h2 tk hS hk => PyProof.Rows.args_nil ?_
  obtain ⟨o, es, ep, t, ho, hex, hd, _, _, _, hf, hn⟩ := hS
  have I2 : Inv X pins σ H1 { s1 with heap := h2, toks := tk } := I1.kept fun b o e => hk b o (Heap.lt_size e) e
  exact call_len_set ho hex hd hf (by rw [hn]; omega) ⟨.int (dd xs).length, H1, I2.tok _, ⟨_, by rw [hn]⟩, k⟩
end
/-! ### enumerate of a tuple -/
abbrev tupIt (l : Addr) : Obj := { cls := .type "tuple_iterator", data := .fields #[.ref l, .int 0 0] }
abbrev enumOb (i : Addr) : Obj := { cls := .type "enumerate", data := .fields #[.none, .bool false, .ref i, rawInt 0, .none, .none] }
theorem enum_tup_new (l : Addr) (xs : Array Value) (n : Nat) (y : Option Addr) (sl : Array (Option Value)) :
    Meets (Builtin.«enumerate.__new__» ⟨[.type "enumerate", .ref l], []⟩) (fun _ R s => s.heap.get? l = some { cls := .type "tuple", dict := y, data := .seq xs n, slots := sl } ∧
      R (.ok (.ret (.ref (s.heap.push (tupIt l)).objs.size))) { s with heap := (s.heap.push (tupIt l)).push (enumOb s.heap.objs.size) }) := by
  refine .of_wp fun prog w A R s h => ?_
  cases s
  have k1 := h.1
  have k2 := h.2
  have k3 := sub_enumerate
  have k4 : Heap.IsTuple _ l xs := ⟨_, k1, rfl, n, rfl⟩
  wp_walk using AutoSeq1.wpAny_loadPart' k1
  refine wpAny_stack_any fun st => wpAny_pure ?_
  split
  · rename_i c _ _ _ _ _
    cases (c == Value.type "enumerate") <;> (wp_walk using AutoSeq1.wpAny_loadPart' k1, wpAny_pyIter_tuple k4 <;> exact ⟨_, rfl, k2⟩)
  · wp_walk using AutoSeq1.wpAny_loadPart' k1, wpAny_pyIter_tuple k4
    exact ⟨_, rfl, k2⟩
section
variable {prog : Program} {w : World} {A : Around} {E : Value → Shared → Prop} {s : Shared}
theorem call_enum_tup {l : Addr} {xs : Array Value} {Q : Value → Shared → Prop} (hl : s.heap.IsTuple l xs)
    (fin : ∀ h2, IsEnum h2 (s.heap.objs.size + 1) s.heap.objs.size 0 .none → h2.IsTupleIter s.heap.objs.size l 0 → (∀ b o, s.heap.get? b = some o → h2.get? b = some o) → Q (.ref (s.heap.objs.size + 1)) { s with heap := h2 }) :
    wpAny (model prog w) A (call (.type "enumerate") [.ref l]) Q E s := by
  obtain ⟨⟨c, y, data, sl⟩, ho, hc, n, hd⟩ := hl
  simp only at hc hd
  cases hc
  cases hd
  have e1 : (s.heap.push (tupIt l)).objs.size = s.heap.objs.size + 1 := Heap.size_push ..
  have e2 : ((s.heap.push (tupIt l)).push (enumOb s.heap.objs.size)).get? (s.heap.objs.size + 1) = some (enumOb s.heap.objs.size) := by
    rw [← e1]
    exact Heap.get?_push_size _ rfl
  refine callType_new F.called_enumerate (by decide) (F.typeCall_enumerate_1 _) (F.newCall_enumerate_1 _) (fun obj => F.args_object_init_2 obj _) F.entry_enumerate_new (enum_tup_new l xs n y sl) ⟨ho, ?_⟩
  rw [e1]
  exact ⟨⟨_, e2, rfl⟩, fin _ e2 ⟨_, Heap.get?_push_of_some _ (Heap.get?_push_size _ rfl), rfl, rfl⟩ fun b o q => Heap.get?_push_of_some _ (Heap.get?_push_of_some _ q)⟩
end
/-- the tuple at a, each item in a new pair behind its number -/
def ItT (K : PySem.W.Frag) (a : Addr) : It :=
  ⟨fun i H => ∃ (xs : List V) (x : V), SqT K H a xs ∧ xs[i]? = some x,
    fun i H v H' => ∃ T x, v = .ref T ∧ H T = none ∧ H' = upd H T (.tup [.int (i : Nat), x]) ∧ ∀ xs, SqT K H a xs → xs[i]? = some x,
    fun i H => ∃ xs : List V, SqT K H a xs ∧ xs.length ≤ i⟩
theorem turn_enumT {P : Program} {w : World} {K : PySem.W.Frag} {elts : List Expr} {kk : Nat} {tpos : Pos} (a e it : Addr) :
    Turn P w K (.Tuple elts kk tpos) (ItT K a) [e, it] e (fun i h => (∃ old, IsEnum h e it ((i : Nat) : Int) old) ∧ h.IsTupleIter it a i ∧ e ≠ it) where
  mem := List.mem_cons_self
  obj := fun i h st b hb => by
    obtain ⟨⟨old, he⟩, ⟨o, ho, hc, hd⟩, _⟩ := st
    rcases List.mem_cons.mp hb with z | z
    · subst z
      exact ⟨_, he, fun v q => nomatch q⟩
    · rw [List.mem_singleton.mp z]
      refine ⟨o, ho, fun v q => ?_⟩
      rw [hd] at q
      cases q
  keep := fun i h h2 st k => ⟨st.1.imp fun old he => k e List.mem_cons_self _ he, st.2.1.at fun o q => k it (List.mem_cons_of_mem _ (List.mem_singleton.mpr rfl)) o q, st.2.2⟩
  item := by
    intro X hP hw hK hc i pins s σ H E I hf st hg
    cases hP
    cases hw
    cases hK
    obtain ⟨⟨old, he⟩, hit, hne⟩ := st
    obtain ⟨xs, x, hq, hx⟩ := hg
    obtain ⟨its, rv, p, hz⟩ := I.tuple hq
    obtain ⟨u, hu, ru⟩ := rv.get hx
    have lt1 : e < s.heap.objs.size := Heap.lt_size he
    have lt2 : it < s.heap.objs.size := by
      obtain ⟨_, q, _⟩ := id hit
      exact Heap.lt_size q
    have pT : s.heap.IsTuple a its.toArray := p
    have nea : e ≠ a := fun z => by
      obtain ⟨o, q1, q2, _⟩ := id pT
      rw [← z] at q1
      cases (he.symm.trans q1)
      exact absurd (Value.type.inj q2) (by decide)
    have nia : a ≠ it := fun z => by
      obtain ⟨o, q1, q2, _⟩ := id pT
      obtain ⟨o2, q3, q4, _⟩ := id hit
      rw [z] at q1
      cases (q1.symm.trans q3)
      rw [q2] at q4
      exact absurd (Value.type.inj q4) (by decide)
    have no : e ∉ [it, a] := fun z => by
      rcases List.mem_cons.mp z with z | z
      · exact hne z
      · exact nea (List.mem_singleton.mp z)
    have hlt : i < its.toArray.size := by
      rw [List.size_toArray, ← rv.length]
      exact (List.getElem?_eq_some_iff.mp hx).1
    refine wpAny_pyNext_enum_itemD (Draws.tuple (by rw [show X.A.in1.handled = X.A.handled from rfl]; exact I.ok.hd hc) it a nia its.toArray) he ⟨hit, pT⟩ hlt hne no fun v h2 tk hv ho st2 hT hsz hk => ?_
    have ev : v = u := by
      have q1 : its.toArray[i]? = some u := by simpa using hu
      rw [q1] at hv
      exact (Option.some.inj hv).symm
    cases ev
    refine ⟨_, rfl, wpAny_letOwnedTupleGo_enum (s := { s with heap := h2, toks := tk + 1 }) ho fun h3 he3 sb => ?_⟩
    have hT3 : h3.get? s.heap.objs.size = some { cls := .type "tuple", data := .seq #[.int i tk, u] } := (sb.2 _ (Nat.ne_of_gt lt1)).trans hT
    have new : ObjOk X.prog X.w (upd H s.heap.objs.size (.tup [.int (i : Nat), x])) h3 s.heap.objs.size (.tup [.int (i : Nat), x]) := ⟨by show 2 ≤ sizeLine; decide, [.int i tk, u], .cons ⟨_, rfl⟩ (.cons ru .nil), ⟨_, hT3, rfl, _, rfl⟩⟩
    have mem1 : ∀ {b : Addr}, b ∉ [e, it] → b ≠ e ∧ b ≠ it := fun h => ⟨fun z => h (z ▸ List.mem_cons_self), fun z => h (z ▸ List.mem_cons_of_mem _ (List.mem_singleton.mpr rfl))⟩
    have I1 : Inv X pins σ (upd H s.heap.objs.size (.tup [.int (i : Nat), x])) { s with heap := h3, toks := tk + 1 } :=
      I.turnedNew (ch := [e, it]) (fun b ob hb q => (sb.2 b (mem1 hb).1).trans (hk b ob (mem1 hb).1 (mem1 hb).2 q)) hf (Nat.le_refl _) new
    refine ⟨.ref s.heap.objs.size, _, I1, rfl, ⟨_, x, rfl, I.hok.fresh (Nat.le_refl _), rfl, fun ys hy => by rw [I.tuple_inj hy hq]; exact hx⟩, ⟨⟨u, ?_⟩, st2.1.at fun o q => (sb.2 it (Ne.symm hne)).trans q, hne⟩, fun b hb => ?_⟩
    · rw [show ((i + 1 : Nat) : Int) = (i : Int) + 1 from by omega]
      exact he3
    · rw [upd_ne]
      · exact (hf b hb).1
      · rcases List.mem_cons.mp hb with z | z
        · rw [z]
          exact Nat.ne_of_lt lt1
        · rw [List.mem_singleton.mp z]
          exact Nat.ne_of_lt lt2
  done := by
    intro X hP hw hK hc i pins s σ H E I hf st hg
    cases hP
    cases hw
    cases hK
    obtain ⟨⟨old, he⟩, hit, hne⟩ := st
    obtain ⟨xs, hq, hx⟩ := hg
    obtain ⟨its, rv, p, hz⟩ := I.tuple hq
    obtain ⟨f0, f1, f2, f3, f4, f5⟩ := hf it (List.mem_cons_of_mem _ (List.mem_singleton.mpr rfl))
    have pT : s.heap.IsTuple a its.toArray := p
    have hl := rv.length
    have D : Draws X.prog X.w X.A.in1 it [it, a] i (fun _ _ => False) (fun j h => j = i ∧ h.IsTupleIter it a i ∧ h.IsTuple a its.toArray) := {
      live := fun _ _ st => let ⟨o, ho, _⟩ := st.2.1; ⟨o, ho⟩
      frame := fun _ _ _ st hk => ⟨st.1, st.2.1.at fun o e => hk it List.mem_cons_self o e, st.2.2.at fun o e => hk a (List.mem_cons_of_mem _ (List.mem_singleton.mpr rfl)) o e⟩
      item := fun j s Q E hj st _ => absurd st.1 (Nat.ne_of_lt hj)
      done := fun s Q E st hE => wpAny_nextOf_tuple_end (I.ok.hd hc) st.2.1 st.2.2 (by rw [List.getElem?_toArray]; exact List.getElem?_eq_none (by omega)) hE }
    exact wpAny_pyNext_enum_endD D he ⟨rfl, hit, pT⟩ fun h2 eb => ⟨rfl, I.turned (t' := s.toks) (fun b o hb q => eb b o hb q) f0 f1 f3 f4 f5⟩
  self := fun A i s Q E st h => wpAny_pyIter_enum st.1.choose_spec h
def iEnumT (K : PySem.W.Frag) (ta : TA) : TI := fun σ H R => ta σ H fun vs H1 => ∃ a xs, vs = [.ref a] ∧ SqT K H1 a xs ∧ R (ItT K a) H1
theorem pi_enumT {X : Cx} {e : Expr} {ta : TA} {p pos tpos : Pos} {elts : List Expr} {kk : Nat} (g : Gl X "enumerate") (m : X.mg "enumerate" = none) (ha : PA X [e] ta) (hs : starEach [e] X.env = [(false, eval e X.env)] := by rfl) :
    PI X (.Tuple elts kk tpos) (.Call (.Name "enumerate" p) [e] [] pos) (iEnumT X.K ta) := by
  refine ⟨fun pins s σ H R I h => Call_ (ld_blt I g m boot_enumerate (PyProof.Rows.callWith_type1 (thn (ha.run pos pins s σ H _ I h) fun us s1 w => ?_) hs rfl))⟩
  obtain ⟨vs, H1, I1, r1, a, xs, rfl, hq, k⟩ := w
  cases r1 with
  | cons r rr =>
    cases rr
    cases r
    obtain ⟨its, rv, pl, _⟩ := I1.tuple hq
    refine call_enum_tup (show s1.heap.IsTuple a its.toArray from pl) fun h2 he hit hk => wpAny_pyIter_enum he ?_
    have I2 : Inv X pins σ H1 { s1 with heap := h2 } := I1.kept (t' := s1.toks) hk
    refine ⟨s1.heap.objs.size + 1, [s1.heap.objs.size + 1, s1.heap.objs.size], _, _, H1, rfl, I2, turn_enumT a _ s1.heap.objs.size, ⟨⟨.none, he⟩, hit, Nat.succ_ne_self _⟩, fun b hb => ?_, k⟩
    have le : s1.heap.objs.size ≤ b := by
      rcases List.mem_cons.mp hb with z | z
      · rw [z]
        exact Nat.le_add_right _ _
      · exact Nat.le_of_eq (List.mem_singleton.mp z).symm
    exact I1.fpOk le (I1.hok.fresh le)
/-! ### enumerate of a text -/
def ItE (z : Str) : It :=
  ⟨fun i _ => i < z.cps.size,
    fun i H v H' => ∃ T c, v = .ref T ∧ H T = none ∧ H' = upd H T (.tup [.int (i : Nat), .str ⟨#[c]⟩]) ∧ z.cps[i]? = some c,
    fun i _ => z.cps.size ≤ i⟩
theorem turn_enumS {P : Program} {w : World} {K : PySem.W.Frag} {elts : List Expr} {kk : Nat} {tpos : Pos} (z : Str) (t : Tok) (e it : Addr) :
    Turn P w K (.Tuple elts kk tpos) (ItE z) [e, it] e (fun i h => (∃ old, IsEnum h e it ((i : Nat) : Int) old) ∧ h.IsStrIter it (strIterType z) z t i ∧ e ≠ it) where
  mem := List.mem_cons_self
  obj := fun i h st b hb => by
    obtain ⟨⟨old, he⟩, ⟨o, ho, hc, hd⟩, _⟩ := st
    rcases List.mem_cons.mp hb with z | z
    · subst z
      exact ⟨_, he, fun v q => nomatch q⟩
    · rw [List.mem_singleton.mp z]
      refine ⟨o, ho, fun v q => ?_⟩
      rw [hd] at q
      cases q
  keep := fun i h h2 st k => ⟨st.1.imp fun old he => k e List.mem_cons_self _ he, let ⟨o, ho, r⟩ := st.2.1; ⟨o, k it (List.mem_cons_of_mem _ (List.mem_singleton.mpr rfl)) o ho, r⟩, st.2.2⟩
  item := by
    intro X hP hw hK hc i pins s σ H E I hf st hg
    cases hP
    cases hw
    cases hK
    obtain ⟨⟨old, he⟩, hit, hne⟩ := st
    have lt1 : e < s.heap.objs.size := Heap.lt_size he
    have no : e ∉ [it] := fun z => hne (List.mem_singleton.mp z)
    refine wpAny_pyNext_enum_itemD (Draws.text (by rw [show X.A.in1.handled = X.A.handled from rfl]; exact I.ok.hd hc) it z t) he hit hg hne no fun v h2 tk hv ho st2 hT hsz hk => ?_
    obtain ⟨c, u, hcx, rfl⟩ := hv
    refine ⟨_, rfl, wpAny_letOwnedTupleGo_enum (s := { s with heap := h2, toks := tk + 1 }) ho fun h3 he3 sb => ?_⟩
    have hT3 : h3.get? s.heap.objs.size = some { cls := .type "tuple", data := .seq #[.int i tk, .str ⟨#[c]⟩ u] } := (sb.2 _ (Nat.ne_of_gt lt1)).trans hT
    have new : ObjOk X.prog X.w (upd H s.heap.objs.size (.tup [.int (i : Nat), .str ⟨#[c]⟩])) h3 s.heap.objs.size (.tup [.int (i : Nat), .str ⟨#[c]⟩]) := ⟨by show 2 ≤ sizeLine; decide, [.int i tk, .str ⟨#[c]⟩ u], .cons ⟨_, rfl⟩ (.cons ⟨_, rfl⟩ .nil), ⟨_, hT3, rfl, _, rfl⟩⟩
    have mem1 : ∀ {b : Addr}, b ∉ [e, it] → b ≠ e ∧ b ≠ it := fun h => ⟨fun z => h (z ▸ List.mem_cons_self), fun z => h (z ▸ List.mem_cons_of_mem _ (List.mem_singleton.mpr rfl))⟩
    have I1 : Inv X pins σ (upd H s.heap.objs.size (.tup [.int (i : Nat), .str ⟨#[c]⟩])) { s with heap := h3, toks := tk + 1 } :=
      I.turnedNew (ch := [e, it]) (fun b ob hb q => (sb.2 b (mem1 hb).1).trans (hk b ob (mem1 hb).1 (mem1 hb).2 q)) hf (Nat.le_refl _) new
    refine ⟨.ref s.heap.objs.size, _, I1, rfl, ⟨_, c, rfl, I.hok.fresh (Nat.le_refl _), rfl, hcx⟩, ⟨⟨.str ⟨#[c]⟩ u, ?_⟩, (let ⟨o, ho, r⟩ := st2; ⟨o, (sb.2 it (Ne.symm hne)).trans ho, r⟩), hne⟩, fun b hb => ?_⟩
    · rw [show ((i + 1 : Nat) : Int) = (i : Int) + 1 from by omega]
      exact he3
    · rw [upd_ne]
      · exact (hf b hb).1
      · rcases List.mem_cons.mp hb with z | z
        · rw [z]
          exact Nat.ne_of_lt lt1
        · rw [List.mem_singleton.mp z]
          exact Nat.ne_of_lt (let ⟨_, q, _⟩ := hit; Heap.lt_size q)
  done := by
    intro X hP hw hK hc i pins s σ H E I hf st hg
    cases hP
    cases hw
    cases hK
    obtain ⟨⟨old, he⟩, hit, hne⟩ := st
    obtain ⟨f0, f1, f2, f3, f4, f5⟩ := hf it (List.mem_cons_of_mem _ (List.mem_singleton.mpr rfl))
    have D : Draws X.prog X.w X.A.in1 it [it] i (fun _ _ => False) (fun j h => j = i ∧ h.IsStrIter it (strIterType z) z t i) := {
      live := fun _ _ st => let ⟨o, ho, _⟩ := st.2; ⟨o, ho⟩
      frame := fun _ _ _ st hk => ⟨st.1, let ⟨o, ho, r⟩ := st.2; ⟨o, hk it List.mem_cons_self o ho, r⟩⟩
      item := fun j s Q E hj st _ => absurd st.1 (Nat.ne_of_lt hj)
      done := fun s Q E st hE => by
        have hx : z.cps[i]? = none := Array.getElem?_eq_none hg
        have st2 := st.2
        unfold strIterType at st2
        split at st2
        · exact wpAny_nextOf_ascii_end (I.ok.hd hc) st2 hx hE
        · exact wpAny_nextOf_wide_end (I.ok.hd hc) st2 hx hE }
    exact wpAny_pyNext_enum_endD D he ⟨rfl, hit⟩ fun h2 eb => ⟨rfl, I.turned (t' := s.toks) (fun b o hb q => eb b o hb q) f0 f1 f3 f4 f5⟩
  self := fun A i s Q E st h => wpAny_pyIter_enum st.1.choose_spec h
def iEnumS (ta : TA) : TI := fun σ H R => ta σ H fun vs H1 => ∃ z, vs = [.str z] ∧ R (ItE z) H1
theorem pi_enumS {X : Cx} {e : Expr} {ta : TA} {p pos tpos : Pos} {elts : List Expr} {kk : Nat} (g : Gl X "enumerate") (m : X.mg "enumerate" = none) (ha : PA X [e] ta) (hs : starEach [e] X.env = [(false, eval e X.env)] := by rfl) :
    PI X (.Tuple elts kk tpos) (.Call (.Name "enumerate" p) [e] [] pos) (iEnumS ta) := by
  refine ⟨fun pins s σ H R I h => Call_ (ld_blt I g m boot_enumerate (PyProof.Rows.callWith_type1 (thn (ha.run pos pins s σ H _ I h) fun us s1 w => ?_) hs rfl))⟩
  obtain ⟨vs, H1, I1, r1, z, rfl, k⟩ := w
  cases r1 with
  | cons r rr =>
    cases rr
    obtain ⟨t, rfl⟩ := r
    refine call_enumerate_str fun h2 he hit hsz hk => wpAny_pyIter_enum he ?_
    have I2 : Inv X pins σ H1 { s1 with heap := h2 } := I1.kept (t' := s1.toks) hk
    refine ⟨s1.heap.objs.size + 1, [s1.heap.objs.size + 1, s1.heap.objs.size], _, _, H1, rfl, I2, turn_enumS z t _ s1.heap.objs.size, ⟨⟨.none, he⟩, hit, Nat.succ_ne_self _⟩, fun b hb => ?_, k⟩
    have le : s1.heap.objs.size ≤ b := by
      rcases List.mem_cons.mp hb with z | z
      · rw [z]
        exact Nat.le_add_right _ _
      · exact Nat.le_of_eq (List.mem_singleton.mp z).symm
    exact I1.fpOk le (I1.hok.fresh le)
theorem walk_enumS {z : Str} : Walk (ItE z) z.cps.size (fun _ => True) (YPair (fun i => some (.int (i : Nat))) (fun i => (z.cps[i]?).map fun c => V.str ⟨#[c]⟩)) := by
  refine ⟨fun i _ hi q => hi, fun _ q => Nat.le_refl _, fun i H v H' _ q y => ?_⟩
  obtain ⟨T, c, h1, h2, h3, h4⟩ := y
  exact ⟨T, .int (i : Nat), .str ⟨#[c]⟩, h1, h2, h3, rfl, by show (z.cps[i]?).map _ = _; rw [h4]; rfl⟩
/-! ### what is wrong with a value as a line -/
def abcS (L : Int) : Str := cutS "abc" none (some L)
def inL (L : Int) (c : Nat) : Bool := decide (c ∈ (abcS L).cps.toList)
def wordD (L most : Int) (d : PyData) : Bool := match d with
  | .str z => decide ((z.length : Int) ≤ most) && z.cps.toList.all (inL L)
  | _ => false
def slen (d : PyData) : Nat := match d with
  | .str z => z.length
  | _ => 0
def letD (L : Int) (d : PyData) : Bool := wordD L 1 d && decide (slen d = 1)
def tupAll (n : Int) (f : PyData → Bool) (d : PyData) : Bool := match d with
  | .tuple xs => decide ((xs.length : Int) = n) && xs.all f
  | _ => false
def unitD (L : Int) (d : PyData) : Bool := tupAll L (fun x => numD x 0 9) d
def rowsD (L : Int) (rs : List PyData) : Bool := rs.all (tupAll L (fun x => numD x 0 ((rs.length : Int) - 1)))
def turnD (L : Int) (d : PyData) : Bool := match d with
  | .tuple rs => (decide (1 ≤ rs.length) && decide (rs.length ≤ 4)) && rowsD L rs
  | _ => false
def tlen (d : PyData) : Nat := match d with
  | .tuple rs => rs.length
  | _ => 0
def putD (L n : Int) (d : PyData) : Bool := tupAll n (tupAll L (letD L)) d
def pairD (L : Int) (p : PyData) : Bool := match p with
  | .tuple [x, y] => (wordD L 2 x && wordD L 2 y) && decide (slen x = slen y)
  | _ => false
def pcs (p : PyData) : List Str := match p with
  | .tuple [.str x, .str y] => [x, y]
  | _ => []
def nodupS (xs : List Str) : Bool := decide ((dd xs).length = xs.length)
def swapD (L : Int) (d : PyData) : Bool := match d with
  | .tuple ps => ((decide (1 ≤ ps.length) && decide (ps.length ≤ 4)) && ps.all (pairD L)) && nodupS (ps.flatMap pcs)
  | _ => false
def stepL (L : Int) (x : PyData) (r : List PyData) : Bool :=
  if strIs x "cut" = true then (match r with | [u, m] => unitD L u && numD m 0 30 | _ => false)
  else if strIs x "stop" = true then (match r with | [s] => letD L s | _ => false)
  else if strIs x "pass" = true then (match r with | [a, b] => turnD L a && putD L (tlen a) b | _ => false)
  else if strIs x "swap" = true then (match r with | [p] => swapD L p | _ => false)
  else false
def stepD (L : Int) (d : PyData) : Bool := match d with
  | .tuple (x :: y :: r) => stepL L x (y :: r)
  | _ => false
def errE : Option (Option Nat × Str) → PyData
  | none => .none
  | some (none, s) => .tuple [.none, .str s]
  | some (some k, s) => .tuple [.int k, .str s]
def firstBad (L : Int) : List PyData → Nat → Option Nat
  | [], _ => none
  | d :: ds, k => if stepD L d = true then firstBad L ds (k + 1) else some k
def lineE (L : Int) (d : PyData) : Option (Option Nat × Str) := match d with
  | .tuple ds => match firstBad L ds 0 with
    | some k => some (some k, "step")
    | none => if ds.length ≤ 3 then none else some (none, "many")
  | _ => some (none, "line")
theorem walk_enumT {K : PySem.W.Frag} {a : Addr} {xs : List V} : Walk (ItT K a) xs.length (fun H => SqT K H a xs) (YPair (fun i => some (.int (i : Nat))) (fun i => xs[i]?)) := by
  refine ⟨fun i _ hi q => ⟨xs, xs[i], q, List.getElem?_eq_getElem hi⟩, fun _ q => ⟨xs, q, Nat.le_refl _⟩, fun i H v H' _ q y => ?_⟩
  obtain ⟨T, x, h1, h2, h3, h4⟩ := y
  exact ⟨T, .int (i : Nat), x, h1, h2, h3, rfl, h4 xs q⟩
def BInv {α : Type} (f : α → Bool) (ds : List α) (H : Hp) (D : Addr) (i : Nat) (H' : Hp) : Prop := Same H H' ∧ H' D = some (.lst ((ds.take i).map fun d => V.bl (f d)))
theorem bturn {B : Addr → Prop} {K : PySem.W.Frag} {H H' : Hp} {D : Addr} {xs : List V} {ds : List PyData} {f : PyData → Bool} {i : Nat} {y : V} (ha : DtAll B K H xs ds) (hz : ds.length < sizeLine) (hD : H D = none) (hy : xs[i]? = some y) (p : BInv f ds H D i H') :
    ∃ d, d ∈ ds ∧ Dt B K H' y d ∧ ∀ H'', Same H' H'' → ∀ b, b = f d → ∃ acc, H'' D = some (.lst acc) ∧ acc.length < sizeLine ∧ BInv f ds H D (i + 1) (upd H'' D (.lst (acc ++ [V.bl b]))) := by
  obtain ⟨sm, hD'⟩ := p
  obtain ⟨d, hd1, hd2⟩ := ha.getV hy
  refine ⟨d, List.mem_of_getElem? hd1, same_dt sm hd2, fun H'' s2 b eb => ⟨_, s2 _ _ hD', ?_, fun p o z => ?_, ?_⟩⟩
  · rw [List.length_map, List.length_take]
    omega
  · rw [upd_ne (ne_of_none z hD)]
    exact s2 _ _ (sm _ _ z)
  · rw [upd_same, List.take_add_one, hd1, List.map_append, eb]
    rfl
theorem bend {α : Type} {K : PySem.W.Frag} {H H' : Hp} {D : Addr} {n : Nat} {ds : List α} {f : α → Bool} (e : n = ds.length) (p : BInv f ds H D n H') : Same H H' ∧ SqL K H' D ((ds.map f).map V.bl) := by
  obtain ⟨sm, hD'⟩ := p
  rw [e, List.take_length] at hD'
  refine ⟨sm, SqL.of ?_⟩
  rw [hD', List.map_map]
  rfl
def rLen (K : PySem.W.Frag) : List V → Hp → VK → Prop := fun xs H Q => ∃ p ys, xs = [.ref p] ∧ (SqL K H p ys ∨ SqT K H p ys) ∧ Q (.int ys.length) H
theorem three_of {ds : List PyData} (h : ds.length = 3) : ∃ l r e, ds = [l, r, e] := by
  match ds, h with
  | [l, r, e], _ => exact ⟨l, r, e, rfl⟩
theorem dt_three {B : Addr → Prop} {K : PySem.W.Frag} {H : Hp} {xs : List V} {l r e : PyData} (h : DtAll B K H xs [l, r, e]) : ∃ vl vr ve, xs = [vl, vr, ve] ∧ Dt B K H vl l ∧ Dt B K H vr r ∧ Dt B K H ve e := by
  cases h with
  | cons h1 h =>
    cases h with
    | cons h2 h =>
      cases h with
      | cons h3 h =>
        cases h
        exact ⟨_, _, _, rfl, h1, h2, h3⟩
/-- what a comprehension holds that picks the items that fail -/
def FInv {α : Type} (f : α → Bool) (ds : List α) (H : Hp) (D : Addr) (i : Nat) (H' : Hp) : Prop :=
  Same H H' ∧ ∃ acc : List V, H' D = some (.lst acc) ∧ acc.length ≤ i ∧ (acc = [] ↔ (ds.take i).all f = true)
theorem fstart {α : Type} {f : α → Bool} {ds : List α} {H : Hp} {D : Addr} (hD : H D = none) : FInv f ds H D 0 (upd H D (.lst [])) :=
  ⟨same_new hD, [], upd_same, Nat.le_refl _, by simp⟩
theorem fturn {B : Addr → Prop} {K : PySem.W.Frag} {H H' : Hp} {D : Addr} {xs : List V} {ds : List PyData} {f : PyData → Bool} {i : Nat} {y : V} (ha : DtAll B K H xs ds) (hz : ds.length < sizeLine) (hD : H D = none) (hy : xs[i]? = some y) (p : FInv f ds H D i H') :
    ∃ d, d ∈ ds ∧ Dt B K H' y d ∧ (∀ H'', Same H' H'' → f d = true → FInv f ds H D (i + 1) H'') ∧
      ∀ H'', Same H' H'' → f d = false → ∃ acc, H'' D = some (.lst acc) ∧ acc.length < sizeLine ∧ FInv f ds H D (i + 1) (upd H'' D (.lst (acc ++ [y]))) := by
  obtain ⟨sm, acc, hD', hl, hi⟩ := p
  obtain ⟨d, hd1, hd2⟩ := ha.getV hy
  have hlt := (List.getElem?_eq_some_iff.mp hd1).1
  have ht : (ds.take (i + 1)).all f = ((ds.take i).all f && f d) := by
    rw [List.take_add_one, hd1, List.all_append]
    simp
  refine ⟨d, List.mem_of_getElem? hd1, same_dt sm hd2, fun H'' s2 fd => ⟨fun b o z => s2 b o (sm b o z), acc, s2 _ _ hD', by omega, ?_⟩, fun H'' s2 fd => ⟨acc, s2 _ _ hD', by omega, fun b o z => ?_, _, upd_same, ?_, ?_⟩⟩
  · rw [ht, fd, Bool.and_true]
    exact hi
  · rw [upd_ne (ne_of_none z hD)]
    exact s2 _ _ (sm _ _ z)
  · rw [List.length_append, List.length_singleton]
    omega
  · rw [ht, fd, Bool.and_false]
    exact ⟨fun z => absurd z (by simp), fun z => absurd z Bool.false_ne_true⟩
theorem fend {α : Type} {K : PySem.W.Frag} {H H' : Hp} {D : Addr} {n : Nat} {ds : List α} {f : α → Bool} (e : n = ds.length) (p : FInv f ds H D n H') : Same H H' ∧ ∃ acc, SqL K H' D acc ∧ decide (acc = []) = ds.all f := by
  obtain ⟨sm, acc, hD', hl, hi⟩ := p
  rw [e, List.take_length] at hi
  refine ⟨sm, acc, SqL.of hD', ?_⟩
  cases z : ds.all f
  · exact decide_eq_false (fun q => by rw [hi.mp q] at z; cases z)
  · exact decide_eq_true (hi.mpr z)
theorem not_cases {b : Bool} (h : (!b) = true) : b = false := by
  cases b
  · rfl
  · cases h
theorem not_cases' {b : Bool} (h : ¬ (!b) = true) : b = true := by
  cases b
  · exact absurd rfl h
  · rfl
section
variable {P : Program} {w : World} {K : PySem.W.Frag} {mg : Str → Option Value} {base : Heap}
theorem all_take' {α : Type} {f : α → Bool} {ds : List α} : ((ds.map f).all id) = ds.all f := by
  rw [List.all_map]
  rfl
def spWord (K : PySem.W.Frag) : Sp := fun vs H Q _ => ∃ (B : Addr → Prop) (x : V) (d : PyData) (L m : Int), vs = [x, .int L, .int m] ∧ Dt B K H x d ∧ nodes d ≤ 100000 ∧ 1 ≤ L ∧ L ≤ 3 ∧ ∀ H', Same H H' → Q (.bl (wordD L m d)) H'
theorem scWord : FnScope ["value", "letters", "most", "sign"] ["value", "letters", "most"] (defScope sWord) := ⟨rfl, rfl, rfl, by decide +kernel, rfl, by decide +kernel, by decide +kernel⟩
theorem ok_word {f : Addr} {fd : FuncData} (F : Fun K "is_word" "is_word" sWord f fd) (T : Mg mg) : FnOk P w K mg base CX0 1 f fd ["value", "letters", "most"] (spWord K) := by
  refine F.ok scWord (fun vs H Q E h => ?_) (fun cdv A outer s H vs Q E hr h => ?_)
  · obtain ⟨B, x, d, L, m, rfl, _⟩ := h
    rfl
  · obtain ⟨B, x, d, L, m, rfl, hd, hn, L1, L3, k⟩ := h
    obtain ⟨tt, le⟩ := T.le
    refine ⟨_, pss_cons (ps_if (PW.pt (pw_or (pt_not (pt_val (pe_callB call_isi (by rfl) T.isi PyProof.Rows.boot_isinstance (pa_cons (pv 0) (pa_cons (pe_bltn (v := .ty "str") (by rfl) T.str (by decide +kernel) rfl) pa_nil)))))
        (pw_or1 (pt_cmpR op_gt (pe_callB call_len_str (by rfl) T.len PySem.boot_len (pa_cons (pv 0) pa_nil)) (pv 2) (nomark _)))))
      (pss_one (ps_ret pe_bl)) pss_nil)
      (pss_one (ps_ret (pe_callB (cr_all rfl) (by rfl) T.all (by decide +kernel) (pa_cons (pe_lc (own := [("sign", 3)]) (g := gName 3) (tt := tYes) rfl scWord.nd (pi_str (pv 0)) (blkOk_by (N := ["value", "letters", "most", "sign"]) (sc := defScope sWord) (by decide +kernel)) (fun _ _ _ _ _ => pg_name (i := 3) scWord.nd rfl (Or.inl rfl)) (fun _ _ _ _ _ => pts_nil)
        (fun _ _ _ _ _ => pe_cmpR op_in_sign (pv 3) (pe_slice sl_str (pe_glob (v := .str "abc") (by rfl) le ⟨_, rfl⟩) po_none (po_some (pv 1))) (by rfl))) pa_nil)))), ?_⟩
    refine ⟨x, rfl, x, .ty "str", _, _, _, rfl, .ty _, tyD hd, kitS d, _, rfl, ?_⟩
    cases d with
    | none => exact k H (Same.refl H)
    | bool _ => exact k H (Same.refl H)
    | int _ => exact k H (Same.refl H)
    | tuple _ => exact k H (Same.refl H)
    | list _ => exact k H (Same.refl H)
    | dict _ => exact k H (Same.refl H)
    | str z =>
      cases hd
      have hz : z.length ≤ 100000 := by
        rw [nodes] at hn
        omega
      refine ⟨_, rfl, z, rfl, sz_of hz, _, rfl, _, _, rfl, rfl, _, rfl, ite2 (fun h1 => ?_) (fun h1 => ?_)⟩
      · have e : wordD L m (.str z) = false := by
          have := of_decide_eq_true h1
          show (decide ((z.length : Int) ≤ m) && _) = false
          rw [decide_eq_false (by omega)]
          rfl
        rw [e] at k
        exact k H (Same.refl H)
      · have e : wordD L m (.str z) = z.cps.toList.all (inL L) := by
          have : ¬ (m < (z.length : Int)) := fun q => h1 (decide_eq_true q)
          show (decide ((z.length : Int) ≤ m) && _) = _
          rw [decide_eq_true (by omega)]
          rfl
        rw [e] at k
        refine ⟨_, rfl, z, rfl, fun D hD => ?_⟩
        refine lc_it walk_str (BInv (inL L) z.cps.toList H D) ⟨same_new hD, upd_same⟩ (fun _ _ _ _ => True.intro) ?_ ?_
        · rintro i x H1 H2 hi p ⟨rfl, c, hc, rfl⟩
          obtain ⟨sm, hD'⟩ := p
          have e1 : z.cps.toList[i]? = some c := by
            rw [Array.getElem?_toList]
            exact hc
          refine ⟨rfl, _, rfl, _, rfl, L, rfl, "abc", rfl, by show 3 ≤ sizeLine; decide, c, abcS L, rfl, rfl, _, hD', ?_, fun b o q => ?_, ?_⟩
          · rw [List.length_map, List.length_take]
            exact Nat.lt_of_le_of_lt (show _ ≤ 100000 from Nat.le_trans (Nat.min_le_right _ _) (by rw [Array.length_toList]; exact hz)) (by decide)
          · rw [upd_ne (ne_of_none q hD)]
            exact sm _ _ q
          · rw [upd_same, List.take_add_one, e1, List.map_append]
            rfl
        · rintro H1 p
          obtain ⟨sm, hS⟩ := bend (K := K) (Array.length_toList).symm p
          refine ⟨D, _, rfl, hS, ?_⟩
          rw [all_take']
          exact k H1 sm
end
section
variable {P : Program} {w : World} {K : PySem.W.Frag} {mg : Str → Option Value} {base : Heap}
theorem tupAll_no {n : Int} {f : PyData → Bool} {xs : List PyData} (h : ¬ ((xs.length : Int) = n)) : tupAll n f (.tuple xs) = false := by
  show (decide ((xs.length : Int) = n) && xs.all f) = false
  rw [decide_eq_false h]
  rfl
theorem tupAll_yes {n : Int} {f : PyData → Bool} {xs : List PyData} (h : (xs.length : Int) = n) : tupAll n f (.tuple xs) = xs.all f := by
  show (decide ((xs.length : Int) = n) && xs.all f) = _
  rw [decide_eq_true h]
  rfl
theorem ne_int {n m : Int} (h : (!decide (V.int n = V.int m)) = true) : ¬ n = m := fun e => by
  rw [e, decide_eq_true rfl] at h
  cases h
theorem ne_int' {n m : Int} (h : ¬ (!decide (V.int n = V.int m)) = true) : n = m := by
  by_cases e : n = m
  · exact e
  · exfalso
    apply h
    rw [decide_eq_false fun q => e (V.int.inj q)]
    rfl
def spUnit (K : PySem.W.Frag) : Sp := fun vs H Q _ => ∃ (B : Addr → Prop) (x : V) (d : PyData) (L : Int), vs = [x, .int L] ∧ Dt B K H x d ∧ nodes d ≤ 100000 ∧ ∀ H', Same H H' → Q (.bl (unitD L d)) H'
theorem scUnit : FnScope ["value", "letters", "part"] ["value", "letters"] (defScope sUnit) := ⟨rfl, rfl, rfl, by decide +kernel, rfl, by decide +kernel, by decide +kernel⟩
theorem ok_unit {f fN : Addr} {fd fdN : FuncData} (F : Fun K "is_unit" "is_unit" sUnit f fd) (N : FnOk P w K mg base CX0 2 fN fdN ["value", "least", "most"] (spNum K)) (FN : Fun K "is_number" "is_number" sNumber fN fdN) (bN : Binds K fdN ["value", "least", "most"] []) (gN : mg "is_number" = some (.ref fN)) (T : Mg mg) :
    FnOk P w K mg base CX0 3 f fd ["value", "letters"] (spUnit K) := by
  refine F.ok scUnit (fun vs H Q E h => ?_) (fun cdv A outer s H vs Q E hr h => ?_)
  · obtain ⟨B, x, d, L, rfl, _⟩ := h
    rfl
  · obtain ⟨B, x, d, L, rfl, hd, hn, k⟩ := h
    obtain ⟨tt, mc⟩ := T.mcount
    refine ⟨_, pss_cons (ps_if (PW.pt (pw_or (pt_not (pt_val (pe_callB call_isi (by rfl) T.isi PyProof.Rows.boot_isinstance (pa_cons (pv 0) (pa_cons (pe_bltn (v := .ty "tuple") (by rfl) T.tuple PyProof.Rows.boot_tuple rfl) pa_nil)))))
        (pw_or1 (pt_cmpR op_ne (pe_callB call_len_seq (by rfl) T.len PySem.boot_len (pa_cons (pv 0) pa_nil)) (pv 1) (nomark _)))))
      (pss_one (ps_ret pe_bl)) pss_nil)
      (pss_one (ps_ret (pe_callB (cr_all rfl) (by rfl) T.all (by decide +kernel) (pa_cons (pe_lc (own := [("part", 2)]) (g := gName 2) (tt := tYes) rfl scUnit.nd (pi_tup (pv 0)) (blkOk_by (N := ["value", "letters", "part"]) (sc := defScope sUnit) (by decide +kernel)) (fun _ _ _ _ _ => pg_name (i := 2) scUnit.nd rfl (Or.inl rfl)) (fun _ _ _ _ _ => pts_nil)
        (fun _ _ _ _ _ => pe_call N hr (by rfl) gN FN.kp bN .nil pass0 (pa_cons (pv 2) (pa_cons pe_int (pa_cons (pe_glob (v := .int 9) (by rfl) mc ⟨_, rfl⟩) pa_nil))))) pa_nil)))), ?_⟩
    refine ⟨x, rfl, x, .ty "tuple", _, _, _, rfl, .ty _, tyD hd, kitT d, _, rfl, ?_⟩
    cases d with
    | none => exact k H (Same.refl H)
    | bool _ => exact k H (Same.refl H)
    | int _ => exact k H (Same.refl H)
    | str _ => exact k H (Same.refl H)
    | list _ => exact k H (Same.refl H)
    | dict _ => exact k H (Same.refl H)
    | tuple ds =>
      obtain ⟨a, xs, rfl, nb, hs, ha, hl⟩ := hd.tup_ref
      have hz : ds.length < sizeLine := by
        have := len_nodes ds
        rw [nodes_tup] at hn
        exact Nat.lt_of_le_of_lt (show _ ≤ 100000 by omega) (by decide)
      unfold unitD at k
      refine ⟨.ref a, rfl, a, xs, rfl, .inr hs, _, rfl, rfl, _, rfl, ite2 (fun h1 => ?_) (fun h1 => ?_)⟩
      · rw [tupAll_no (by rw [← hl]; exact ne_int h1)] at k
        exact k H (Same.refl H)
      · rw [tupAll_yes (by rw [← hl]; exact ne_int' h1)] at k
        refine ⟨.ref a, rfl, a, rfl, ⟨xs, hs⟩, fun D hD => ?_⟩
        refine lc_tup (K := K) (a := a) (xs := xs) (BInv (fun x => numD x 0 9) ds H D) ⟨same_new hD, upd_same⟩ (fun i H' _ q => same_seqT q.1 hs) ?_ ?_
        · rintro i y H' hy p
          obtain ⟨d, hm, hd', fin⟩ := bturn ha hz hD hy p
          exact ⟨rfl, y, rfl, B, y, d, 0, 9, rfl, hd', fin H' (Same.refl H') _ rfl⟩
        · rintro H' p
          obtain ⟨sm, hS⟩ := bend (K := K) hl p
          refine ⟨D, _, rfl, hS, ?_⟩
          rw [all_take']
          exact k H' sm
def spLet (K : PySem.W.Frag) : Sp := fun vs H Q _ => ∃ (B : Addr → Prop) (x : V) (d : PyData) (L : Int), vs = [x, .int L] ∧ Dt B K H x d ∧ nodes d ≤ 100000 ∧ 1 ≤ L ∧ L ≤ 3 ∧ ∀ H', Same H H' → Q (.bl (letD L d)) H'
theorem scLetter : FnScope ["value", "letters"] ["value", "letters"] (defScope sLetter) := ⟨rfl, rfl, rfl, by decide +kernel, rfl, by decide +kernel, by decide +kernel⟩
theorem ok_letter {f fW : Addr} {fd fdW : FuncData} (F : Fun K "is_letter" "is_letter" sLetter f fd) (W : FnOk P w K mg base CX0 1 fW fdW ["value", "letters", "most"] (spWord K)) (FW : Fun K "is_word" "is_word" sWord fW fdW) (bW : Binds K fdW ["value", "letters", "most"] []) (gW : mg "is_word" = some (.ref fW)) (T : Mg mg) :
    FnOk P w K mg base CX0 2 f fd ["value", "letters"] (spLet K) := by
  refine F.ok scLetter (fun vs H Q E h => ?_) (fun cdv A outer s H vs Q E hr h => ?_)
  · obtain ⟨B, x, d, L, rfl, _⟩ := h
    rfl
  · obtain ⟨B, x, d, L, rfl, hd, hn, L1, L3, k⟩ := h
    refine ⟨_, pss_one (ps_ret (pe_and (pe_call W hr (by rfl) gW FW.kp bW .nil pass0 (pa_cons (pv 0) (pa_cons (pv 1) (pa_cons pe_int pa_nil)))) (pe_one (pe_cmpR op_eq (pe_callB call_len_str (by rfl) T.len PySem.boot_len (pa_cons (pv 0) pa_nil)) pe_int (nomark _))))), ?_⟩
    refine ⟨x, rfl, _, rfl, B, x, d, L, 1, rfl, hd, hn, L1, L3, fun H1 s1 => ⟨_, rfl, ite2 (fun h1 => ?_) (fun h1 => ?_)⟩⟩
    · have e : letD L d = decide (slen d = 1) := by
        unfold letD
        rw [h1]
        rfl
      rw [e] at k
      cases d with
      | str z =>
        cases hd
        rw [nodes] at hn
        refine ⟨_, rfl, z, rfl, sz_of (by omega), rfl, ?_⟩
        have e2 : decide (V.int (z.length : Int) = V.int 1) = decide (slen (.str z) = 1) := by
          show _ = decide (z.length = 1)
          by_cases q : z.length = 1
          · rw [decide_eq_true q, decide_eq_true (by rw [q]; rfl)]
          · rw [decide_eq_false q, decide_eq_false fun y => q (by have := V.int.inj y; omega)]
        rw [e2]
        exact k H1 s1
      | _ => cases h1
    · have e : letD L d = false := by
        unfold letD
        rw [Bool.eq_false_iff.mpr h1]
        rfl
      rw [e] at k
      exact k H1 s1
end
theorem all_no {α : Type} {f : α → Bool} {ds : List α} {i : Nat} {d : α} (h : ds[i]? = some d) (hf : f d = false) : ds.all f = false := by
  cases e : ds.all f
  · rfl
  · rw [List.all_eq_true.mp e d (List.mem_of_getElem? h)] at hf
    cases hf
theorem all_up {α : Type} {f : α → Bool} {ds : List α} {i : Nat} {d : α} (h : ds[i]? = some d) (hf : f d = true) (ha : (ds.take i).all f = true) : (ds.take (i + 1)).all f = true := by
  rw [List.take_add_one, h, List.all_append, ha]
  simp [hf]
section
variable {P : Program} {w : World} {K : PySem.W.Frag} {mg : Str → Option Value} {base : Heap}
theorem scTurning : FnScope ["value", "letters", "row", "turn"] ["value", "letters"] (defScope sTurning) := ⟨rfl, rfl, rfl, by decide +kernel, rfl, by decide +kernel, by decide +kernel⟩
def spTurn (K : PySem.W.Frag) : Sp := fun vs H Q _ => ∃ (B : Addr → Prop) (x : V) (d : PyData) (L : Int), vs = [x, .int L] ∧ Dt B K H x d ∧ nodes d ≤ 100000 ∧ ∀ H', Same H H' → Q (.bl (turnD L d)) H'
theorem ok_turning {f fN : Addr} {fd fdN : FuncData} (F : Fun K "is_turning" "is_turning" sTurning f fd) (N : FnOk P w K mg base CX0 2 fN fdN ["value", "least", "most"] (spNum K)) (FN : Fun K "is_number" "is_number" sNumber fN fdN) (bN : Binds K fdN ["value", "least", "most"] []) (gN : mg "is_number" = some (.ref fN)) (T : Mg mg) :
    FnOk P w K mg base CX0 3 f fd ["value", "letters"] (spTurn K) := by
  refine F.ok scTurning (fun vs H Q E h => ?_) (fun cdv A outer s H vs Q E hr h => ?_)
  · obtain ⟨B, x, d, L, rfl, _⟩ := h
    rfl
  · obtain ⟨B, x, d, L, rfl, hd, hn, k⟩ := h
    obtain ⟨tt, mc⟩ := T.mpass
    refine ⟨_, pss_cons (ps_if (PW.pt (pw_or (pt_not (pt_val (pe_callB call_isi (by rfl) T.isi PyProof.Rows.boot_isinstance (pa_cons (pv 0) (pa_cons (pe_bltn (v := .ty "tuple") (by rfl) T.tuple PyProof.Rows.boot_tuple rfl) pa_nil)))))
        (pw_or1 (pt_not (pt_chain op_le op_le pe_int (pe_callB call_len_seq (by rfl) T.len PySem.boot_len (pa_cons (pv 0) pa_nil)) (pe_glob (v := .int 4) (by rfl) mc ⟨_, rfl⟩))))))
      (pss_one (ps_ret pe_bl)) pss_nil)
      (pss_cons (ps_for PassesOwn.never rfl (pi_tup (pv 0)) (pg_name (i := 2) scTurning.nd rfl (.inl rfl))
        (pss_cons (ps_if (PW.pt (pw_or (pt_not (pt_val (pe_callB call_isi (by rfl) T.isi PyProof.Rows.boot_isinstance (pa_cons (pv 2) (pa_cons (pe_bltn (v := .ty "tuple") (by rfl) T.tuple PyProof.Rows.boot_tuple rfl) pa_nil)))))
          (pw_or1 (pt_cmpR op_ne (pe_callB call_len_seq (by rfl) T.len PySem.boot_len (pa_cons (pv 2) pa_nil)) (pv 1) (nomark _))))) (pss_one (ps_ret pe_bl)) pss_nil)
        (pss_one (ps_if (pt_not (pt_val (pe_callB (cr_all rfl) (by rfl) T.all (by decide +kernel) (pa_cons (pe_lc (own := [("turn", 3)]) (g := gName 3) (tt := tYes) rfl scTurning.nd (pi_tup (pv 2)) (blkOk_by (N := ["value", "letters", "row", "turn"]) (sc := defScope sTurning) (by decide +kernel)) (fun _ _ _ _ _ => pg_name (i := 3) scTurning.nd rfl (Or.inl rfl)) (fun _ _ _ _ _ => pts_nil)
          (fun _ _ _ _ _ => pe_call N hr (by rfl) gN FN.kp bN .nil pass0 (pa_cons (pv 3) (pa_cons pe_int (pa_cons (pe_op op_sub (pe_callB (r := rLen K) call_len_seq (by rfl) T.len PySem.boot_len (pa_cons (pv 0) pa_nil)) pe_int) pa_nil))))) pa_nil)))) (pss_one (ps_ret pe_bl)) pss_nil))))
      (pss_one (ps_ret pe_bl))), ?_⟩
    refine ⟨x, rfl, x, .ty "tuple", _, _, _, rfl, .ty _, tyD hd, kitT d, _, rfl, ?_⟩
    cases d with
    | none => exact k H (Same.refl H)
    | bool _ => exact k H (Same.refl H)
    | int _ => exact k H (Same.refl H)
    | str _ => exact k H (Same.refl H)
    | list _ => exact k H (Same.refl H)
    | dict _ => exact k H (Same.refl H)
    | tuple ds =>
      obtain ⟨a, xs, rfl, nb, hs, ha, hl⟩ := hd.tup_ref
      have hk : turnD L (.tuple ds) = ((decide (1 ≤ ds.length) && decide (ds.length ≤ 4)) && rowsD L ds) := rfl
      rw [hk] at k
      rw [nodes_tup] at hn
      refine ⟨.ref a, rfl, a, xs, rfl, .inr hs, 1, _, rfl, rfl, _, rfl, ite2 (fun h5 => ?_) (fun h5 => ?_)⟩
      rotate_left
      · have e : decide (1 ≤ ds.length) = false := decide_eq_false fun q => h5 (decide_eq_true (by omega))
        rw [e] at k
        exact ⟨_, rfl, k H (Same.refl H)⟩
      · have h5 := of_decide_eq_true h5
        rw [decide_eq_true (by omega : 1 ≤ ds.length), Bool.true_and] at k
        refine ⟨_, 4, rfl, rfl, _, rfl, ite2 (fun h6 => ?_) (fun h6 => ?_)⟩
        · have e : decide (ds.length ≤ 4) = false := decide_eq_false fun q => by
            rw [decide_eq_true (by omega : (xs.length : Int) ≤ 4)] at h6
            cases h6
          rw [e] at k
          exact k H (Same.refl H)
        · have h7 : (xs.length : Int) ≤ 4 := by
            cases z : decide ((xs.length : Int) ≤ 4)
            · rw [z] at h6
              exact absurd rfl h6
            · exact of_decide_eq_true z
          rw [decide_eq_true (by omega : ds.length ≤ 4), Bool.true_and] at k
          refine ⟨.ref a, rfl, a, rfl, ⟨xs, hs⟩, ?_⟩
          refine for_tup (K := K) (a := a) (xs := xs) (fun i σ H' => (∃ z2, σ = [some (V.ref a), some (V.int L), z2, none]) ∧ Same H H' ∧ (ds.take i).all (tupAll L fun x => numD x 0 ((ds.length : Int) - 1)) = true) ⟨⟨none, rfl⟩, Same.refl H, rfl⟩ (fun i σ H' _ q => same_seqT q.2.1 hs) ?_ ?_
          · rintro i y σ H1 hy ⟨⟨z2, rfl⟩, sm, hall⟩
            obtain ⟨d, hdi, hd1⟩ := ha.getV hy
            have hd2 := same_dt sm hd1
            have bad : ∀ H2, Same H1 H2 → tupAll L (fun x => numD x 0 ((ds.length : Int) - 1)) d = false → Q (.bl false) H2 := fun H2 s2 e => by
              have e2 : rowsD L ds = false := all_no hdi e
              rw [e2] at k
              exact k H2 (sm.trans s2)
            refine ⟨y, rfl, y, .ty "tuple", _, _, _, rfl, .ty _, tyD hd2, kitT d, _, rfl, ?_⟩
            cases d with
            | none => exact bad H1 (Same.refl H1) rfl
            | bool _ => exact bad H1 (Same.refl H1) rfl
            | int _ => exact bad H1 (Same.refl H1) rfl
            | str _ => exact bad H1 (Same.refl H1) rfl
            | list _ => exact bad H1 (Same.refl H1) rfl
            | dict _ => exact bad H1 (Same.refl H1) rfl
            | tuple es =>
              obtain ⟨b, ys, rfl, nb2, hs2, ha2, hl2⟩ := hd2.tup_ref
              have hz : es.length < sizeLine := by
                have q1 := len_nodes es
                have q2 := mem_nodes (List.mem_of_getElem? hdi)
                rw [nodes_tup] at q2
                exact Nat.lt_of_le_of_lt (show _ ≤ 100000 by omega) (by decide)
              refine ⟨.ref b, rfl, b, ys, rfl, .inr hs2, _, rfl, rfl, _, rfl, ite2 (fun h1 => ?_) (fun h1 => ?_)⟩
              · exact bad H1 (Same.refl H1) (tupAll_no (by rw [← hl2]; exact ne_int h1))
              · have e3 : tupAll L (fun x => numD x 0 ((ds.length : Int) - 1)) (.tuple es) = es.all (fun x => numD x 0 ((ds.length : Int) - 1)) := tupAll_yes (by rw [← hl2]; exact ne_int' h1)
                refine ⟨.ref b, rfl, b, rfl, ⟨ys, hs2⟩, fun D hD => ?_⟩
                refine lc_tup (K := K) (a := b) (xs := ys) (BInv (fun x => numD x 0 ((ds.length : Int) - 1)) es H1 D) ⟨same_new hD, upd_same⟩ (fun i H' _ q => same_seqT q.1 hs2) ?_ ?_
                · rintro i2 y2 H' hy2 p
                  obtain ⟨d, hm, hd', fin⟩ := bturn ha2 hz hD hy2 p
                  exact ⟨rfl, y2, rfl, .ref a, rfl, a, xs, rfl, .inr (same_seqT (sm.trans p.1) hs), _, 1, rfl, rfl, B, y2, d, 0, (ds.length : Int) - 1, (by rw [hl]; rfl), hd', fin H' (Same.refl H') _ rfl⟩
                · rintro H' p
                  obtain ⟨sm2, hS⟩ := bend (K := K) hl2 p
                  refine ⟨D, _, rfl, hS, _, rfl, ?_⟩
                  rw [all_take', ← e3]
                  refine ite2 (fun h2 => ?_) (fun h2 => ?_)
                  · exact bad H' sm2 (not_cases h2)
                  · exact ⟨⟨_, rfl⟩, sm.trans sm2, all_up hdi (not_cases' h2) hall⟩
          · rintro σ H1 ⟨⟨z2, rfl⟩, sm, hall⟩
            rw [hl, List.take_length] at hall
            have e2 : rowsD L ds = true := hall
            rw [e2] at k
            exact k H1 sm
end
section
variable {P : Program} {w : World} {K : PySem.W.Frag} {mg : Str → Option Value} {base : Heap}
theorem scPutting : FnScope ["value", "letters", "turns", "row", "sign"] ["value", "letters", "turns"] (defScope sPutting) := ⟨rfl, rfl, rfl, by decide +kernel, rfl, by decide +kernel, by decide +kernel⟩
def spPut (K : PySem.W.Frag) : Sp := fun vs H Q _ => ∃ (B : Addr → Prop) (x : V) (d : PyData) (L n : Int), vs = [x, .int L, .int n] ∧ Dt B K H x d ∧ nodes d ≤ 100000 ∧ 1 ≤ L ∧ L ≤ 3 ∧ ∀ H', Same H H' → Q (.bl (putD L n d)) H'
theorem ok_putting {f fN : Addr} {fd fdN : FuncData} (F : Fun K "is_putting" "is_putting" sPutting f fd) (N : FnOk P w K mg base CX0 2 fN fdN ["value", "letters"] (spLet K)) (FN : Fun K "is_letter" "is_letter" sLetter fN fdN) (bN : Binds K fdN ["value", "letters"] []) (gN : mg "is_letter" = some (.ref fN)) (T : Mg mg) :
    FnOk P w K mg base CX0 3 f fd ["value", "letters", "turns"] (spPut K) := by
  refine F.ok scPutting (fun vs H Q E h => ?_) (fun cdv A outer s H vs Q E hr h => ?_)
  · obtain ⟨B, x, d, L, n, rfl, _⟩ := h
    rfl
  · obtain ⟨B, x, d, L, n, rfl, hd, hn, L1, L3, k⟩ := h
    refine ⟨_, pss_cons (ps_if (PW.pt (pw_or (pt_not (pt_val (pe_callB call_isi (by rfl) T.isi PyProof.Rows.boot_isinstance (pa_cons (pv 0) (pa_cons (pe_bltn (v := .ty "tuple") (by rfl) T.tuple PyProof.Rows.boot_tuple rfl) pa_nil)))))
        (pw_or1 (pt_cmpR op_ne (pe_callB call_len_seq (by rfl) T.len PySem.boot_len (pa_cons (pv 0) pa_nil)) (pv 2) (nomark _)))))
      (pss_one (ps_ret pe_bl)) pss_nil)
      (pss_cons (ps_for PassesOwn.never rfl (pi_tup (pv 0)) (pg_name (i := 3) scPutting.nd rfl (.inl rfl))
        (pss_cons (ps_if (PW.pt (pw_or (pt_not (pt_val (pe_callB call_isi (by rfl) T.isi PyProof.Rows.boot_isinstance (pa_cons (pv 3) (pa_cons (pe_bltn (v := .ty "tuple") (by rfl) T.tuple PyProof.Rows.boot_tuple rfl) pa_nil)))))
          (pw_or1 (pt_cmpR op_ne (pe_callB call_len_seq (by rfl) T.len PySem.boot_len (pa_cons (pv 3) pa_nil)) (pv 1) (nomark _))))) (pss_one (ps_ret pe_bl)) pss_nil)
        (pss_one (ps_if (pt_not (pt_val (pe_callB (cr_all rfl) (by rfl) T.all (by decide +kernel) (pa_cons (pe_lc (own := [("sign", 4)]) (g := gName 4) (tt := tYes) rfl scPutting.nd (pi_tup (pv 3)) (blkOk_by (N := ["value", "letters", "turns", "row", "sign"]) (sc := defScope sPutting) (by decide +kernel)) (fun _ _ _ _ _ => pg_name (i := 4) scPutting.nd rfl (Or.inl rfl)) (fun _ _ _ _ _ => pts_nil)
          (fun _ _ _ _ _ => pe_call N hr (by rfl) gN FN.kp bN .nil pass0 (pa_cons (pv 4) (pa_cons (pv 1) pa_nil)))) pa_nil)))) (pss_one (ps_ret pe_bl)) pss_nil))))
      (pss_one (ps_ret pe_bl))), ?_⟩
    refine ⟨x, rfl, x, .ty "tuple", _, _, _, rfl, .ty _, tyD hd, kitT d, _, rfl, ?_⟩
    cases d with
    | none => exact k H (Same.refl H)
    | bool _ => exact k H (Same.refl H)
    | int _ => exact k H (Same.refl H)
    | str _ => exact k H (Same.refl H)
    | list _ => exact k H (Same.refl H)
    | dict _ => exact k H (Same.refl H)
    | tuple ds =>
      obtain ⟨a, xs, rfl, nb, hs, ha, hl⟩ := hd.tup_ref
      rw [nodes_tup] at hn
      unfold putD at k
      refine ⟨.ref a, rfl, a, xs, rfl, .inr hs, _, rfl, rfl, _, rfl, ite2 (fun h5 => ?_) (fun h5 => ?_)⟩
      · rw [tupAll_no (by rw [← hl]; exact ne_int h5)] at k
        exact k H (Same.refl H)
      · rw [tupAll_yes (by rw [← hl]; exact ne_int' h5)] at k
        · skip
          refine ⟨.ref a, rfl, a, rfl, ⟨xs, hs⟩, ?_⟩
          refine for_tup (K := K) (a := a) (xs := xs) (fun i σ H' => (∃ z2, σ = [some (V.ref a), some (V.int L), some (V.int n), z2, none]) ∧ Same H H' ∧ (ds.take i).all (tupAll L (letD L)) = true) ⟨⟨none, rfl⟩, Same.refl H, rfl⟩ (fun i σ H' _ q => same_seqT q.2.1 hs) ?_ ?_
          · rintro i y σ H1 hy ⟨⟨z2, rfl⟩, sm, hall⟩
            obtain ⟨d, hdi, hd1⟩ := ha.getV hy
            have hd2 := same_dt sm hd1
            have bad : ∀ H2, Same H1 H2 → tupAll L (letD L) d = false → Q (.bl false) H2 := fun H2 s2 e => by
              have e2 : ds.all (tupAll L (letD L)) = false := all_no hdi e
              rw [e2] at k
              exact k H2 (sm.trans s2)
            refine ⟨y, rfl, y, .ty "tuple", _, _, _, rfl, .ty _, tyD hd2, kitT d, _, rfl, ?_⟩
            cases d with
            | none => exact bad H1 (Same.refl H1) rfl
            | bool _ => exact bad H1 (Same.refl H1) rfl
            | int _ => exact bad H1 (Same.refl H1) rfl
            | str _ => exact bad H1 (Same.refl H1) rfl
            | list _ => exact bad H1 (Same.refl H1) rfl
            | dict _ => exact bad H1 (Same.refl H1) rfl
            | tuple es =>
              obtain ⟨b, ys, rfl, nb2, hs2, ha2, hl2⟩ := hd2.tup_ref
              have hz : es.length < sizeLine := by
                have q1 := len_nodes es
                have q2 := mem_nodes (List.mem_of_getElem? hdi)
                rw [nodes_tup] at q2
                exact Nat.lt_of_le_of_lt (show _ ≤ 100000 by omega) (by decide)
              have hes : nodesAll es ≤ 100000 := by
                have q2 := mem_nodes (List.mem_of_getElem? hdi)
                rw [nodes_tup] at q2
                omega
              refine ⟨.ref b, rfl, b, ys, rfl, .inr hs2, _, rfl, rfl, _, rfl, ite2 (fun h1 => ?_) (fun h1 => ?_)⟩
              · exact bad H1 (Same.refl H1) (tupAll_no (by rw [← hl2]; exact ne_int h1))
              · have e3 : tupAll L (letD L) (.tuple es) = es.all (letD L) := tupAll_yes (by rw [← hl2]; exact ne_int' h1)
                refine ⟨.ref b, rfl, b, rfl, ⟨ys, hs2⟩, fun D hD => ?_⟩
                refine lc_tup (K := K) (a := b) (xs := ys) (BInv (letD L) es H1 D) ⟨same_new hD, upd_same⟩ (fun i H' _ q => same_seqT q.1 hs2) ?_ ?_
                · rintro i2 y2 H' hy2 p
                  obtain ⟨d, hm, hd', fin⟩ := bturn ha2 hz hD hy2 p
                  exact ⟨rfl, y2, rfl, .int L, rfl, B, y2, d, L, rfl, hd', by have := mem_nodes hm; omega, L1, L3, fun H3 s3 => fin H3 s3 _ rfl⟩
                · rintro H' p
                  obtain ⟨sm2, hS⟩ := bend (K := K) hl2 p
                  refine ⟨D, _, rfl, hS, _, rfl, ?_⟩
                  rw [all_take', ← e3]
                  refine ite2 (fun h2 => ?_) (fun h2 => ?_)
                  · exact bad H' sm2 (not_cases h2)
                  · exact ⟨⟨_, rfl⟩, sm.trans sm2, all_up hdi (not_cases' h2) hall⟩
          · rintro σ H1 ⟨⟨z2, rfl⟩, sm, hall⟩
            rw [hl, List.take_length] at hall
            have e2 : ds.all (tupAll L (letD L)) = true := hall
            rw [e2] at k
            exact k H1 sm
end
section
variable {P : Program} {w : World} {K : PySem.W.Frag} {mg : Str → Option Value} {base : Heap}
theorem scSwapping : FnScope ["value", "letters", "pieces", "pair", "piece"] ["value", "letters"] (defScope sSwapping) := ⟨rfl, rfl, rfl, by decide +kernel, rfl, by decide +kernel, by decide +kernel⟩
def spSwap (K : PySem.W.Frag) : Sp := fun vs H Q _ => ∃ (B : Addr → Prop) (x : V) (d : PyData) (L : Int), vs = [x, .int L] ∧ Dt B K H x d ∧ nodes d ≤ 100000 ∧ 1 ≤ L ∧ L ≤ 3 ∧ ∀ H', Same H H' → Q (.bl (swapD L d)) H'
theorem ok_swapping {f fN : Addr} {fd fdN : FuncData} (F : Fun K "is_swapping" "is_swapping" sSwapping f fd) (N : FnOk P w K mg base CX0 1 fN fdN ["value", "letters", "most"] (spWord K)) (FN : Fun K "is_word" "is_word" sWord fN fdN) (bN : Binds K fdN ["value", "letters", "most"] []) (gN : mg "is_word" = some (.ref fN)) (T : Mg mg) :
    FnOk P w K mg base CX0 2 f fd ["value", "letters"] (spSwap K) := by
  refine F.ok scSwapping (fun vs H Q E h => ?_) (fun cdv A outer s H vs Q E hr h => ?_)
  · obtain ⟨B, x, d, L, rfl, _⟩ := h
    rfl
  · obtain ⟨B, x, d, L, rfl, hd, hn, L1, L3, k⟩ := h
    obtain ⟨tt, mc⟩ := T.mpairs
    obtain ⟨tu, mp⟩ := T.mpiece
    refine ⟨_, pss_cons (ps_if (PW.pt (pw_or (pt_not (pt_val (pe_callB call_isi (by rfl) T.isi PyProof.Rows.boot_isinstance (pa_cons (pv 0) (pa_cons (pe_bltn (v := .ty "tuple") (by rfl) T.tuple PyProof.Rows.boot_tuple rfl) pa_nil)))))
        (pw_or1 (pt_not (pt_chain op_le op_le pe_int (pe_callB call_len_seq (by rfl) T.len PySem.boot_len (pa_cons (pv 0) pa_nil)) (pe_glob (v := .int 4) (by rfl) mc ⟨_, rfl⟩))))))
      (pss_one (ps_ret pe_bl)) pss_nil)
      (pss_cons (ps_set (i := 2) scSwapping.nd rfl (.inl rfl) (pe_lstA pa_nil))
      (pss_cons (ps_for PassesOwn.never rfl (pi_tup (pv 0)) (pg_name (i := 3) scSwapping.nd rfl (.inl rfl))
        (pss_cons (ps_if (PW.pt (pw_or (pt_not (pt_val (pe_callB call_isi (by rfl) T.isi PyProof.Rows.boot_isinstance (pa_cons (pv 3) (pa_cons (pe_bltn (v := .ty "tuple") (by rfl) T.tuple PyProof.Rows.boot_tuple rfl) pa_nil)))))
          (pw_or1 (pt_cmpR op_ne (pe_callB call_len_seq (by rfl) T.len PySem.boot_len (pa_cons (pv 3) pa_nil)) pe_int (nomark _))))) (pss_one (ps_ret pe_bl)) pss_nil)
        (pss_cons (ps_if (pt_not (pt_val (pe_callB (cr_all rfl) (by rfl) T.all (by decide +kernel) (pa_cons (pe_lc (own := [("piece", 4)]) (g := gName 4) (tt := tYes) rfl scSwapping.nd (pi_tup (pv 3)) (blkOk_by (N := ["value", "letters", "pieces", "pair", "piece"]) (sc := defScope sSwapping) (by decide +kernel)) (fun _ _ _ _ _ => pg_name (i := 4) scSwapping.nd rfl (Or.inl rfl)) (fun _ _ _ _ _ => pts_nil)
          (fun _ _ _ _ _ => pe_call N hr (by rfl) gN FN.kp bN .nil pass0 (pa_cons (pv 4) (pa_cons (pv 1) (pa_cons (pe_glob (v := .int 2) (by rfl) mp ⟨_, rfl⟩) pa_nil))))) pa_nil)))) (pss_one (ps_ret pe_bl)) pss_nil)
        (pss_cons (ps_if (pt_cmpR op_ne (pe_callB call_len_str (by rfl) T.len PySem.boot_len (pa_cons (pe_ix ix_tup (pv 3) pe_int (fun _ _ => rfl)) pa_nil)) (pe_callB call_len_str (by rfl) T.len PySem.boot_len (pa_cons (pe_ix ix_tup (pv 3) pe_int (fun _ _ => rfl)) pa_nil)) (nomark _)) (pss_one (ps_ret pe_bl)) pss_nil)
        (pss_one (ps_expr (pe_bm PySem.F.plainAttrs_list PySem.F.slot_list_extend PySem.F.type_list_extend mt_extT (pv 2) (pa_cons (pv 3) pa_nil))))))))
      (pss_one (ps_ret (pe_cmpR op_eq (pe_lenSetT rfl (by rfl) T.len (by rfl) T.set (pv 2)) (pe_callB call_len_seq (by rfl) T.len PySem.boot_len (pa_cons (pv 2) pa_nil)) (nomark _)))))), ?_⟩
    refine ⟨x, rfl, x, .ty "tuple", _, _, _, rfl, .ty _, tyD hd, kitT d, _, rfl, ?_⟩
    cases d with
    | none => exact k H (Same.refl H)
    | bool _ => exact k H (Same.refl H)
    | int _ => exact k H (Same.refl H)
    | str _ => exact k H (Same.refl H)
    | list _ => exact k H (Same.refl H)
    | dict _ => exact k H (Same.refl H)
    | tuple ds =>
      obtain ⟨a, xs, rfl, nb, hs, ha, hl⟩ := hd.tup_ref
      have hk : swapD L (.tuple ds) = (((decide (1 ≤ ds.length) && decide (ds.length ≤ 4)) && ds.all (pairD L)) && nodupS (ds.flatMap pcs)) := rfl
      rw [hk] at k
      rw [nodes_tup] at hn
      refine ⟨.ref a, rfl, a, xs, rfl, .inr hs, 1, _, rfl, rfl, _, rfl, ite2 (fun h5 => ?_) (fun h5 => ?_)⟩
      rotate_left
      · have e : decide (1 ≤ ds.length) = false := decide_eq_false fun q => h5 (decide_eq_true (by omega))
        rw [e] at k
        exact ⟨_, rfl, k H (Same.refl H)⟩
      · have h5 := of_decide_eq_true h5
        rw [decide_eq_true (by omega : 1 ≤ ds.length), Bool.true_and] at k
        refine ⟨_, 4, rfl, rfl, _, rfl, ite2 (fun h6 => ?_) (fun h6 => ?_)⟩
        · have e : decide (ds.length ≤ 4) = false := decide_eq_false fun q => by
            rw [decide_eq_true (by omega : (xs.length : Int) ≤ 4)] at h6
            cases h6
          rw [e] at k
          exact k H (Same.refl H)
        · have h7 : (xs.length : Int) ≤ 4 := by
            cases z : decide ((xs.length : Int) ≤ 4)
            · rw [z] at h6
              exact absurd rfl h6
            · exact of_decide_eq_true z
          rw [decide_eq_true (by omega : ds.length ≤ 4), Bool.true_and] at k
          refine ⟨by show 0 ≤ sizeLine; decide, fun p G s0 np _ lp => ⟨_, rfl, a, rfl, ⟨xs, same_seqT s0 hs⟩, ?_⟩⟩
          refine for_tup (K := K) (a := a) (xs := xs) (fun i σ H' => (∃ z3, σ = [some (V.ref a), some (V.int L), some (V.ref p), z3, none]) ∧ Same H H' ∧ (ds.take i).all (pairD L) = true ∧ H' p = some (.lst (((ds.take i).flatMap pcs).map V.str)) ∧ ((ds.take i).flatMap pcs).length = 2 * i) ⟨⟨none, rfl⟩, s0, rfl, lp, rfl⟩ (fun i σ H' _ q => same_seqT q.2.1 hs) ?_ ?_
          · rintro i y σ H1 hy ⟨⟨z3, rfl⟩, sm, hall, lp1, hlen⟩
            obtain ⟨d, hdi, hd1⟩ := ha.getV hy
            have hd2 := same_dt sm hd1
            have hi := (List.getElem?_eq_some_iff.mp hdi).1
            have bad : ∀ H2, Same H1 H2 → pairD L d = false → Q (.bl false) H2 := fun H2 s2 e => by
              rw [all_no hdi e] at k
              exact k H2 (sm.trans s2)
            refine ⟨y, rfl, y, .ty "tuple", _, _, _, rfl, .ty _, tyD hd2, kitT d, _, rfl, ?_⟩
            cases d with
            | none => exact bad H1 (Same.refl H1) rfl
            | bool _ => exact bad H1 (Same.refl H1) rfl
            | int _ => exact bad H1 (Same.refl H1) rfl
            | str _ => exact bad H1 (Same.refl H1) rfl
            | list _ => exact bad H1 (Same.refl H1) rfl
            | dict _ => exact bad H1 (Same.refl H1) rfl
            | tuple es =>
              obtain ⟨b, ys, rfl, nb2, hs2, ha2, hl2⟩ := hd2.tup_ref
              have hes : nodesAll es ≤ 100000 := by
                have q2 := mem_nodes (List.mem_of_getElem? hdi)
                rw [nodes_tup] at q2
                omega
              refine ⟨.ref b, rfl, b, ys, rfl, .inr hs2, rfl, _, rfl, ite2 (fun h1 => ?_) (fun h1 => ?_)⟩
              · have h2 : ¬ ((es.length : Int) = 2) := by
                  rw [← hl2]
                  exact ne_int h1
                refine bad H1 (Same.refl H1) ?_
                match es, h2 with
                | [], _ => rfl
                | [_], _ => rfl
                | [_, _], h2 => exact absurd rfl h2
                | _ :: _ :: _ :: _, _ => rfl
              · have h2 : (es.length : Int) = 2 := by
                  rw [← hl2]
                  exact ne_int' h1
                obtain ⟨dx, dy, rfl⟩ : ∃ dx dy, es = [dx, dy] := by
                  match es, h2 with
                  | [dx, dy], _ => exact ⟨dx, dy, rfl⟩
                obtain ⟨vx, vy, rfl, hdx, hdy⟩ : ∃ vx vy, ys = [vx, vy] ∧ Dt B K H1 vx dx ∧ Dt B K H1 vy dy := by
                  cases ha2 with
                  | cons g1 g =>
                    cases g with
                    | cons g2 g =>
                      cases g
                      exact ⟨_, _, rfl, g1, g2⟩
                refine ⟨.ref b, rfl, b, rfl, ⟨_, hs2⟩, fun D hD => ?_⟩
                refine lc_tup (K := K) (a := b) (xs := [vx, vy]) (BInv (wordD L 2) [dx, dy] H1 D) ⟨same_new hD, upd_same⟩ (fun i H' _ q => same_seqT q.1 hs2) ?_ ?_
                · rintro i2 y2 H' hy2 p
                  obtain ⟨d, hm, hd', fin⟩ := bturn ha2 (by show 2 < sizeLine; decide) hD hy2 p
                  exact ⟨rfl, y2, rfl, .int L, rfl, B, y2, d, L, 2, rfl, hd', by have := mem_nodes hm; omega, L1, L3, fun H3 s3 => fin H3 s3 _ rfl⟩
                · rintro H' pB
                  obtain ⟨sm2, hS⟩ := bend (K := K) hl2 pB
                  refine ⟨D, _, rfl, hS, _, rfl, ?_⟩
                  rw [all_take']
                  have e3 : [dx, dy].all (wordD L 2) = (wordD L 2 dx && wordD L 2 dy) := by simp
                  have e4 : pairD L (.tuple [dx, dy]) = ((wordD L 2 dx && wordD L 2 dy) && decide (slen dx = slen dy)) := rfl
                  rw [e3]
                  refine ite2 (fun h3 => ?_) (fun h3 => ?_)
                  · refine bad H' sm2 ?_
                    rw [e4, not_cases h3]
                    rfl
                  · have h4 := not_cases' h3
                    rw [h4, Bool.true_and] at e4
                    rw [Bool.and_eq_true] at h4
                    obtain ⟨zx, rfl⟩ : ∃ z, dx = .str z := by
                      cases dx with
                      | str z => exact ⟨z, rfl⟩
                      | _ => exact absurd h4.1 Bool.false_ne_true
                    obtain ⟨zy, rfl⟩ : ∃ z, dy = .str z := by
                      cases dy with
                      | str z => exact ⟨z, rfl⟩
                      | _ => exact absurd h4.2 Bool.false_ne_true
                    cases hdx
                    cases hdy
                    rw [nodesAll_cons, nodesAll_cons, nodesAll_nil, nodes, nodes] at hes
                    have hs3 := same_seqT sm2 hs2
                    refine ⟨_, rfl, b, _, 0, .str zx, rfl, rfl, hs3, atI_nat (j := 0) rfl, zx, rfl, sz_of (by omega), _, rfl, b, _, 1, .str zy, rfl, rfl, hs3, atI_nat (j := 1) rfl, zy, rfl, sz_of (by omega), rfl, _, rfl, ite2 (fun h5 => ?_) (fun h5 => ?_)⟩
                    · refine bad H' sm2 ?_
                      rw [e4]
                      exact decide_eq_false fun q => ne_int h5 (by show (zx.length : Int) = zy.length; exact congrArg Int.ofNat q)
                    · have e5 : pairD L (.tuple [.str zx, .str zy]) = true := by
                        rw [e4]
                        have := ne_int' h5
                        exact decide_eq_true (by show zx.length = zy.length; omega)
                      have e6 : (ds.take (i + 1)).flatMap pcs = (ds.take i).flatMap pcs ++ [zx, zy] := by
                        rw [List.take_add_one, hdi]
                        simp [pcs]
                      have lp2 := sm2 _ _ lp1
                      refine ⟨_, rfl, .inl ⟨rfl, _, SqL.of lp2⟩, _, rfl, p, b, _, _, rfl, rfl, lp2, hs3, ?_, ⟨_, rfl⟩, ?_, all_up hdi e5 hall, ?_, ?_⟩
                      · rw [List.length_map, hlen]
                        exact sz_of (by show 2 * i + 2 ≤ 100000; omega)
                      · intro q o e
                        rw [upd_ne (ne_of_none e np)]
                        exact sm2 _ _ (sm _ _ e)
                      · rw [upd_same, e6, List.map_append]
                        rfl
                      · rw [e6, List.length_append, hlen]
                        show 2 * i + 2 = 2 * (i + 1)
                        omega
          · rintro σ H1 ⟨⟨z3, rfl⟩, sm, hall, lp1, hlen⟩
            rw [hl] at hlen lp1 hall
            rw [List.take_length] at hall lp1 hlen
            rw [hall, Bool.true_and] at k
            refine ⟨_, rfl, p, _, rfl, SqL.of lp1, by omega, _, rfl, p, _, rfl, .inl (SqL.of lp1), rfl, ?_⟩
            have e7 : decide (V.int ((dd (ds.flatMap pcs)).length : Int) = V.int (((ds.flatMap pcs).map V.str).length : Int)) = nodupS (ds.flatMap pcs) := by
              unfold nodupS
              rw [List.length_map]
              by_cases q : (dd (ds.flatMap pcs)).length = (ds.flatMap pcs).length
              · rw [decide_eq_true q, decide_eq_true (by rw [q])]
              · rw [decide_eq_false q, decide_eq_false fun z => q (by have := V.int.inj z; omega)]
            rw [e7]
            exact k H1 sm
end
theorem len_no {n m : Nat} (h : ¬ decide (V.int (n : Int) = V.int (m : Int)) = true) : n ≠ m := fun e => h (decide_eq_true (by rw [e]))
theorem len_yes {n m : Nat} (h : decide (V.int (n : Int) = V.int (m : Int)) = true) : n = m := by
  have := V.int.inj (of_decide_eq_true h)
  omega
section
variable {P : Program} {w : World} {K : PySem.W.Frag} {mg : Str → Option Value} {base : Heap}
def spStep (K : PySem.W.Frag) : Sp := fun vs H Q _ => ∃ (B : Addr → Prop) (x : V) (d : PyData) (L : Int), vs = [x, .int L] ∧ Dt B K H x d ∧ nodes d ≤ 100000 ∧ 1 ≤ L ∧ L ≤ 3 ∧ ∀ H', Same H H' → Q (.bl (stepD L d)) H'
theorem scStep : FnScope ["value", "letters", "name"] ["value", "letters"] (defScope sStep) := ⟨rfl, rfl, rfl, by decide +kernel, rfl, by decide +kernel, by decide +kernel⟩
theorem ok_step {f fU fN fG fR fO fW : Addr} {fd fdU fdN fdG fdR fdO fdW : FuncData} (F : Fun K "is_step" "is_step" sStep f fd)
    (U : FnOk P w K mg base CX0 3 fU fdU ["value", "letters"] (spUnit K)) (FU : Fun K "is_unit" "is_unit" sUnit fU fdU) (bU : Binds K fdU ["value", "letters"] []) (gU : mg "is_unit" = some (.ref fU))
    (N : FnOk P w K mg base CX0 2 fN fdN ["value", "least", "most"] (spNum K)) (FN : Fun K "is_number" "is_number" sNumber fN fdN) (bN : Binds K fdN ["value", "least", "most"] []) (gN : mg "is_number" = some (.ref fN))
    (G : FnOk P w K mg base CX0 2 fG fdG ["value", "letters"] (spLet K)) (FG : Fun K "is_letter" "is_letter" sLetter fG fdG) (bG : Binds K fdG ["value", "letters"] []) (gG : mg "is_letter" = some (.ref fG))
    (R : FnOk P w K mg base CX0 3 fR fdR ["value", "letters"] (spTurn K)) (FR : Fun K "is_turning" "is_turning" sTurning fR fdR) (bR : Binds K fdR ["value", "letters"] []) (gR : mg "is_turning" = some (.ref fR))
    (O : FnOk P w K mg base CX0 3 fO fdO ["value", "letters", "turns"] (spPut K)) (FO : Fun K "is_putting" "is_putting" sPutting fO fdO) (bO : Binds K fdO ["value", "letters", "turns"] []) (gO : mg "is_putting" = some (.ref fO))
    (W : FnOk P w K mg base CX0 2 fW fdW ["value", "letters"] (spSwap K)) (FW : Fun K "is_swapping" "is_swapping" sSwapping fW fdW) (bW : Binds K fdW ["value", "letters"] []) (gW : mg "is_swapping" = some (.ref fW)) (T : Mg mg) :
    FnOk P w K mg base CX0 4 f fd ["value", "letters"] (spStep K) := by
  refine F.ok scStep (fun vs H Q E h => ?_) (fun cdv A outer s H vs Q E hr h => ?_)
  · obtain ⟨B, x, d, L, rfl, _⟩ := h
    rfl
  · obtain ⟨B, x, d, L, rfl, hd, hn, L1, L3, k⟩ := h
    have hu0 := hr.units0
    obtain ⟨tt, mc⟩ := T.mcut
    refine ⟨_, pss_cons (ps_if (PW.pt (pw_or (pt_not (pt_val (pe_callB (r := rIsi K) call_isi (by rfl) T.isi PyProof.Rows.boot_isinstance (pa_cons (pv 0) (pa_cons (pe_bltn (v := .ty "tuple") (by rfl) T.tuple PyProof.Rows.boot_tuple rfl) pa_nil)))))
        (pw_or1 (pt_cmpR op_lt (pe_callB (r := rLen K) call_len_seq (by rfl) T.len PySem.boot_len (pa_cons (pv 0) pa_nil)) pe_int (nomark _))))) (pss_one (ps_ret pe_bl)) pss_nil)
      (pss_cons (ps_set (i := 2) scStep.nd rfl (.inl rfl) (pe_ix (r := rIxT K) ix_tup (pv 0) pe_int (fun _ _ => rfl)))
      (pss_cons (ps_if (pt_cmpR (op_eqStr hu0) (pv 2) pe_str (nomark _)) (pss_one (ps_ret (pe_and (pe_cmpR op_eq (pe_callB (r := rLen K) call_len_seq (by rfl) T.len PySem.boot_len (pa_cons (pv 0) pa_nil)) pe_int (nomark _)) (pe_and (pe_call U (hr.mono (by decide)) (by rfl) gU FU.kp bU .nil pass0 (pa_cons (pe_ix (r := rIxT K) ix_tup (pv 0) pe_int (fun _ _ => rfl)) (pa_cons (pv 1) pa_nil))) (pe_one (pe_call N (hr.mono (by decide)) (by rfl) gN FN.kp bN .nil pass0 (pa_cons (pe_ix (r := rIxT K) ix_tup (pv 0) pe_int (fun _ _ => rfl)) (pa_cons pe_int (pa_cons (pe_glob (v := .int 30) (by rfl) mc ⟨_, rfl⟩) pa_nil))))))))) pss_nil)
      (pss_cons (ps_if (pt_cmpR (op_eqStr hu0) (pv 2) pe_str (nomark _)) (pss_one (ps_ret (pe_and (pe_cmpR op_eq (pe_callB (r := rLen K) call_len_seq (by rfl) T.len PySem.boot_len (pa_cons (pv 0) pa_nil)) pe_int (nomark _)) (pe_one (pe_call G (hr.mono (by decide)) (by rfl) gG FG.kp bG .nil pass0 (pa_cons (pe_ix (r := rIxT K) ix_tup (pv 0) pe_int (fun _ _ => rfl)) (pa_cons (pv 1) pa_nil))))))) pss_nil)
      (pss_cons (ps_if (pt_cmpR (op_eqStr hu0) (pv 2) pe_str (nomark _)) (pss_one (ps_ret (pe_and (pe_cmpR op_eq (pe_callB (r := rLen K) call_len_seq (by rfl) T.len PySem.boot_len (pa_cons (pv 0) pa_nil)) pe_int (nomark _)) (pe_and (pe_call R (hr.mono (by decide)) (by rfl) gR FR.kp bR .nil pass0 (pa_cons (pe_ix (r := rIxT K) ix_tup (pv 0) pe_int (fun _ _ => rfl)) (pa_cons (pv 1) pa_nil))) (pe_one (pe_call O (hr.mono (by decide)) (by rfl) gO FO.kp bO .nil pass0 (pa_cons (pe_ix (r := rIxT K) ix_tup (pv 0) pe_int (fun _ _ => rfl)) (pa_cons (pv 1) (pa_cons (pe_callB (r := rLen K) call_len_seq (by rfl) T.len PySem.boot_len (pa_cons (pe_ix (r := rIxT K) ix_tup (pv 0) pe_int (fun _ _ => rfl)) pa_nil)) pa_nil))))))))) pss_nil)
      (pss_cons (ps_if (pt_cmpR (op_eqStr hu0) (pv 2) pe_str (nomark _)) (pss_one (ps_ret (pe_and (pe_cmpR op_eq (pe_callB (r := rLen K) call_len_seq (by rfl) T.len PySem.boot_len (pa_cons (pv 0) pa_nil)) pe_int (nomark _)) (pe_one (pe_call W (hr.mono (by decide)) (by rfl) gW FW.kp bW .nil pass0 (pa_cons (pe_ix (r := rIxT K) ix_tup (pv 0) pe_int (fun _ _ => rfl)) (pa_cons (pv 1) pa_nil))))))) pss_nil)
      (pss_one (ps_ret pe_bl))))))), ?_⟩
    refine ⟨x, rfl, x, .ty "tuple", _, _, _, rfl, .ty _, tyD hd, kitT d, _, rfl, ?_⟩
    cases d with
    | none => exact k H (Same.refl H)
    | bool _ => exact k H (Same.refl H)
    | int _ => exact k H (Same.refl H)
    | str _ => exact k H (Same.refl H)
    | list _ => exact k H (Same.refl H)
    | dict _ => exact k H (Same.refl H)
    | tuple ds =>
      obtain ⟨a, xs, rfl, nb, hs, ha, hl⟩ := hd.tup_ref
      refine ⟨.ref a, rfl, a, xs, rfl, .inr hs, _, 2, rfl, rfl, _, rfl, ite2 (fun h1 => ?_) (fun h1 => ?_)⟩
      · have h2 := of_decide_eq_true h1
        have e : stepD L (.tuple ds) = false := by
          match ds, hl with
          | [], _ => rfl
          | [_], _ => rfl
          | _ :: _ :: _, hl =>
            rw [List.length_cons, List.length_cons] at hl
            omega
        rw [e] at k
        exact k H (Same.refl H)
      · have h2 : ¬ ((xs.length : Int) < 2) := fun q => h1 (decide_eq_true q)
        obtain ⟨d0, d1, r, rfl⟩ : ∃ d0 d1 r, ds = d0 :: d1 :: r := by
          match ds, hl with
          | [], hl => exact absurd (by rw [hl]; decide) h2
          | [_], hl => exact absurd (by rw [hl]; show ((1 : Nat) : Int) < 2; decide) h2
          | d0 :: d1 :: r, _ => exact ⟨d0, d1, r, rfl⟩
        obtain ⟨v0, v1, rs, rfl, hd0, hd1, hr2⟩ : ∃ v0 v1 rs, xs = v0 :: v1 :: rs ∧ Dt B K H v0 d0 ∧ Dt B K H v1 d1 ∧ DtAll B K H rs r := by
          cases ha with
          | cons g1 g =>
            cases g with
            | cons g2 g => exact ⟨_, _, _, rfl, g1, g2, g⟩
        rw [nodes_tup, nodesAll_cons, nodesAll_cons] at hn
        have lr : rs.length = r.length := hr2.len
        have kk : ∀ (H' : Hp) (b : Bool), Same H H' → stepL L d0 (d1 :: r) = b → Q (.bl b) H' := fun H' b sm e => by
          rw [← e]
          exact k H' sm
        clear k
        unfold stepL at kk
        have len2 : (v0 :: v1 :: rs).length = 2 + rs.length := by
          rw [List.length_cons, List.length_cons]
          omega
        refine ⟨_, rfl, a, _, 0, v0, rfl, rfl, hs, atI_nat (j := 0) rfl, ?_⟩
        refine ⟨_, rfl, B, d0, "cut", rfl, hd0, _, rfl, ite2 (fun c1 => ?_) (fun c1 => ?_)⟩
        · rw [if_pos c1] at kk
          refine ⟨_, rfl, a, _, rfl, .inr hs, rfl, _, rfl, ite2 (fun q1 => ?_) (fun q1 => ?_)⟩
          · have q2 : (v0 :: v1 :: rs).length = 3 := len_yes q1
            obtain ⟨d2, rfl⟩ : ∃ d2, r = [d2] := by
              match r, lr with
              | [d2], _ => exact ⟨d2, rfl⟩
              | [], lr => rw [List.length_nil] at lr; omega
              | _ :: _ :: _, lr => rw [List.length_cons, List.length_cons] at lr; omega
            obtain ⟨v2, rfl, hd2⟩ : ∃ v2, rs = [v2] ∧ Dt B K H v2 d2 := by
              cases hr2 with
              | cons g1 g =>
                cases g
                exact ⟨_, rfl, g1⟩
            rw [nodesAll_cons] at hn
            refine ⟨_, rfl, a, _, 1, v1, rfl, rfl, hs, atI_nat (j := 1) rfl, _, rfl, B, v1, d1, L, rfl, hd1, by omega, fun H1 s1 => ⟨_, rfl, ite2 (fun u1 => ?_) (fun u1 => ?_)⟩⟩
            · refine ⟨_, rfl, a, _, 2, v2, rfl, rfl, same_seqT s1 hs, atI_nat (j := 2) rfl, B, v2, d2, 0, 30, rfl, same_dt s1 hd2, kk H1 _ s1 ?_⟩
              show (unitD L d1 && numD d2 0 30) = _
              rw [u1]
              rfl
            · refine kk H1 false s1 ?_
              show (unitD L d1 && numD d2 0 30) = _
              rw [Bool.eq_false_iff.mpr u1]
              rfl
          · have q2 : (v0 :: v1 :: rs).length ≠ 3 := len_no q1
            refine kk H false (Same.refl H) ?_
            match r, lr with
            | [], _ => rfl
            | [_], lr => rw [List.length_singleton] at lr; omega
            | _ :: _ :: _, _ => rfl
        · rw [if_neg c1] at kk
          refine ⟨_, rfl, B, d0, "stop", rfl, hd0, _, rfl, ite2 (fun c2 => ?_) (fun c2 => ?_)⟩
          · rw [if_pos c2] at kk
            refine ⟨_, rfl, a, _, rfl, .inr hs, rfl, _, rfl, ite2 (fun q1 => ?_) (fun q1 => ?_)⟩
            · have q2 : (v0 :: v1 :: rs).length = 2 := len_yes q1
              obtain rfl : r = [] := List.eq_nil_of_length_eq_zero (by omega)
              exact ⟨_, rfl, a, _, 1, v1, rfl, rfl, hs, atI_nat (j := 1) rfl, _, rfl, B, v1, d1, L, rfl, hd1, by omega, L1, L3, fun H1 s1 => kk H1 _ s1 rfl⟩
            · have q2 : (v0 :: v1 :: rs).length ≠ 2 := len_no q1
              refine kk H false (Same.refl H) ?_
              match r, lr with
              | [], lr => rw [List.length_nil] at lr; omega
              | _ :: _, _ => rfl
          · rw [if_neg c2] at kk
            refine ⟨_, rfl, B, d0, "pass", rfl, hd0, _, rfl, ite2 (fun c3 => ?_) (fun c3 => ?_)⟩
            · rw [if_pos c3] at kk
              refine ⟨_, rfl, a, _, rfl, .inr hs, rfl, _, rfl, ite2 (fun q1 => ?_) (fun q1 => ?_)⟩
              · have q2 : (v0 :: v1 :: rs).length = 3 := len_yes q1
                obtain ⟨d2, rfl⟩ : ∃ d2, r = [d2] := by
                  match r, lr with
                  | [d2], _ => exact ⟨d2, rfl⟩
                  | [], lr => rw [List.length_nil] at lr; omega
                  | _ :: _ :: _, lr => rw [List.length_cons, List.length_cons] at lr; omega
                obtain ⟨v2, rfl, hd2⟩ : ∃ v2, rs = [v2] ∧ Dt B K H v2 d2 := by
                  cases hr2 with
                  | cons g1 g =>
                    cases g
                    exact ⟨_, rfl, g1⟩
                rw [nodesAll_cons] at hn
                refine ⟨_, rfl, a, _, 1, v1, rfl, rfl, hs, atI_nat (j := 1) rfl, _, rfl, B, v1, d1, L, rfl, hd1, by omega, fun H1 s1 => ⟨_, rfl, ite2 (fun u1 => ?_) (fun u1 => ?_)⟩⟩
                · obtain ⟨es, rfl⟩ : ∃ es, d1 = .tuple es := by
                    cases d1 with
                    | tuple es => exact ⟨es, rfl⟩
                    | _ => cases u1
                  obtain ⟨b, ys, rfl, nb2, hs2, ha2, hl2⟩ := hd1.tup_ref
                  refine ⟨_, rfl, a, _, 2, v2, rfl, rfl, same_seqT s1 hs, atI_nat (j := 2) rfl, _, rfl, _, rfl, a, _, 1, .ref b, rfl, rfl, same_seqT s1 hs, atI_nat (j := 1) rfl, b, ys, rfl, .inr (same_seqT s1 hs2), B, v2, d2, L, (es.length : Int), (by rw [hl2]; rfl), same_dt s1 hd2, by omega, L1, L3, fun H2 s2 => kk H2 _ (s1.trans s2) ?_⟩
                  show (turnD L (.tuple es) && putD L (es.length : Int) d2) = _
                  rw [u1]
                  rfl
                · refine kk H1 false s1 ?_
                  show (turnD L d1 && putD L (tlen d1) d2) = _
                  rw [Bool.eq_false_iff.mpr u1]
                  rfl
              · have q2 : (v0 :: v1 :: rs).length ≠ 3 := len_no q1
                refine kk H false (Same.refl H) ?_
                match r, lr with
                | [], _ => rfl
                | [_], lr => rw [List.length_singleton] at lr; omega
                | _ :: _ :: _, _ => rfl
            · rw [if_neg c3] at kk
              refine ⟨_, rfl, B, d0, "swap", rfl, hd0, _, rfl, ite2 (fun c4 => ?_) (fun c4 => ?_)⟩
              · rw [if_pos c4] at kk
                refine ⟨_, rfl, a, _, rfl, .inr hs, rfl, _, rfl, ite2 (fun q1 => ?_) (fun q1 => ?_)⟩
                · have q2 : (v0 :: v1 :: rs).length = 2 := len_yes q1
                  obtain rfl : r = [] := List.eq_nil_of_length_eq_zero (by omega)
                  exact ⟨_, rfl, a, _, 1, v1, rfl, rfl, hs, atI_nat (j := 1) rfl, _, rfl, B, v1, d1, L, rfl, hd1, by omega, L1, L3, fun H1 s1 => kk H1 _ s1 rfl⟩
                · have q2 : (v0 :: v1 :: rs).length ≠ 2 := len_no q1
                  refine kk H false (Same.refl H) ?_
                  match r, lr with
                  | [], lr => rw [List.length_nil] at lr; omega
                  | _ :: _, _ => rfl
              · rw [if_neg c4] at kk
                exact kk H false (Same.refl H) rfl
end
theorem fb_some {L : Int} : ∀ {ds : List PyData} {i k : Nat} {d : PyData}, (ds.take i).all (stepD L) = true → ds[i]? = some d → stepD L d = false → firstBad L ds k = some (k + i)
  | [], _, _, _, _, e, _ => by simp at e
  | x :: ds, 0, k, d, _, e, h => by
    simp at e
    subst e
    unfold firstBad
    rw [if_neg (by rw [h]; exact Bool.false_ne_true)]
    rfl
  | x :: ds, i + 1, k, d, ha, e, h => by
    rw [List.take_succ_cons, List.all_cons, Bool.and_eq_true] at ha
    unfold firstBad
    rw [if_pos ha.1, fb_some (i := i) ha.2 (by simpa using e) h]
    congr 1
    omega
theorem fb_none {L : Int} : ∀ {ds : List PyData} {k : Nat}, ds.all (stepD L) = true → firstBad L ds k = none
  | [], _, _ => rfl
  | x :: ds, k, ha => by
    rw [List.all_cons, Bool.and_eq_true] at ha
    unfold firstBad
    rw [if_pos ha.1]
    exact fb_none ha.2
theorem lineE_bad {L : Int} {ds : List PyData} {i : Nat} {d : PyData} (ha : (ds.take i).all (stepD L) = true) (e : ds[i]? = some d) (h : stepD L d = false) : lineE L (.tuple ds) = some (some i, ("step" : Str)) := by
  have q := fb_some (k := 0) ha e h
  rw [Nat.zero_add] at q
  show (match firstBad L ds 0 with | some k => some (some k, ("step" : Str)) | none => if ds.length ≤ 3 then none else some (none, ("many" : Str))) = _
  rw [q]
theorem lineE_ok {L : Int} {ds : List PyData} (ha : ds.all (stepD L) = true) : lineE L (.tuple ds) = if ds.length ≤ 3 then none else some (none, ("many" : Str)) := by
  show (match firstBad L ds 0 with | some k => some (some k, ("step" : Str)) | none => if ds.length ≤ 3 then none else some (none, ("many" : Str))) = _
  rw [fb_none ha]
section
variable {P : Program} {w : World} {K : PySem.W.Frag} {mg : Str → Option Value} {base : Heap}
def spLErr (K : PySem.W.Frag) : Sp := fun vs H Q _ => ∃ (B : Addr → Prop) (x : V) (d : PyData) (L : Int), vs = [.int L, x] ∧ Dt B K H x d ∧ nodes d ≤ 100000 ∧ 1 ≤ L ∧ L ≤ 3 ∧ ∀ H' v', Same H H' → Dt (fun _ => False) K H' v' (errE (lineE L d)) → Q v' H'
theorem scLErr : FnScope ["letters", "value", "index", "step"] ["letters", "value"] (defScope sLErr) := ⟨rfl, rfl, rfl, by decide +kernel, rfl, by decide +kernel, by decide +kernel⟩
theorem ok_lErr {f fS : Addr} {fd fdS : FuncData} (F : Fun K "line_error" "line_error" sLErr f fd) (S : FnOk P w K mg base CX0 4 fS fdS ["value", "letters"] (spStep K)) (FS : Fun K "is_step" "is_step" sStep fS fdS) (bS : Binds K fdS ["value", "letters"] []) (gS : mg "is_step" = some (.ref fS)) (T : Mg mg) :
    FnOk P w K mg base CX0 5 f fd ["letters", "value"] (spLErr K) := by
  refine F.ok scLErr (fun vs H Q E h => ?_) (fun cdv A outer s H vs Q E hr h => ?_)
  · obtain ⟨B, x, d, L, rfl, _⟩ := h
    rfl
  · obtain ⟨B, x, d, L, rfl, hd, hn, L1, L3, k⟩ := h
    obtain ⟨tt, mc⟩ := T.mline
    refine ⟨_, pss_cons (ps_if (pt_not (pt_val (pe_callB (r := rIsi K) call_isi (by rfl) T.isi PyProof.Rows.boot_isinstance (pa_cons (pv 1) (pa_cons (pe_bltn (v := .ty "tuple") (by rfl) T.tuple PyProof.Rows.boot_tuple rfl) pa_nil))))) (pss_one (ps_ret (pe_tup (pa_cons pe_non (pa_cons pe_str pa_nil))))) pss_nil)
      (pss_cons (ps_for PassesOwn.never rfl (pi_enumT (by rfl) T.enum (pa_cons (pv 1) pa_nil)) (pg_tup rfl (pgs_cons (pg_name (i := 2) scLErr.nd rfl (.inl rfl)) (pgs_cons (pg_name (i := 3) scLErr.nd rfl (.inl rfl)) pgs_nil)))
        (pss_one (ps_if (pt_not (pt_val (pe_call S hr (by rfl) gS FS.kp bS .nil pass0 (pa_cons (pv 3) (pa_cons (pv 0) pa_nil))))) (pss_one (ps_ret (pe_tup (pa_cons (pv 2) (pa_cons pe_str pa_nil))))) pss_nil)))
      (pss_cons (ps_if (pt_cmpR op_gt (pe_callB (r := rLen K) call_len_seq (by rfl) T.len PySem.boot_len (pa_cons (pv 1) pa_nil)) (pe_glob (v := .int 3) (by rfl) mc ⟨_, rfl⟩) (nomark _)) (pss_one (ps_ret (pe_tup (pa_cons pe_non (pa_cons pe_str pa_nil))))) pss_nil)
      (pss_one (ps_ret pe_non)))), ?_⟩
    refine ⟨x, rfl, x, .ty "tuple", _, _, _, rfl, .ty _, tyD hd, kitT d, _, rfl, ?_⟩
    have no : lineE L d = some (none, ("line" : Str)) → 2 ≤ sizeLine ∧ ∀ p, H p = none → Q (.ref p) (upd H p (.tup [.non, .str "line"])) := fun e => ⟨by decide, fun p hp => k _ _ (same_new hp) (by
      rw [e]
      exact .tup (fun z => z) (.inl upd_same) (.cons .non (.cons (.str _) .nil)))⟩
    cases d with
    | none => exact no rfl
    | bool _ => exact no rfl
    | int _ => exact no rfl
    | str _ => exact no rfl
    | list _ => exact no rfl
    | dict _ => exact no rfl
    | tuple ds =>
      clear no
      obtain ⟨a, xs, rfl, nb, hs, ha, hl⟩ := hd.tup_ref
      rw [nodes_tup] at hn
      refine ⟨_, rfl, a, xs, rfl, hs, ?_⟩
      refine for_it (walk_enumT (K := K) (a := a) (xs := xs)) (fun i σ H' => (∃ y2 y3, σ = [some (V.int L), some (V.ref a), y2, y3]) ∧ Same H H' ∧ (ds.take i).all (stepD L) = true) ⟨⟨none, none, rfl⟩, Same.refl H, rfl⟩ (fun i σ H' _ q => same_seqT q.2.1 hs) ?_ ?_
      · rintro i x σ H1 H2 hi ⟨⟨y2, y3, rfl⟩, sm, hall⟩ ⟨T1, va, vb, rfl, nT, rfl, ea, eb⟩
        cases ea
        obtain ⟨d, hdi, hd1⟩ := ha.getV eb
        have s1 := sm.trans (same_new (o := .tup [V.int (i : Nat), vb]) nT)
        refine ⟨T1, _, rfl, SqT.of upd_same, rfl, _, _, rfl, _, _, rfl, rfl, ?_⟩
        have hn2 := mem_nodes (List.mem_of_getElem? hdi)
        refine ⟨_, rfl, _, rfl, B, vb, d, L, rfl, same_dt s1 hd1, by omega, L1, L3, fun H3 s3 => ⟨_, rfl, ite2 (fun h1 => ?_) (fun h1 => ?_)⟩⟩
        · refine ⟨_, rfl, by show 2 ≤ sizeLine; decide, fun p hp => k _ _ ((s1.trans s3).trans (same_new hp)) ?_⟩
          rw [lineE_bad hall hdi (not_cases h1)]
          exact .tup (fun z => z) (.inl upd_same) (.cons (.int _) (.cons (.str _) .nil))
        · exact ⟨⟨_, _, rfl⟩, s1.trans s3, all_up hdi (not_cases' h1) hall⟩
      · rintro σ H1 ⟨⟨y2, y3, rfl⟩, sm, hall⟩
        rw [hl, List.take_length] at hall
        rw [lineE_ok hall] at k
        refine ⟨_, rfl, a, xs, rfl, .inr (same_seqT sm hs), _, 3, rfl, rfl, _, rfl, ite2 (fun h1 => ?_) (fun h1 => ?_)⟩
        · have h2 := of_decide_eq_true h1
          rw [if_neg (by omega)] at k
          exact ⟨by show 2 ≤ sizeLine; decide, fun p hp => k _ _ (sm.trans (same_new hp)) (.tup (fun z => z) (.inl upd_same) (.cons .non (.cons (.str _) .nil)))⟩
        · have h2 : ¬ ((xs.length : Int) > 3) := fun q => h1 (decide_eq_true q)
          rw [if_pos (by omega)] at k
          exact k _ _ sm .non
end
def itemOk (n : Int) (d : PyData) : Bool := match d with
  | .none => true
  | d => numD d 0 (n - 1)
def rowD (L n : Int) (d : PyData) : Bool := match d with
  | .tuple xs => decide ((xs.length : Int) = L) && xs.all (itemOk n)
  | _ => false
section
variable {P : Program} {w : World} {K : PySem.W.Frag} {mg : Str → Option Value} {base : Heap}
def spRow (K : PySem.W.Frag) : Sp := fun vs H Q _ => ∃ (B : Addr → Prop) (x : V) (d : PyData) (L n : Int), vs = [x, .int L, .int n] ∧ Dt B K H x d ∧ (∀ xs, d = .tuple xs → xs.length < sizeLine) ∧ ∀ H', Same H H' → Q (.bl (rowD L n d)) H'
theorem scIsRow : FnScope ["value", "letters", "states", "item"] ["value", "letters", "states"] (defScope sRow) := ⟨rfl, rfl, rfl, by decide +kernel, rfl, by decide +kernel, by decide +kernel⟩
theorem ok_isRow {f fN : Addr} {fd fdN : FuncData} (F : Fun K "is_row" "is_row" sRow f fd) (N : FnOk P w K mg base CX0 2 fN fdN ["value", "least", "most"] (spNum K)) (FN : Fun K "is_number" "is_number" sNumber fN fdN) (bN : Binds K fdN ["value", "least", "most"] []) (gN : mg "is_number" = some (.ref fN)) (T : Mg mg) :
    FnOk P w K mg base CX0 3 f fd ["value", "letters", "states"] (spRow K) := by
  refine F.ok scIsRow (fun vs H Q E h => ?_) (fun cdv A outer s H vs Q E hr h => ?_)
  · obtain ⟨B, x, d, L, n, rfl, _⟩ := h
    rfl
  · obtain ⟨B, x, d, L, n, rfl, hd, hsz, k⟩ := h
    refine ⟨_, pss_cons (ps_if (PW.pt (pw_or (pt_not (pt_val (pe_callB call_isi (by rfl) T.isi PyProof.Rows.boot_isinstance (pa_cons (pv 0) (pa_cons (pe_bltn (v := .ty "tuple") (by rfl) T.tuple PyProof.Rows.boot_tuple rfl) pa_nil)))))
        (pw_or1 (pt_cmpR op_ne (pe_callB call_len_seq (by rfl) T.len PySem.boot_len (pa_cons (pv 0) pa_nil)) (pv 1) (nomark _)))))
      (pss_one (ps_ret pe_bl)) pss_nil)
      (pss_one (ps_ret (pe_callB (cr_all rfl) (by rfl) T.all (by decide +kernel) (pa_cons (pe_lc (own := [("item", 3)]) (g := gName 3) (tt := tYes) rfl scIsRow.nd (pi_tup (pv 0)) (blkOk_by (N := ["value", "letters", "states", "item"]) (sc := defScope sRow) (by decide +kernel)) (fun _ _ _ _ _ => pg_name (i := 3) scIsRow.nd rfl (Or.inl rfl)) (fun _ _ _ _ _ => pts_nil)
        (fun _ _ _ _ _ => pe_or (pe_cmp (pc_isN (pv 3))) (pe_one (pe_call N hr (by rfl) gN FN.kp bN .nil pass0 (pa_cons (pv 3) (pa_cons pe_int (pa_cons (pe_op op_sub (pv 2) pe_int) pa_nil))))))) pa_nil)))), ?_⟩
    refine ⟨x, rfl, x, .ty "tuple", _, _, _, rfl, .ty _, tyD hd, kitT d, _, rfl, ?_⟩
    cases d with
    | none => exact k H (Same.refl H)
    | bool _ => exact k H (Same.refl H)
    | int _ => exact k H (Same.refl H)
    | str _ => exact k H (Same.refl H)
    | list _ => exact k H (Same.refl H)
    | dict _ => exact k H (Same.refl H)
    | tuple ds =>
      obtain ⟨a, xs, rfl, nb, hs, ha, hl⟩ := hd.tup_ref
      have hz := hsz ds rfl
      refine ⟨.ref a, rfl, a, xs, rfl, .inr hs, .int L, rfl, rfl, _, rfl, ite2 (fun h1 => ?_) (fun h1 => ?_)⟩
      · have e : rowD L n (.tuple ds) = false := by
          show (decide ((ds.length : Int) = L) && ds.all (itemOk n)) = false
          have h2 : ¬ ((ds.length : Int) = L) := by
            intro z
            rw [← hl] at z
            rw [z] at h1
            simp at h1
          rw [decide_eq_false h2]
          rfl
        rw [e] at k
        exact k H (Same.refl H)
      · have h2 : (ds.length : Int) = L := by
          rw [← hl]
          by_cases z : (xs.length : Int) = L
          · exact z
          · exfalso
            apply h1
            have z2 : ¬ (V.int (xs.length : Int) = V.int L) := fun q => z (V.int.inj q)
            rw [decide_eq_false z2]
            rfl
        have e : rowD L n (.tuple ds) = ds.all (itemOk n) := by
          show (decide ((ds.length : Int) = L) && ds.all (itemOk n)) = _
          rw [decide_eq_true h2]
          rfl
        rw [e] at k
        refine ⟨.ref a, rfl, a, rfl, ⟨xs, hs⟩, fun D hD => ?_⟩
        refine lc_tup (K := K) (a := a) (xs := xs) (fun i H' => Same H H' ∧ H' D = some (.lst ((ds.take i).map fun d => V.bl (itemOk n d)))) ⟨same_new hD, upd_same⟩ (fun i H' _ q => same_seqT q.1 hs) ?_ ?_
        · rintro i y H' hy ⟨sm, hD'⟩
          obtain ⟨d, hd1, hd2⟩ := ha.getV hy
          have hi := (List.getElem?_eq_some_iff.mp hd1).1
          have hlen : ((ds.take i).map fun d => V.bl (itemOk n d)).length < sizeLine := by
            rw [List.length_map, List.length_take]
            omega
          have fin : ∀ b : Bool, b = itemOk n d → ∃ acc, H' D = some (.lst acc) ∧ acc.length < sizeLine ∧ Same H (upd H' D (.lst (acc ++ [V.bl b]))) ∧ upd H' D (.lst (acc ++ [V.bl b])) D = some (.lst ((ds.take (i + 1)).map fun d => V.bl (itemOk n d))) := by
            intro b eb
            refine ⟨_, hD', hlen, fun p o z => ?_, ?_⟩
            · rw [upd_ne (ne_of_none z hD)]
              exact sm _ _ z
            · rw [upd_same, List.take_add_one, hd1, List.map_append, eb]
              rfl
          refine ⟨rfl, y, rfl, _, rfl, ite2 (fun h3 => ?_) (fun h3 => ?_)⟩
          · have h4 : y = .non := of_decide_eq_true h3
            subst h4
            cases hd2
            exact fin true rfl
          · refine ⟨y, rfl, .int n, rfl, n, 1, rfl, rfl, B, y, d, 0, n - 1, rfl, same_dt sm hd2, fin _ ?_⟩
            cases hd2 with
            | non => exact absurd (decide_eq_true rfl) h3
            | bl _ => rfl
            | int _ => rfl
            | str _ => rfl
            | lst _ _ _ _ => rfl
            | tup _ _ _ => rfl
            | emp _ _ => rfl
        · rintro H' ⟨sm, hD'⟩
          rw [hl, List.take_length] at hD'
          have e2 : (ds.map fun d => V.bl (itemOk n d)) = (ds.map (itemOk n)).map V.bl := by
            rw [List.map_map]
            rfl
          rw [e2] at hD'
          refine ⟨D, _, rfl, SqL.of hD', ?_⟩
          rw [all_take]
          exact k H' sm
end
def ival (d : PyData) : Int := match d with
  | .int i => i
  | _ => 0
/-- what is wrong with the data as a machine -/
def mends (n : Nat) (e : PyData) : Option Str := match e with
  | .tuple es => if es.length = n then (if es.all isBool = true then none else some "ends") else some "ends"
  | _ => some "ends"
def merr5 (L : Int) (rs : List PyData) (e : PyData) : Option Str :=
  if 1 ≤ rs.length ∧ rs.length ≤ 400 then (if rs.all (rowD L rs.length) = true then mends rs.length e else some "rows") else some "rows"
def merr4 (L : Int) (r e : PyData) : Option Str := match r with
  | .tuple rs => merr5 L rs e
  | _ => some "rows"
def merr3 (l r e : PyData) : Option Str := if numD l 1 3 = true then merr4 (ival l) r e else some "letters"
theorem merr3_no {l r e : PyData} (h : numD l 1 3 = false) : merr3 l r e = some "letters" := by
  unfold merr3
  rw [h]
  rfl
theorem merr3_yes {L : Int} {r e : PyData} (h : numD (.int L) 1 3 = true) : merr3 (.int L) r e = merr4 L r e := by
  unfold merr3
  rw [h]
  rfl
def merr (d : PyData) : Option Str := match d with
  | .tuple [l, r, e] => merr3 l r e
  | _ => some "machine"
def optV : Option Str → V
  | none => .non
  | some x => .str x
section
variable {P : Program} {w : World} {K : PySem.W.Frag} {mg : Str → Option Value} {base : Heap}
def spErr (K : PySem.W.Frag) : Sp := fun vs H Q _ => ∃ (B : Addr → Prop) (x : V) (d : PyData), vs = [x] ∧ Dt B K H x d ∧ nodes d ≤ 100000 ∧ ∀ H', Same H H' → Q (optV (merr d)) H'
theorem scMerr : FnScope ["value", "letters", "rows", "ends", "row", "end"] ["value"] (defScope sErr) := ⟨rfl, rfl, rfl, by decide +kernel, rfl, by decide +kernel, by decide +kernel⟩
theorem ok_merr {f fN fR : Addr} {fd fdN fdR : FuncData} (F : Fun K "machine_error" "machine_error" sErr f fd) (N : FnOk P w K mg base CX0 2 fN fdN ["value", "least", "most"] (spNum K)) (FN : Fun K "is_number" "is_number" sNumber fN fdN) (bN : Binds K fdN ["value", "least", "most"] []) (gN : mg "is_number" = some (.ref fN))
    (R : FnOk P w K mg base CX0 3 fR fdR ["value", "letters", "states"] (spRow K)) (FR : Fun K "is_row" "is_row" sRow fR fdR) (bR : Binds K fdR ["value", "letters", "states"] []) (gR : mg "is_row" = some (.ref fR)) (T : Mg mg) :
    FnOk P w K mg base CX0 4 f fd ["value"] (spErr K) := by
  refine F.ok scMerr (fun vs H Q E h => ?_) (fun cdv A outer s H vs Q E hr h => ?_)
  · obtain ⟨B, x, d, rfl, _⟩ := h
    rfl
  · obtain ⟨B, x, d, rfl, hd, hsz, k⟩ := h
    obtain ⟨t3, mL⟩ := T.mlet
    obtain ⟨t4, mR⟩ := T.mrows
    refine ⟨_, pss_cons (ps_if (PW.pt (pw_or (pt_not (pt_val (pe_callB call_isi (by rfl) T.isi PyProof.Rows.boot_isinstance (pa_cons (pv 0) (pa_cons (pe_bltn (v := .ty "tuple") (by rfl) T.tuple PyProof.Rows.boot_tuple rfl) pa_nil)))))
        (pw_or1 (pt_cmpR op_ne (pe_callB call_len_seq (by rfl) T.len PySem.boot_len (pa_cons (pv 0) pa_nil)) pe_int (nomark _)))))
      (pss_one (ps_ret pe_str)) pss_nil)
      (pss_cons (ps_asg (pv 0) (pg_tup rfl (pgs_cons (pg_name (i := 1) scMerr.nd rfl (.inr rfl)) (pgs_cons (pg_name (i := 2) scMerr.nd rfl (.inr rfl)) (pgs_cons (pg_name (i := 3) scMerr.nd rfl (.inl rfl)) pgs_nil)))))
      (pss_cons (ps_if (pt_not (pt_val (pe_call N (hr.mono (by decide)) (by rfl) gN FN.kp bN .nil pass0 (pa_cons (pv 1) (pa_cons pe_int (pa_cons (pe_glob (v := .int 3) (by rfl) mL ⟨_, rfl⟩) pa_nil)))))) (pss_one (ps_ret pe_str)) pss_nil)
      (pss_cons (ps_if (PW.pt (pw_or (pt_not (pt_val (pe_callB call_isi (by rfl) T.isi PyProof.Rows.boot_isinstance (pa_cons (pv 2) (pa_cons (pe_bltn (v := .ty "tuple") (by rfl) T.tuple PyProof.Rows.boot_tuple rfl) pa_nil)))))
        (pw_or1 (pt_not (pt_chain op_le op_le pe_int (pe_callB call_len_seq (by rfl) T.len PySem.boot_len (pa_cons (pv 2) pa_nil)) (pe_glob (v := .int 400) (by rfl) mR ⟨_, rfl⟩))))))
      (pss_one (ps_ret pe_str)) pss_nil)
      (pss_cons (ps_if (pt_not (pt_val (pe_callB (cr_all rfl) (by rfl) T.all (by decide +kernel) (pa_cons (pe_lc (own := [("row", 4)]) (g := gName 4) (tt := tYes) rfl scMerr.nd (pi_tup (pv 2)) (blkOk_by (N := ["value", "letters", "rows", "ends", "row", "end"]) (sc := defScope sErr) (by decide +kernel)) (fun _ _ _ _ _ => pg_name (i := 4) scMerr.nd rfl (Or.inl rfl)) (fun _ _ _ _ _ => pts_nil)
          (fun _ _ _ _ _ => pe_call R hr (by rfl) gR FR.kp bR .nil pass0 (pa_cons (pv 4) (pa_cons (pv 1) (pa_cons (pe_callB (r := rLen K) call_len_seq (by rfl) T.len PySem.boot_len (pa_cons (pv 2) pa_nil)) pa_nil))))) pa_nil)))) (pss_one (ps_ret pe_str)) pss_nil)
      (pss_cons (ps_if (PW.pt (pw_or (pt_not (pt_val (pe_callB call_isi (by rfl) T.isi PyProof.Rows.boot_isinstance (pa_cons (pv 3) (pa_cons (pe_bltn (v := .ty "tuple") (by rfl) T.tuple PyProof.Rows.boot_tuple rfl) pa_nil)))))
        (pw_or1 (pt_cmpR op_ne (pe_callB call_len_seq (by rfl) T.len PySem.boot_len (pa_cons (pv 3) pa_nil)) (pe_callB call_len_seq (by rfl) T.len PySem.boot_len (pa_cons (pv 2) pa_nil)) (nomark _)))))
      (pss_one (ps_ret pe_str)) pss_nil)
      (pss_cons (ps_if (pt_not (pt_val (pe_callB (cr_all rfl) (by rfl) T.all (by decide +kernel) (pa_cons (pe_lc (own := [("end", 5)]) (g := gName 5) (tt := tYes) rfl scMerr.nd (pi_tup (pv 3)) (blkOk_by (N := ["value", "letters", "rows", "ends", "row", "end"]) (sc := defScope sErr) (by decide +kernel)) (fun _ _ _ _ _ => pg_name (i := 5) scMerr.nd rfl (Or.inl rfl)) (fun _ _ _ _ _ => pts_nil)
          (fun _ _ _ _ _ => pe_callB (r := rIsi K) call_isi (by rfl) T.isi PyProof.Rows.boot_isinstance (pa_cons (pv 5) (pa_cons (pe_bltn (v := .ty "bool") (by rfl) T.bool PyProof.Rows.boot_bool rfl) pa_nil)))) pa_nil)))) (pss_one (ps_ret pe_str)) pss_nil)
      (pss_one (ps_ret pe_non)))))))), ?_⟩
    refine ⟨x, rfl, x, .ty "tuple", _, _, _, rfl, .ty _, tyD hd, kitT d, _, rfl, ?_⟩
    have km : merr d = some "machine" → Q (.str "machine") H := fun e => by
      have z := k H (Same.refl H)
      rw [e] at z
      exact z
    cases d with
    | none => exact km rfl
    | bool _ => exact km rfl
    | int _ => exact km rfl
    | str _ => exact km rfl
    | list _ => exact km rfl
    | dict _ => exact km rfl
    | tuple ds =>
      obtain ⟨a, xs, rfl, nb, hs, ha, hl⟩ := hd.tup_ref
      refine ⟨.ref a, rfl, a, xs, rfl, .inr hs, rfl, _, rfl, ite2 (fun h1 => ?_) (fun h1 => ?_)⟩
      · refine km ?_
        have h2 : ds.length ≠ 3 := by
          intro z
          rw [hl, z] at h1
          exact absurd h1 (by decide)
        match ds, h2 with
        | [], _ => rfl
        | [_], _ => rfl
        | [_, _], _ => rfl
        | [_, _, _], h2 => exact absurd rfl h2
        | _ :: _ :: _ :: _ :: _, _ => rfl
      · have h2 : ds.length = 3 := by
          rw [← hl]
          by_cases z : xs.length = 3
          · exact z
          · exfalso
            apply h1
            have z2 : ¬ (V.int (xs.length : Int) = V.int 3) := fun q => z (by have := V.int.inj q; omega)
            rw [decide_eq_false z2]
            rfl
        obtain ⟨l, r, e, rfl⟩ := three_of h2
        obtain ⟨vl, vr, ve, rfl, hdl, hdr, hde⟩ := dt_three ha
        · skip
          clear km
          have kk : ∀ (H' : Hp) (z : Option Str), Same H H' → merr3 l r e = z → Q (optV z) H' := fun H' z sm e => by
            rw [← e]
            exact k H' sm
          rw [nodes_tup, nodesAll_cons, nodesAll_cons, nodesAll_cons] at hsz
          refine ⟨.ref a, rfl, a, _, rfl, hs, rfl, vl, _, rfl, vr, _, rfl, ve, _, rfl, rfl, ?_⟩
          refine ⟨vl, rfl, B, vl, l, 1, 3, rfl, hdl, _, rfl, ite2 (fun h3 => ?_) (fun h3 => ?_)⟩
          · refine kk H (some "letters") (Same.refl H) ?_
            refine merr3_no ?_
            cases z : numD l 1 3
            · rfl
            · rw [z] at h3
              cases h3
          · have h4 : numD l 1 3 = true := by
              cases z : numD l 1 3
              · rw [z] at h3
                exact absurd rfl h3
              · rfl
            obtain ⟨L, rfl⟩ : ∃ L, l = .int L := by
              cases l with
              | int L => exact ⟨L, rfl⟩
              | _ => cases h4
            cases hdl
            refine ⟨vr, rfl, vr, .ty "tuple", _, _, _, rfl, .ty _, tyD hdr, kitT r, _, rfl, ?_⟩
            rw [merr3_yes h4] at kk
            cases r with
            | none => exact kk H (some "rows") (Same.refl H) rfl
            | bool _ => exact kk H (some "rows") (Same.refl H) rfl
            | int _ => exact kk H (some "rows") (Same.refl H) rfl
            | str _ => exact kk H (some "rows") (Same.refl H) rfl
            | list _ => exact kk H (some "rows") (Same.refl H) rfl
            | dict _ => exact kk H (some "rows") (Same.refl H) rfl
            | tuple rs =>
              have kk : ∀ (H' : Hp) (z : Option Str), Same H H' → merr5 L rs e = z → Q (optV z) H' := kk
              obtain ⟨b, ys, rfl, nb2, hs2, ha2, hl2⟩ := hdr.tup_ref
              rw [nodes_tup] at hsz
              have lrs := len_nodes rs
              have bad : ¬ (1 ≤ rs.length ∧ rs.length ≤ 400) → Q (.str "rows") H := fun z => by
                refine kk H (some "rows") (Same.refl H) ?_
                unfold merr5
                rw [if_neg z]
              refine ⟨.ref b, rfl, b, ys, rfl, .inr hs2, 1, _, rfl, rfl, _, rfl, ite2 (fun h5 => ?_) (fun h5 => ?_)⟩
              rotate_left
              · refine ⟨_, rfl, bad fun q => h5 (decide_eq_true ?_)⟩
                omega
              · have h5 := of_decide_eq_true h5
                refine ⟨_, 400, rfl, rfl, _, rfl, ite2 (fun h6 => ?_) (fun h6 => ?_)⟩
                · refine bad fun q => ?_
                  have h7 : decide ((ys.length : Int) ≤ 400) = true := decide_eq_true (by omega)
                  rw [h7] at h6
                  cases h6
                · have h7 : (ys.length : Int) ≤ 400 := by
                    cases z : decide ((ys.length : Int) ≤ 400)
                    · rw [z] at h6
                      exact absurd rfl h6
                    · exact of_decide_eq_true z
                  have h8 : 1 ≤ rs.length ∧ rs.length ≤ 400 := by omega
                  have kk2 : ∀ (H' : Hp) (z : Option Str), Same H H' → (if rs.all (rowD L rs.length) = true then mends rs.length e else some "rows") = z → Q (optV z) H' := fun H' z sm q => by
                    refine kk H' z sm ?_
                    unfold merr5
                    rw [if_pos h8]
                    exact q
                  have hz : rs.length < sizeLine := small1000 (by omega)
                  refine ⟨.ref b, rfl, b, rfl, ⟨ys, hs2⟩, fun D hD => ?_⟩
                  refine lc_tup (K := K) (a := b) (xs := ys) (BInv (rowD L rs.length) rs H D) ⟨same_new hD, upd_same⟩ (fun i H' _ q => same_seqT q.1 hs2) ?_ ?_
                  · rintro i y H' hy p
                    obtain ⟨d, hm, hd', fin⟩ := bturn ha2 hz hD hy p
                    have hmn := mem_nodes hm
                    refine ⟨rfl, y, rfl, .int L, rfl, .ref b, rfl, b, ys, rfl, .inr (same_seqT p.1 hs2), B, y, d, L, _, rfl, hd', fun zs ez => ?_, fun H'' sm => fin H'' sm _ (by rw [hl2])⟩
                    subst ez
                    rw [nodes_tup] at hmn
                    have := len_nodes zs
                    exact Nat.lt_of_le_of_lt (show zs.length ≤ 100000 by omega) (by decide)
                  · rintro H1 p
                    obtain ⟨sm, hS⟩ := bend (K := K) hl2 p
                    refine ⟨D, _, rfl, hS, _, rfl, ?_⟩
                    rw [all_take]
                    refine ite2 (fun h9 => ?_) (fun h9 => ?_)
                    · refine kk2 H1 (some "rows") sm ?_
                      rw [if_neg]
                      intro q
                      rw [q] at h9
                      cases h9
                    · have h10 : rs.all (rowD L rs.length) = true := by
                        cases z : rs.all (rowD L rs.length)
                        · rw [z] at h9
                          exact absurd rfl h9
                        · rfl
                      have kk3 : ∀ (H' : Hp) (z : Option Str), Same H H' → mends rs.length e = z → Q (optV z) H' := fun H' z sm q => by
                        refine kk2 H' z sm ?_
                        rw [if_pos h10]
                        exact q
                      have hde1 := same_dt sm hde
                      refine ⟨ve, rfl, ve, .ty "tuple", _, _, _, rfl, .ty _, tyD hde1, kitT e, _, rfl, ?_⟩
                      cases e with
                      | none => exact kk3 H1 (some "ends") sm rfl
                      | bool _ => exact kk3 H1 (some "ends") sm rfl
                      | int _ => exact kk3 H1 (some "ends") sm rfl
                      | str _ => exact kk3 H1 (some "ends") sm rfl
                      | list _ => exact kk3 H1 (some "ends") sm rfl
                      | dict _ => exact kk3 H1 (some "ends") sm rfl
                      | tuple es =>
                        obtain ⟨c, us, rfl, nb3, hs3, ha3, hl3⟩ := hde1.tup_ref
                        refine ⟨.ref c, rfl, c, us, rfl, .inr hs3, .ref b, rfl, b, ys, rfl, .inr (same_seqT sm hs2), rfl, _, rfl, ite2 (fun h11 => ?_) (fun h11 => ?_)⟩
                        · refine kk3 H1 (some "ends") sm ?_
                          unfold mends
                          show (if es.length = rs.length then _ else _) = _
                          rw [if_neg]
                          intro q
                          rw [hl3, hl2, q, decide_eq_true rfl] at h11
                          cases h11
                        · have h12 : es.length = rs.length := by
                            rw [← hl3, ← hl2]
                            by_cases z : us.length = ys.length
                            · exact z
                            · exfalso
                              apply h11
                              have z2 : ¬ (V.int (us.length : Int) = V.int (ys.length : Int)) := fun q => z (by have := V.int.inj q; omega)
                              rw [decide_eq_false z2]
                              rfl
                          have m5 : mends rs.length (.tuple es) = (if es.all isBool = true then (none : Option Str) else some ("ends" : Str)) := by
                            show (if es.length = rs.length then (if es.all isBool = true then none else some ("ends" : Str)) else some "ends") = _
                            exact if_pos h12
                          refine ⟨.ref c, rfl, c, rfl, ⟨us, hs3⟩, fun D2 hD2 => ?_⟩
                          refine lc_tup (K := K) (a := c) (xs := us) (BInv isBool es H1 D2) ⟨same_new hD2, upd_same⟩ (fun i H' _ q => same_seqT q.1 hs3) ?_ ?_
                          · rintro i y H' hy p
                            obtain ⟨d, hm, hd', fin⟩ := bturn ha3 (by omega) hD2 hy p
                            exact ⟨rfl, y, rfl, y, .ty "bool", _, _, _, rfl, .ty _, tyD hd', kitB' d, fin H' (Same.refl H') _ rfl⟩
                          · rintro H2 p
                            obtain ⟨sm2, hS2⟩ := bend (K := K) hl3 p
                            refine ⟨D2, _, rfl, hS2, _, rfl, ?_⟩
                            rw [all_take]
                            have sm3 : Same H H2 := fun b o z => sm2 b o (sm b o z)
                            refine ite2 (fun h13 => ?_) (fun h13 => ?_)
                            · have h14 : es.all isBool = false := by
                                cases z : es.all isBool
                                · rfl
                                · rw [z] at h13
                                  cases h13
                              refine kk3 H2 (some "ends") sm3 (m5.trans ?_)
                              rw [h14]
                              rfl
                            · have h14 : es.all isBool = true := by
                                cases z : es.all isBool
                                · rw [z] at h13
                                  exact absurd rfl h13
                                · rfl
                              refine kk3 H2 none sm3 (m5.trans ?_)
                              rw [h14]
                              rfl
end
/-! ### queries, as data -/
def inS (d : PyData) (zs : List Str) : Bool := zs.any fun z => strIs d z
def kindD (L : Int) (d : PyData) : Bool := match d with
  | .tuple [l, r, _] => (decide (merr d = none) && decide (ival l = L)) && decide (tlen r ≤ 6)
  | _ => false
def heldQ (L : Int) (rec : PyData → Bool) (x y : PyData) : Bool :=
  if inS x ["below", "above", "like", "is"] = true then wordD L 20 y
  else if strIs x "has" = true then wordD L 4 y && !(strIs y "")
  else if strIs x "of" = true then kindD L y
  else if strIs x "not" = true then rec y
  else if inS x ["all", "some"] = true then (match y with | .tuple ds => decide (ds.length ≤ 4) && ds.all rec | _ => false)
  else false
def isQ (L : Int) (F : PyData → Bool) : Nat → PyData → Bool
  | 0, _ => false
  | n + 1, d => match d with
    | .tuple [x, y] => if strIs x "seen" = true then false else heldQ L (isQ L F n) x y
    | .tuple [x, l, q] => if strIs x "seen" = true then F l && isQ L F n q else false
    | _ => false
def lawStep (L : Int) (s : PyData) : Bool := match s with
  | .tuple (x :: r) => (strIs x "stop" || strIs x "cut") && stepD L (.tuple (x :: r))
  | _ => false
def lawLine (L : Int) (d : PyData) : Bool := match d with
  | .tuple ds => decide (ds.length ≤ 3) && ds.all (lawStep L)
  | _ => false
def fullLine (L : Int) (d : PyData) : Bool := (lineE L d).isNone
theorem full_tup {L : Int} (ds : List PyData) : fullLine L (.tuple ds) = (decide (ds.length ≤ 3) && ds.all (stepD L)) := by
  unfold fullLine
  by_cases h : ds.all (stepD L) = true
  · rw [lineE_ok h, h, Bool.and_true]
    by_cases q : ds.length ≤ 3
    · rw [if_pos q, decide_eq_true q]
      rfl
    · rw [if_neg q, decide_eq_false q]
      rfl
  · have e : ds.all (stepD L) = false := by
      cases z : ds.all (stepD L)
      · rfl
      · exact absurd z h
    rw [e, Bool.and_false]
    have key : ∀ (xs : List PyData) (k : Nat), xs.all (stepD L) = false → ∃ j, firstBad L xs k = some j := by
      intro xs
      induction xs with
      | nil => exact fun k h => by cases h
      | cons y ys ih =>
        intro k h
        unfold firstBad
        by_cases hy : stepD L y = true
        · rw [if_pos hy]
          rw [List.all_cons, hy, Bool.true_and] at h
          exact ih _ h
        · rw [if_neg hy]
          exact ⟨k, rfl⟩
    obtain ⟨j, hj⟩ := key ds 0 e
    show (match firstBad L ds 0 with | some k => some (some k, ("step" : Str)) | none => if ds.length ≤ 3 then none else some (none, ("many" : Str))).isNone = false
    rw [hj]
    rfl
/-! ### what drawn queries are made of -/
def StepS (s : PyData) : Prop := (∃ us m, s = .tuple [.str "cut", .tuple us, .int m] ∧ ∀ u ∈ us, ∃ i, u = PyData.int i) ∨ (∃ x : Str, s = .tuple [.str "stop", .str x] ∧ x ≠ "pass" ∧ x ≠ "swap")
def LineS (l : PyData) : Prop := ∃ ss, l = .tuple ss ∧ ∀ s ∈ ss, StepS s
def QS (L : Int) (q : PyData) : Prop := ∃ (nm : Str) (r : PyData) (rs : List PyData), q = .tuple (.str nm :: r :: rs) ∧ ∀ y ∈ r :: rs, stepD L y = false
inductive Src (L : Int) : PyData → Prop
  | leaf {x : PyData} (h : ∀ es, x ≠ .tuple es) : Src L x
  | tup {ds : List PyData} (h : ∀ y ∈ ds, Src L y) (n : PyData.str "seen" ∉ ds) : Src L (.tuple ds)
  | seen {l q : PyData} (hl : Src L l) (hq : Src L q) (ll : LineS l) (qq : QS L q) : Src L (.tuple [.str "seen", l, q])
theorem Src.kid {L : Int} {ds : List PyData} (h : Src L (.tuple ds)) {y : PyData} (hy : y ∈ ds) : Src L y := by
  cases h with
  | leaf h => exact absurd rfl (h _)
  | tup h n => exact h y hy
  | seen hl hq ll qq =>
    rcases List.mem_cons.mp hy with rfl | hy
    · exact .leaf (str_no _)
    · rcases List.mem_cons.mp hy with rfl | hy
      · exact hl
      · rw [List.mem_singleton.mp hy]
        exact hq
theorem int_no (i : Int) : ∀ es, PyData.int i ≠ .tuple es := fun _ e => by cases e
theorem near_kid {L : Int} {k : Nat} {s : PyData} {es : List PyData} (hs : Src L s) (h : Near k s (.tuple es)) : ∀ e ∈ es, ∃ s', Src L s' ∧ Near k s' e := fun e he => by
  rcases near_tup h es rfl with ⟨ds, rfl, w⟩ | ⟨k1, o⟩
  · obtain ⟨y, hy, hn⟩ := w.mem he
    exact ⟨y, hs.kid hy, hn⟩
  · rcases o e he with o | o
    · exact ⟨_, .leaf (int_no 0), o.mono _ (by omega)⟩
    · exact ⟨_, .leaf (str_no "a"), o.mono _ (by omega)⟩
theorem not_ods {z : Str} (h : z ≠ "a" ∧ z ≠ "c" ∧ z ≠ "d" ∧ z ≠ "" ∧ z ≠ "cut" ∧ z ≠ "pass" ∧ z ≠ "ab") : PyData.str z ∉ ods := by
  intro q
  simp only [ods, List.mem_cons, PyData.str.injEq, reduceCtorEq, false_or, or_false, List.not_mem_nil] at q
  rcases q with q | q | q | q | q | q | q
  · exact h.1 q
  · exact h.2.1 q
  · exact h.2.2.1 q
  · exact h.2.2.2.1 q
  · exact h.2.2.2.2.1 q
  · exact h.2.2.2.2.2.1 q
  · exact h.2.2.2.2.2.2 q
theorem seen_no : PyData.str "seen" ∉ ods := not_ods ⟨by decide, by decide, by decide, by decide, by decide, by decide, by decide⟩
theorem swap_no : PyData.str "swap" ∉ ods := not_ods ⟨by decide, by decide, by decide, by decide, by decide, by decide, by decide⟩
theorem tupAll_tup {n : Int} {f : PyData → Bool} {d : PyData} (h : tupAll n f d = true) : ∃ xs, d = .tuple xs ∧ (xs.length : Int) = n ∧ ∀ x ∈ xs, f x = true := by
  cases d with
  | tuple xs =>
    rw [show tupAll n f (.tuple xs) = (decide ((xs.length : Int) = n) && xs.all f) from rfl, Bool.and_eq_true] at h
    exact ⟨xs, rfl, of_decide_eq_true h.1, fun x hx => List.all_eq_true.mp h.2 x hx⟩
  | none => cases h
  | bool _ => cases h
  | int _ => cases h
  | str _ => cases h
  | list _ => cases h
  | dict _ => cases h
theorem ne_of_len {L : Int} (L1 : 1 ≤ L) {xs : List PyData} (h : (xs.length : Int) = L) : xs ≠ [] := fun e => by
  rw [e] at h
  rw [← h] at L1
  exact absurd L1 (by decide)
theorem turn_TN {L : Int} (L1 : 1 ≤ L) {d : PyData} (h : turnD L d = true) : TN d := by
  cases d with
  | tuple rs =>
    rw [show turnD L (.tuple rs) = ((decide (1 ≤ rs.length) && decide (rs.length ≤ 4)) && rowsD L rs) from rfl, Bool.and_eq_true, Bool.and_eq_true] at h
    have l1 := of_decide_eq_true h.1.1
    refine ⟨rs, rfl, fun e => ?_, fun r hr => ?_⟩
    · rw [e] at l1
      exact absurd l1 (by decide)
    · obtain ⟨xs, rfl, hl, hx⟩ := tupAll_tup (List.all_eq_true.mp h.2 r hr)
      refine ⟨xs, rfl, ne_of_len L1 hl, fun z hz => ?_⟩
      have hz := hx z hz
      cases z with
      | int i => exact ⟨i, rfl⟩
      | none => cases hz
      | bool _ => cases hz
      | str _ => cases hz
      | list _ => cases hz
      | tuple _ => cases hz
      | dict _ => cases hz
  | none => cases h
  | bool _ => cases h
  | int _ => cases h
  | str _ => cases h
  | list _ => cases h
  | dict _ => cases h
theorem put_TS {L n : Int} (L1 : 1 ≤ L) (n1 : 1 ≤ n) {d : PyData} (h : putD L n d = true) : TS d := by
  obtain ⟨rs, rfl, hl, hr⟩ := tupAll_tup h
  refine ⟨rs, rfl, ne_of_len n1 hl, fun r hrr => ?_⟩
  obtain ⟨xs, rfl, hl, hx⟩ := tupAll_tup (hr r hrr)
  refine ⟨xs, rfl, ne_of_len L1 hl, fun z hz => ?_⟩
  have hz := hx z hz
  cases z with
  | str i => exact ⟨i, rfl⟩
  | none => cases hz
  | bool _ => cases hz
  | int _ => cases hz
  | list _ => cases hz
  | tuple _ => cases hz
  | dict _ => cases hz
theorem strIs_eq {d : PyData} {z : Str} (h : strIs d z = true) : d = .str z := by
  cases d with
  | str x => rw [show x = z from of_decide_eq_true h]
  | none => cases h
  | bool _ => cases h
  | int _ => cases h
  | tuple _ => cases h
  | list _ => cases h
  | dict _ => cases h
/-- a right step is one of the law's, or a pass, or a swap -/
theorem step_kinds {L : Int} (L1 : 1 ≤ L) {d : PyData} (h : stepD L d = true) : lawStep L d = true ∨ Wp 0 d ∨ Has "swap" d := by
  match d, h with
  | .tuple (x :: y :: r), h0 =>
    have h : stepL L x (y :: r) = true := h0
    unfold stepL at h
    by_cases e1 : strIs x "cut" = true
    · left
      show ((strIs x "stop" || strIs x "cut") && stepD L (.tuple (x :: y :: r))) = true
      rw [h0, e1, Bool.or_true]
      rfl
    · rw [if_neg e1] at h
      by_cases e2 : strIs x "stop" = true
      · left
        show ((strIs x "stop" || strIs x "cut") && stepD L (.tuple (x :: y :: r))) = true
        rw [h0, e2, Bool.true_or]
        rfl
      · rw [if_neg e2] at h
        by_cases e3 : strIs x "pass" = true
        · rw [if_pos e3] at h
          right
          left
          match r, h with
          | [b], h =>
            rw [Bool.and_eq_true] at h
            have ht := turn_TN L1 h.1
            have n1 : 1 ≤ ((tlen y : Nat) : Int) := by
              obtain ⟨rs, rfl, n, _⟩ := ht
              have := List.length_pos_iff.mpr n
              show (1 : Int) ≤ ((rs.length : Nat) : Int)
              omega
            rw [strIs_eq e3]
            exact wp_pass (rest := []) ht (put_TS L1 n1 h.2)
          | [], h => cases h
          | _ :: _ :: _, h => cases h
        · rw [if_neg e3] at h
          by_cases e4 : strIs x "swap" = true
          · right
            right
            rw [strIs_eq e4]
            exact .tup List.mem_cons_self .str
          · rw [if_neg e4] at h
            cases h
theorem steps_far {s : PyData} (h : StepS s) : ¬ Wp 3 s := by
  rcases h with ⟨us, m, rfl, hu⟩ | ⟨x, rfl, hx, _⟩
  · exact far_cut hu
  · exact far_stop hx
theorem has_str {s x : Str} (h : Has s (.str x)) : x = s := by
  cases h
  rfl
theorem has_int {s : Str} {x : Int} (h : Has s (.int x)) : False := by
  cases h
theorem steps_swap {s : PyData} (h : StepS s) : ¬ Has "swap" s := by
  intro q
  rcases h with ⟨us, m, rfl, hu⟩ | ⟨x, rfl, _, hx⟩
  · cases q with
    | tup h k =>
      rcases List.mem_cons.mp h with rfl | h
      · exact absurd (has_str k) (by decide)
      · rcases List.mem_cons.mp h with rfl | h
        · cases k with
          | tup h k =>
            obtain ⟨i, rfl⟩ := hu _ h
            exact has_int k
        · rw [List.mem_singleton.mp h] at k
          exact has_int k
  · cases q with
    | tup h k =>
      rcases List.mem_cons.mp h with rfl | h
      · exact absurd (has_str k) (by decide)
      · rw [List.mem_singleton.mp h] at k
        exact hx (has_str k)
theorem near_step {L : Int} (L1 : 1 ≤ L) {s x : PyData} (f1 : ¬ Wp 3 s) (f2 : ¬ Has "swap" s) (h : Near 3 s x) (hx : stepD L x = true) : lawStep L x = true := by
  rcases step_kinds L1 hx with h1 | h1 | h1
  · exact h1
  · exact absurd (wp_near h 0 h1) f1
  · exact absurd (has_near swap_no h h1) f2
theorem leaf_far {x : PyData} (n1 : ∀ es, x ≠ .tuple es) : ¬ Wp 3 x := far_leaf n1
/-- the two looks agree on a line where each right step is the law's, or where one is wrong -/
theorem lines_eq {L : Int} {es : List PyData} (h : (∃ x ∈ es, stepD L x = false) ∨ ∀ x ∈ es, stepD L x = true → lawStep L x = true) : fullLine L (.tuple es) = lawLine L (.tuple es) := by
  rw [full_tup]
  show _ = (decide (es.length ≤ 3) && es.all (lawStep L))
  have law_step : ∀ x, lawStep L x = true → stepD L x = true := fun x q => by
    match x, q with
    | .tuple (x :: r), q =>
      rw [show lawStep L (.tuple (x :: r)) = ((strIs x "stop" || strIs x "cut") && stepD L (.tuple (x :: r))) from rfl, Bool.and_eq_true] at q
      exact q.2
  congr 1
  rcases h with ⟨x, hx, e⟩ | h
  · have a : es.all (stepD L) = false := by
      cases z : es.all (stepD L)
      · rfl
      · rw [List.all_eq_true.mp z x hx] at e
        cases e
    have b : es.all (lawStep L) = false := by
      cases z : es.all (lawStep L)
      · rfl
      · rw [law_step x (List.all_eq_true.mp z x hx)] at e
        cases e
    rw [a, b]
  · cases z : es.all (lawStep L)
    · cases z2 : es.all (stepD L)
      · rfl
      · have : es.all (lawStep L) = true := List.all_eq_true.mpr fun x hx => h x hx (List.all_eq_true.mp z2 x hx)
        rw [z] at this
        cases this
    · exact List.all_eq_true.mpr fun x hx => law_step x (List.all_eq_true.mp z x hx)
theorem line_tup {L : Int} {d : PyData} (h : ∀ es, d = .tuple es → fullLine L (.tuple es) = lawLine L (.tuple es)) : fullLine L d = lawLine L d := by
  cases d with
  | tuple es => exact h es rfl
  | none => rfl
  | bool _ => rfl
  | int _ => rfl
  | str _ => rfl
  | list _ => rfl
  | dict _ => rfl
theorem near_line {L : Int} (L1 : 1 ≤ L) {l d : PyData} (hl : LineS l) (h : Near 3 l d) : fullLine L d = lawLine L d := by
  refine line_tup fun es ed => ?_
  subst ed
  obtain ⟨ss, rfl, hs⟩ := hl
  refine lines_eq (.inr fun x hx e => ?_)
  rcases near_tup h es rfl with ⟨ds, e1, w⟩ | ⟨k1, o⟩
  · cases e1
    obtain ⟨y, hy, hn⟩ := w.mem hx
    exact near_step L1 (steps_far (hs y hy)) (steps_swap (hs y hy)) hn e
  · rcases o x hx with o | o
    · exact near_step L1 (far_leaf (int_no 0)) (fun q => has_int q) (o.mono _ (by omega)) e
    · exact near_step L1 (far_leaf (str_no "a")) (fun q => absurd (has_str q) (by decide)) (o.mono _ (by omega)) e
theorem near_leaf_line {L : Int} (L1 : 1 ≤ L) {l d : PyData} (n1 : ∀ es, l ≠ .tuple es) (h : Near 1 l d) : fullLine L d = lawLine L d := by
  refine line_tup fun es ed => ?_
  subst ed
  rcases near_tup h es rfl with ⟨ds, e1, w⟩ | ⟨k1, o⟩
  · exact absurd e1 (n1 ds)
  · refine lines_eq (.inr fun x hx e => ?_)
    rcases o x hx with o | o
    · rw [Near.zero o] at e
      cases e
    · rw [Near.zero o] at e
      cases e
theorem near_query_line {L : Int} {q d : PyData} (hq : QS L q) (h : Near 1 q d) : fullLine L d = lawLine L d := by
  refine line_tup fun es ed => ?_
  subst ed
  obtain ⟨nm, r, rs, rfl, hr⟩ := hq
  have hr0 := hr r List.mem_cons_self
  have str0 : stepD L (.str nm) = false := rfl
  have mem0 : (PyData.str nm) ∈ PyData.str nm :: r :: rs := List.mem_cons_self
  have nil : fullLine L (.tuple []) = lawLine L (.tuple []) := lines_eq (.inr fun x hx => absurd hx List.not_mem_nil)
  cases h with
  | same => exact lines_eq (.inl ⟨_, mem0, str0⟩)
  | step h c =>
    have e := Near.zero h
    subst e
    cases c with
    | odd hm =>
      rcases ods_tup hm with rfl | rfl | rfl
      · exact nil
      · exact lines_eq (.inl ⟨_, List.mem_cons_self, rfl⟩)
      · exact lines_eq (.inl ⟨_, List.mem_cons_self, rfl⟩)
    | del i hi =>
      cases i with
      | zero => exact lines_eq (.inl ⟨r, List.mem_cons_self, hr0⟩)
      | succ i => exact lines_eq (.inl ⟨_, List.mem_cons_self, str0⟩)
    | dup i hx => exact lines_eq (.inl ⟨_, List.mem_append.mpr (.inl mem0), str0⟩)
    | rev => exact lines_eq (.inl ⟨_, List.mem_reverse.mpr mem0, str0⟩)
    | sub i hx c =>
      cases i with
      | zero => exact lines_eq (.inl ⟨r, List.mem_cons_of_mem _ List.mem_cons_self, hr0⟩)
      | succ i => exact lines_eq (.inl ⟨_, List.mem_cons_self, str0⟩)
theorem seen_line {L : Int} (L1 : 1 ≤ L) {s l' q' : PyData} (hs : Src L s) (h : Near 3 s (.tuple [.str "seen", l', q'])) : fullLine L l' = lawLine L l' := by
  rcases near_tup h _ rfl with ⟨ds, rfl, w⟩ | ⟨k1, o⟩
  · obtain ⟨y, hy, hn⟩ := w.mem (List.mem_cons_self (a := PyData.str "seen"))
    rw [near_str hn seen_no] at hy
    cases hs with
    | leaf h => exact absurd rfl (h _)
    | tup h n => exact absurd hy n
    | seen hl hq ll qq =>
      rename_i l q
      obtain ⟨nm, r, rs, eq, hr⟩ := id qq
      rcases w with w | ⟨k1, ms, hlen, hm, w⟩ | ⟨k1, w⟩ | ⟨k2, w⟩
      · exact near_line L1 ll (w.2 1 l l' rfl rfl)
      · exact absurd w.1.symm hlen
      · have := near_str (w.2 0 q (.str "seen") rfl rfl) seen_no
        rw [eq] at this
        cases this
      · obtain ⟨y, hy, hn⟩ := w l' (List.mem_cons_of_mem _ List.mem_cons_self)
        rcases List.mem_cons.mp hy with rfl | hy
        · exact near_leaf_line L1 (str_no _) hn
        · rcases List.mem_cons.mp hy with rfl | hy
          · exact near_line L1 ll (hn.mono _ (by omega))
          · rw [List.mem_singleton.mp hy] at hn
            exact near_query_line qq hn
  · rcases o _ (List.mem_cons_self (a := PyData.str "seen")) with o | o
    · have := near_str o seen_no
      cases this
    · have := near_str o seen_no
      rw [PyData.str.injEq] at this
      exact absurd this (by decide)
theorem all_cong {f g : PyData → Bool} : ∀ {ds : List PyData}, (∀ d ∈ ds, f d = g d) → ds.all f = ds.all g
  | [], _ => rfl
  | d :: ds, h => by
    rw [List.all_cons, List.all_cons, h d List.mem_cons_self, all_cong fun e he => h e (List.mem_cons_of_mem _ he)]
theorem held_eq {L : Int} {f g : PyData → Bool} {x y : PyData} (h1 : f y = g y) (h2 : ∀ ds, y = .tuple ds → ∀ d ∈ ds, f d = g d) : heldQ L f x y = heldQ L g x y := by
  unfold heldQ
  rw [h1]
  congr 5
  cases y with
  | tuple ds =>
    show (decide (ds.length ≤ 4) && ds.all f) = (decide (ds.length ≤ 4) && ds.all g)
    rw [all_cong (h2 ds rfl)]
  | none => rfl
  | bool _ => rfl
  | int _ => rfl
  | str _ => rfl
  | list _ => rfl
  | dict _ => rfl
/-- near to what drawn queries are made of, both looks tell the same -/
theorem isq_eq {L : Int} (L1 : 1 ≤ L) : ∀ (n : Nat) (d : PyData), (∃ s, Src L s ∧ Near 3 s d) → isQ L (fullLine L) n d = isQ L (lawLine L) n d
  | 0, _, _ => rfl
  | n + 1, d, h => by
    obtain ⟨s, hs, hn⟩ := h
    match d, hn with
    | .tuple [x, y], hn =>
      show (if strIs x "seen" = true then false else heldQ L (isQ L (fullLine L) n) x y) = (if strIs x "seen" = true then false else heldQ L (isQ L (lawLine L) n) x y)
      have ky := near_kid hs hn y (List.mem_cons_of_mem _ List.mem_cons_self)
      rw [held_eq (isq_eq L1 n y ky) fun ds e z hz => by
        subst e
        obtain ⟨s', hs', hn'⟩ := ky
        exact isq_eq L1 n z (near_kid hs' hn' z hz)]
    | .tuple [x, l, q], hn =>
      show (if strIs x "seen" = true then fullLine L l && isQ L (fullLine L) n q else false) = (if strIs x "seen" = true then lawLine L l && isQ L (lawLine L) n q else false)
      by_cases e : strIs x "seen" = true
      · rw [if_pos e, if_pos e]
        have kq := near_kid hs hn q (List.mem_cons_of_mem _ (List.mem_cons_of_mem _ List.mem_cons_self))
        rw [isq_eq L1 n q kq]
        rw [strIs_eq e] at hn
        rw [seen_line L1 hs hn]
      · rw [if_neg e, if_neg e]
    | .tuple [], _ => rfl
    | .tuple [_], _ => rfl
    | .tuple (_ :: _ :: _ :: _ :: _), _ => rfl
    | .none, _ => rfl
    | .bool _, _ => rfl
    | .int _, _ => rfl
    | .str _, _ => rfl
    | .list _, _ => rfl
    | .dict _, _ => rfl
/-! ### steps, lines and words as they are drawn -/
def chr1 (c : Nat) : Str := ⟨#[c]⟩
def mkS (cs : List Nat) : Str := ⟨cs.toArray⟩
theorem tl_mkS (cs : List Nat) : TL.tl (mkS cs) = cs := rfl
theorem mkS_tl (z : Str) : mkS (TL.tl z) = z := TL.ext_tl rfl
theorem mkS_len (cs : List Nat) : (mkS cs).length = cs.length := TL.len_tl _
def LetS (L : Int) (z : Str) : Prop := ∀ c ∈ z.cps.toList, c ∈ (abcS L).cps.toList
inductive Stp
  | cut (u : List Int) (m : Int)
  | stop (c : Nat)
  | pass (rows : List (List Nat)) (outs : List (List Nat))
  | swap (ps : List (Str × Str))
def natD (n : Nat) : PyData := .int (n : Int)
def sgD (c : Nat) : PyData := .str (chr1 c)
def prD (p : Str × Str) : PyData := .tuple [.str p.1, .str p.2]
def Stp.dat : Stp → PyData
  | .cut u m => .tuple [.str "cut", .tuple (u.map PyData.int), .int m]
  | .stop c => .tuple [.str "stop", sgD c]
  | .pass rows outs => .tuple [.str "pass", .tuple (rows.map fun r => .tuple (r.map natD)), .tuple (outs.map fun r => .tuple (r.map sgD))]
  | .swap ps => .tuple [.str "swap", .tuple (ps.map prD)]
def Ltr (L : Int) (c : Nat) : Prop := c ∈ (abcS L).cps.toList
def Stp.Ok (L : Int) : Stp → Prop
  | .cut u m => (u.length : Int) = L ∧ (∀ x ∈ u, 0 ≤ x ∧ x ≤ 9) ∧ 0 ≤ m ∧ m ≤ 30
  | .stop c => Ltr L c
  | .pass rows outs => 1 ≤ rows.length ∧ rows.length ≤ 4 ∧ outs.length = rows.length ∧ (∀ r ∈ rows, (r.length : Int) = L ∧ ∀ x ∈ r, x < rows.length) ∧ ∀ o ∈ outs, (o.length : Int) = L ∧ ∀ c ∈ o, Ltr L c
  | .swap ps => ps.length ≤ 4 ∧ ∀ p ∈ ps, LetS L p.1 ∧ LetS L p.2 ∧ 1 ≤ p.1.length ∧ p.1.length ≤ 2 ∧ p.2.length = p.1.length
/-! a cut -/
def wt (u : List Int) (c : Nat) : Int := u.getD (c - 97) 0
def cutN (u : List Int) (m : Int) : Int → List Nat → Nat
  | _, [] => 0
  | n, c :: cs => if n + wt u c > m then 0 else cutN u m (n + wt u c) cs + 1
def sums (u : List Int) (cs : List Nat) : Int := (cs.map (wt u)).sum
theorem sums_nil {u : List Int} : sums u [] = 0 := rfl
theorem sums_cons {u : List Int} {c : Nat} {cs : List Nat} : sums u (c :: cs) = wt u c + sums u cs := by
  unfold sums
  rw [List.map_cons, List.sum_cons]
theorem sums_nn {u : List Int} (h : ∀ x ∈ u, 0 ≤ x) : ∀ cs : List Nat, 0 ≤ sums u cs
  | [] => Int.le_refl 0
  | c :: cs => by
    rw [sums_cons]
    have h1 := sums_nn h cs
    have h2 : 0 ≤ wt u c := by
      unfold wt
      rw [List.getD_eq_getElem?_getD]
      cases e : u[c - 97]? with
      | none => exact Int.le_refl 0
      | some x => exact h x (List.mem_of_getElem? e)
    omega
theorem sums_take {u : List Int} {cs : List Nat} {i c : Nat} (h : cs[i]? = some c) : sums u (cs.take (i + 1)) = sums u (cs.take i) + wt u c := by
  unfold sums
  rw [List.take_add_one, h, List.map_append, List.sum_append]
  simp
theorem cutN_le {u : List Int} {m : Int} : ∀ {n : Int} {cs : List Nat}, cutN u m n cs ≤ cs.length
  | _, [] => Nat.le_refl 0
  | n, c :: cs => by
    unfold cutN
    split
    · exact Nat.zero_le _
    · have := cutN_le (u := u) (m := m) (n := n + wt u c) (cs := cs)
      rw [List.length_cons]
      omega
theorem cutN_drop {u : List Int} {m n : Int} {cs : List Nat} {i c : Nat} (h : cs[i]? = some c) : cutN u m n (cs.drop i) = if n + wt u c > m then 0 else cutN u m (n + wt u c) (cs.drop (i + 1)) + 1 := by
  have hl := (List.getElem?_eq_some_iff.mp h).1
  have he := (List.getElem?_eq_some_iff.mp h).2
  rw [List.drop_eq_getElem_cons hl, he]
  rfl
/-- the law counts the beginnings that do not pass the most -/
theorem cutN_count {u : List Int} {m : Int} (h : ∀ x ∈ u, 0 ≤ x) : ∀ {n : Int} {cs : List Nat}, n ≤ m → ((List.range (cs.length + 1)).filter fun e => decide (n + sums u (cs.take e) ≤ m)).length = cutN u m n cs + 1
  | n, [], hn => by
    show ((List.range 1).filter fun e => decide (n + sums u (List.take e []) ≤ m)).length = 1
    rw [show List.range 1 = [0] from rfl, List.filter_cons, if_pos]
    · rfl
    · rw [List.take_nil, sums_nil]
      exact decide_eq_true (by omega)
  | n, c :: cs, hn => by
    have hw : 0 ≤ wt u c := by
      have := sums_nn h [c]
      rw [sums_cons, sums_nil] at this
      omega
    rw [List.length_cons, List.range_succ_eq_map, List.filter_cons, if_pos (by rw [List.take_zero, sums_nil]; exact decide_eq_true (by omega)), List.length_cons, List.filter_map, List.length_map]
    have e : (fun e => decide (n + sums u ((c :: cs).take e) ≤ m)) ∘ Nat.succ = fun e => decide (n + wt u c + sums u (cs.take e) ≤ m) := by
      funext k
      show decide (n + sums u (c :: cs.take k) ≤ m) = _
      rw [sums_cons, Int.add_assoc]
    rw [e]
    unfold cutN
    split
    · rename_i q
      have : ((List.range (cs.length + 1)).filter fun e => decide (n + wt u c + sums u (cs.take e) ≤ m)) = [] := by
        rw [List.filter_eq_nil_iff]
        intro k _ z
        have := of_decide_eq_true z
        have := sums_nn h (cs.take k)
        omega
      rw [this]
      rfl
    · rename_i q
      rw [cutN_count h (by omega)]
/-! a pass -/
def passL (rows outs : List (List Nat)) : Nat → List Nat → List Nat
  | _, [] => []
  | t, c :: cs => (outs.getD t []).getD (c - 97) 0 :: passL rows outs ((rows.getD t []).getD (c - 97) 0) cs
/-! a swap -/
abbrev Pc := List Nat × List Nat
def side2 (p : Str × Str) : List Pc := [(TL.tl p.1, TL.tl p.2), (TL.tl p.2, TL.tl p.1)]
def sides (ps : List (Str × Str)) : List Pc := ps.flatMap side2
def atP (qs : List Pc) (cs : List Nat) (p : Nat) : Option Pc := qs.find? fun q => TL.pre q.1 (cs.drop p)
/-- the pieces so far: the least place with one, and the first that stands there -/
structure Best (qs : List Pc) (cs : List Nat) (p : Nat) (q : Pc) : Prop where
  no : ∀ i, i < p → atP qs cs i = none
  yes : (p < cs.length ∧ atP qs cs p = some q) ∨ (p = cs.length ∧ q = ([], []))
def exch (cs : List Nat) (p : Nat) (q : Pc) : List Nat := cs.take p ++ q.2 ++ cs.drop (p + q.1.length)
theorem exch_none {cs : List Nat} : exch cs cs.length ([], []) = cs := by
  unfold exch
  simp
theorem best_one {qs : List Pc} {cs : List Nat} {p p2 : Nat} {q q2 : Pc} (h : Best qs cs p q) (g : Best qs cs p2 q2) : p = p2 ∧ q = q2 := by
  obtain ⟨n1, y1⟩ := h
  obtain ⟨n2, y2⟩ := g
  have e : p = p2 := by
    rcases Nat.lt_trichotomy p p2 with l | l | l
    · rcases y1 with ⟨_, y⟩ | ⟨y, _⟩
      · rw [n2 p l] at y
        cases y
      · rcases y2 with ⟨z, _⟩ | ⟨z, _⟩ <;> omega
    · exact l
    · rcases y2 with ⟨_, y⟩ | ⟨y, _⟩
      · rw [n1 p2 l] at y
        cases y
      · rcases y1 with ⟨z, _⟩ | ⟨z, _⟩ <;> omega
  subst e
  rcases y1 with ⟨l1, y⟩ | ⟨l1, y⟩
  · rcases y2 with ⟨_, z⟩ | ⟨l2, _⟩
    · rw [y] at z
      exact ⟨rfl, Option.some.inj z⟩
    · omega
  · rcases y2 with ⟨l2, _⟩ | ⟨_, z⟩
    · omega
    · exact ⟨rfl, y.trans z.symm⟩
theorem atP_app {qs : List Pc} {r : Pc} {cs : List Nat} {p : Nat} : atP (qs ++ [r]) cs p = (atP qs cs p).or (if TL.pre r.1 (cs.drop p) = true then some r else none) := by
  unfold atP
  rw [List.find?_append, List.find?_cons, List.find?_nil]
  cases TL.pre r.1 (cs.drop p) <;> rfl
theorem best0 {cs : List Nat} : Best [] cs cs.length ([], []) := ⟨fun _ _ => rfl, .inr ⟨rfl, rfl⟩⟩
/-- a piece that stands at a lesser place first -/
theorem best_less {qs : List Pc} {cs : List Nat} {p k : Nat} {q r : Pc} (h : Best qs cs p q) (hk : k < p) (h1 : TL.pre r.1 (cs.drop k) = true) (h2 : ∀ i, i < k → TL.pre r.1 (cs.drop i) = false) : Best (qs ++ [r]) cs k r := by
  refine ⟨fun i hi => ?_, .inl ⟨?_, ?_⟩⟩
  · rw [atP_app, h.no i (by omega), h2 i hi]
    rfl
  · rcases h.yes with ⟨z, _⟩ | ⟨z, _⟩ <;> omega
  · rw [atP_app, h.no k hk, h1]
    rfl
theorem best_keep {qs : List Pc} {cs : List Nat} {p : Nat} {q r : Pc} (h : Best qs cs p q) (h2 : ∀ i, i < p → TL.pre r.1 (cs.drop i) = false) : Best (qs ++ [r]) cs p q := by
  refine ⟨fun i hi => ?_, ?_⟩
  · rw [atP_app, h.no i hi, h2 i hi]
    rfl
  · rcases h.yes with ⟨l, z⟩ | z
    · refine .inl ⟨l, ?_⟩
      rw [atP_app, z]
      rfl
    · exact .inr z
def firstP (qs : List Pc) (cs : List Nat) : Nat → Nat → Nat × Pc
  | 0, p => (p, ([], []))
  | n + 1, p => match atP qs cs p with
    | some q => (p, q)
    | none => firstP qs cs n (p + 1)
theorem firstP_best {qs : List Pc} {cs : List Nat} : ∀ (n p : Nat), p + n = cs.length → (∀ i, i < p → atP qs cs i = none) → Best qs cs (firstP qs cs n p).1 (firstP qs cs n p).2
  | 0, p, h, hn => ⟨hn, .inr ⟨h, rfl⟩⟩
  | n + 1, p, h, hn => by
    unfold firstP
    cases e : atP qs cs p with
    | some q => exact ⟨hn, .inl ⟨by show p < cs.length; omega, e⟩⟩
    | none =>
      refine firstP_best n (p + 1) (by omega) fun i hi => ?_
      by_cases z : i = p
      · rw [z]
        exact e
      · exact hn i (by omega)
def swapL (qs : List Pc) (cs : List Nat) : List Nat := exch cs (firstP qs cs cs.length 0).1 (firstP qs cs cs.length 0).2
theorem swap_best {qs : List Pc} {cs : List Nat} {p : Nat} {q : Pc} (h : Best qs cs p q) : exch cs p q = swapL qs cs := by
  obtain ⟨e1, e2⟩ := best_one h (firstP_best cs.length 0 (by omega) (fun i hi => absurd hi (Nat.not_lt_zero i)))
  unfold swapL
  rw [← e1, ← e2]
def Stp.on : Stp → List Nat → List Nat
  | .cut u m, cs => cs.take (cutN u m 0 cs)
  | .stop c, cs => cs.takeWhile (fun x => !decide (x = c))
  | .pass rows outs, cs => passL rows outs 0 cs
  | .swap ps, cs => swapL (sides ps) cs
def img (ss : List Stp) (cs : List Nat) : List Nat := ss.foldl (fun cs s => s.on cs) cs
def WOk (L : Int) (n : Nat) (cs : List Nat) : Prop := cs.length ≤ n ∧ ∀ c ∈ cs, Ltr L c
theorem ltr_mem {L : Int} (h : 1 ≤ L) (h2 : L ≤ 3) : ∀ c ∈ (abcS L).cps.toList, 97 ≤ c ∧ ((c - 97 : Nat) : Int) < L := by
  have : L = 1 ∨ L = 2 ∨ L = 3 := by omega
  rcases this with rfl | rfl | rfl <;> decide +kernel
theorem getD_of {α : Type} {xs : List α} {i : Nat} {d : α} (h : i < xs.length) : xs[i]? = some (xs.getD i d) := by
  rw [List.getD_eq_getElem?_getD, List.getElem?_eq_getElem h]
  rfl
theorem getD_mem {α : Type} {xs : List α} {i : Nat} {d : α} (h : i < xs.length) : xs.getD i d ∈ xs := List.mem_of_getElem? (getD_of h)
theorem pass_ok {L : Int} {rows outs : List (List Nat)} (L1 : 1 ≤ L) (L3 : L ≤ 3) (h : (Stp.pass rows outs).Ok L) : ∀ {cs : List Nat} {t : Nat}, t < rows.length → (∀ c ∈ cs, Ltr L c) → (passL rows outs t cs).length = cs.length ∧ ∀ c ∈ passL rows outs t cs, Ltr L c
  | [], _, _, _ => ⟨rfl, fun c z => absurd z List.not_mem_nil⟩
  | c :: cs, t, ht, hc => by
    obtain ⟨h1, h2, h3, h4, h5⟩ := h
    have hi := (ltr_mem L1 L3 c (hc c List.mem_cons_self)).2
    have ho := h5 (outs.getD t []) (getD_mem (by omega))
    have hr := h4 (rows.getD t []) (getD_mem ht)
    have ih := pass_ok L1 L3 ⟨h1, h2, h3, h4, h5⟩ (cs := cs) (t := (rows.getD t []).getD (c - 97) 0) (hr.2 _ (getD_mem (by omega))) fun e he => hc e (List.mem_cons_of_mem _ he)
    refine ⟨by rw [passL, List.length_cons, List.length_cons, ih.1], fun e he => ?_⟩
    rw [passL] at he
    rcases List.mem_cons.mp he with rfl | he
    · exact ho.2 _ (getD_mem (by omega))
    · exact ih.2 e he
theorem pre_len {S l : List Nat} (h : TL.pre S l = true) : S.length ≤ l.length := by
  have e : l.take S.length = S := eq_of_beq h
  have := congrArg List.length e
  rw [List.length_take] at this
  omega
theorem sides_mem {ps : List (Str × Str)} {q : Pc} (h : q ∈ sides ps) : ∃ p ∈ ps, q = (TL.tl p.1, TL.tl p.2) ∨ q = (TL.tl p.2, TL.tl p.1) := by
  obtain ⟨p, hp, hq⟩ := List.mem_flatMap.mp h
  refine ⟨p, hp, ?_⟩
  unfold side2 at hq
  rcases List.mem_cons.mp hq with e | hq
  · exact .inl e
  · exact .inr (List.mem_singleton.mp hq)
theorem swap_ok {L : Int} {ps : List (Str × Str)} (h : (Stp.swap ps).Ok L) {cs : List Nat} {p : Nat} {q : Pc} (b : Best (sides ps) cs p q) (hc : ∀ c ∈ cs, Ltr L c) : (exch cs p q).length = cs.length ∧ ∀ c ∈ exch cs p q, Ltr L c := by
  have hq : p + q.1.length ≤ cs.length ∧ q.2.length = q.1.length ∧ ∀ c ∈ q.2, Ltr L c := by
    rcases b.yes with ⟨hp, y⟩ | ⟨hp, rfl⟩
    · obtain ⟨pp, hpp, e⟩ := sides_mem (List.mem_of_find?_eq_some y)
      have hs := List.find?_some y
      have hl := pre_len hs
      rw [List.length_drop] at hl
      obtain ⟨l1, l2, _, _, l3⟩ := h.2 pp hpp
      rw [TL.len_tl, TL.len_tl] at l3
      rcases e with rfl | rfl
      · exact ⟨by omega, l3, l2⟩
      · exact ⟨by omega, l3.symm, l1⟩
    · exact ⟨by show p + 0 ≤ _; omega, rfl, fun c z => absurd z List.not_mem_nil⟩
  unfold exch
  refine ⟨?_, fun c z => ?_⟩
  · rw [List.length_append, List.length_append, List.length_take, List.length_drop]
    omega
  · rcases List.mem_append.mp z with z | z
    · rcases List.mem_append.mp z with z | z
      · exact hc c (List.mem_of_mem_take z)
      · exact hq.2.2 c z
    · exact hc c (List.mem_of_mem_drop z)
theorem on_ok {L : Int} {n : Nat} (L1 : 1 ≤ L) (L3 : L ≤ 3) {s : Stp} (h : s.Ok L) {cs : List Nat} (hw : WOk L n cs) : WOk L n (s.on cs) := by
  obtain ⟨hl, hc⟩ := hw
  cases s with
  | cut u m => exact ⟨by show (cs.take _).length ≤ n; rw [List.length_take]; omega, fun c z => hc c (List.mem_of_mem_take z)⟩
  | stop c => exact ⟨Nat.le_trans (List.takeWhile_sublist _).length_le hl, fun c z => hc c ((List.takeWhile_sublist _).subset z)⟩
  | pass rows outs =>
    have := pass_ok L1 L3 h (t := 0) h.1 hc
    exact ⟨by show (passL rows outs 0 cs).length ≤ n; omega, this.2⟩
  | swap ps =>
    have b := firstP_best (qs := sides ps) (cs := cs) cs.length 0 (by omega) (fun i hi => absurd hi (Nat.not_lt_zero i))
    have := swap_ok h b hc
    exact ⟨by show (swapL (sides ps) cs).length ≤ n; unfold swapL; omega, this.2⟩
theorem img_ok {L : Int} {n : Nat} (L1 : 1 ≤ L) (L3 : L ≤ 3) : ∀ {ss : List Stp}, (∀ s ∈ ss, s.Ok L) → ∀ {cs : List Nat}, WOk L n cs → WOk L n (img ss cs)
  | [], _, _, hw => hw
  | s :: ss, h, cs, hw => img_ok L1 L3 (fun t ht => h t (List.mem_cons_of_mem _ ht)) (on_ok L1 L3 (h s List.mem_cons_self) hw)
theorem img_snoc {ss : List Stp} {s : Stp} {cs : List Nat} : img (ss ++ [s]) cs = s.on (img ss cs) := by
  unfold img
  rw [List.foldl_append]
  rfl
/-! texts: find, partition, a slice -/
theorem find_of (z x : Str) (hx : TL.tl x ≠ []) : (Txt.find z x = -1 ∧ ∀ i, TL.pre (TL.tl x) ((TL.tl z).drop i) = false) ∨ ∃ k : Nat, Txt.find z x = (k : Int) ∧ TL.pre (TL.tl x) ((TL.tl z).drop k) = true ∧ (∀ i, i < k → TL.pre (TL.tl x) ((TL.tl z).drop i) = false) ∧ k < (TL.tl z).length := by
  unfold Txt.find
  rcases StrLaws.occ_head z x 1 (Nat.le_refl 1) with ⟨h0, hn⟩ | ⟨k, r, h0, hk, hn⟩
  · rw [h0]
    exact .inl ⟨rfl, fun i => TL.no_at hx (hn i)⟩
  · rw [h0]
    have := hk.1
    have l1 := TL.len1 hx
    have l2 := TL.len_tl z
    exact .inr ⟨k, rfl, (TL.at_iff hx k).mp hk, fun i hi => TL.no_at hx (hn i hi), by omega⟩
theorem par_one {c : Nat} : ∀ {acc l : List Nat}, (match TL.par [c] acc l with | some (a, _) => a | none => acc ++ l) = acc ++ l.takeWhile fun x => !decide (x = c)
  | acc, [] => rfl
  | acc, x :: l => by
    by_cases h : x = c
    · have e : TL.pre [c] (x :: l) = true := by
        show ((x :: l).take 1 == [c]) = true
        rw [h]
        simp
      rw [TL.par_hit e, List.takeWhile_cons, h, if_neg (by simp)]
      simp
    · have e : TL.pre [c] (x :: l) = false := TL.pre_of_head [] l h
      rw [TL.par_miss e, List.takeWhile_cons, if_pos (by simp [h])]
      have := par_one (c := c) (acc := acc ++ [x]) (l := l)
      rw [List.append_assoc, List.append_assoc] at this
      exact this
theorem partition_one (z : Str) (c : Nat) : (Txt.partition z (chr1 c)).1 = mkS ((TL.tl z).takeWhile fun x => !decide (x = c)) := by
  rw [TL.partition_par z (chr1 c) (List.cons_ne_nil _ _)]
  have := par_one (c := c) (acc := []) (l := TL.tl z)
  rw [List.nil_append, List.nil_append] at this
  rw [← this]
  show _ = mkS (match TL.par [c] [] (TL.tl z) with | some (a, _) => a | none => TL.tl z)
  show (match TL.par [c] [] (TL.tl z) with | some (a, b) => ((⟨a.toArray⟩ : Str), chr1 c, (⟨b.toArray⟩ : Str)) | none => (z, Str.empty, Str.empty)).1 = _
  cases TL.par [c] [] (TL.tl z) with
  | none => exact (mkS_tl z).symm
  | some p => rfl
theorem cutS_of (cs : List Nat) {a b : Nat} (h1 : a ≤ b) (h2 : b ≤ cs.length) : cutS (mkS cs) (some (a : Int)) (some (b : Int)) = mkS ((cs.drop a).take (b - a)) := by
  have e1 : HT.sIx (mkS cs).length 0 (some (a : Int)) = a := by
    rw [HT.sIx_nat, mkS_len]
    omega
  have e2 : HT.sIx (mkS cs).length (mkS cs).length (some (b : Int)) = b := by
    rw [HT.sIx_nat, mkS_len]
    omega
  unfold cutS
  rw [e1, e2]
  rfl
def wide (L : Int) : Nat := ((L + 1) * (L + 1) - 1).toNat
/-! ### the law's columns -/
def sgS (L : Int) : Str := cutS "abc" none (some L) ++ "."
def sgs (L : Int) : List Nat := (sgS L).cps.toList
def colsAll (L : Int) : List Str := (sgs L).flatMap fun c => (sgs L).map fun e => chr1 c ++ chr1 e
def colsS (L : Int) : List Str := (colsAll L).dropLast
theorem L123 {L : Int} (h : 1 ≤ L) (h2 : L ≤ 3) : L = 1 ∨ L = 2 ∨ L = 3 := by omega
theorem sg_size {L : Int} (h : 1 ≤ L) (h2 : L ≤ 3) : (sgS L).cps.size ≤ 4 := by
  rcases L123 h h2 with rfl | rfl | rfl <;> decide +kernel
theorem cols_cut {L : Int} (h : 1 ≤ L) (h2 : L ≤ 3) : cutV ((colsAll L).map V.str) none (some (-1)) = (colsS L).map V.str := by
  rcases L123 h h2 with rfl | rfl | rfl <;> rfl
theorem cols_len {L : Int} (h : 1 ≤ L) (h2 : L ≤ 3) : (colsS L).length = wide L := by
  rcases L123 h h2 with rfl | rfl | rfl <;> decide +kernel
theorem chr_len (c e : Nat) : (chr1 c).length + (chr1 e).length ≤ sizeLine := by
  show 1 + 1 ≤ sizeLine
  decide
section
variable {P : Program} {w : World} {K : PySem.W.Frag} {mg : Str → Option Value} {base : Heap}
theorem scColsL : FnScope ["_law_letters", "_law_signs", "_law_found", "_law_one_here", "_law_other"] ["_law_letters"] (defScope sColsL) := ⟨rfl, rfl, rfl, by decide +kernel, rfl, by decide +kernel, by decide +kernel⟩
def spColsL : Sp := fun vs H Q _ => ∃ L : Int, vs = [.int L] ∧ 1 ≤ L ∧ L ≤ 3 ∧ ∀ (H' : Hp) (p : Addr), Same H H' → H p = none → H' p = some (.lst ((colsS L).map V.str)) → Q (.ref p) H'
theorem ok_colsL {f : Addr} {fd : FuncData} (F : Fun K "_law_columns" "_law_columns" sColsL f fd) (T : Mg mg) : FnOk P w K mg base CX0 1 f fd ["_law_letters"] spColsL := by
  refine F.ok scColsL (fun vs H Q E h => ?_) (fun cdv A outer s H vs Q E hr h => ?_)
  · obtain ⟨L, rfl, _⟩ := h
    rfl
  · obtain ⟨L, rfl, L1, L3, k⟩ := h
    have hsz := sg_size L1 L3
    refine ⟨_, pss_cons (ps_par (i := 1) (j := 2) rfl scColsL.nd rfl rfl (by decide) rfl rfl (pa_cons (pe_op op_add_str (pe_slice sl_str pe_str po_none (po_some (pv 0))) pe_str) (pa_cons (pe_lstA pa_nil) pa_nil)) (by rfl))
      (pss_cons (ps_for PassesOwn.never rfl (pi_str (pv 1)) (pg_name (i := 3) scColsL.nd rfl (.inr rfl))
        (pss_one (ps_expr (pe_bm PySem.F.plainAttrs_list PySem.F.slot_list_extend PySem.F.type_list_extend mt_extend (pv 2) (pa_cons (pe_lc (own := [("_law_other", 4)]) (g := gName 4) (tt := tYes) rfl scColsL.nd (pi_str (pv 1)) (blkOk_by (N := ["_law_letters", "_law_signs", "_law_found", "_law_one_here", "_law_other"]) (sc := defScope sColsL) (by decide +kernel)) (fun _ _ _ _ _ => pg_name (i := 4) scColsL.nd rfl (Or.inl rfl)) (fun _ _ _ _ _ => pts_nil)
          (fun _ _ _ _ _ => pe_op op_add_str (pv 3) (pv 4))) pa_nil)))))
      (pss_one (ps_ret (pe_slice sl_list (pv 2) po_none (po_some (pe_un un_neg pe_int)))))), ?_⟩
    refine ⟨_, rfl, L, rfl, "abc", rfl, by show 3 ≤ sizeLine; decide, _, _, rfl, rfl, ?_, by show 0 ≤ sizeLine; decide, fun p G s0 n0 _ l0 => ?_⟩
    · rcases L123 L1 L3 with rfl | rfl | rfl <;> decide +kernel
    refine ⟨_, _, rfl, ?_⟩
    refine ⟨_, rfl, sgS L, rfl, for_it walk_str (fun i σ H' => (∃ y3, σ = [some (.int L), some (.str (sgS L)), some (.ref p), y3, none]) ∧ Same H H' ∧ H' p = some (.lst ((((sgs L).take i).flatMap fun c => (sgs L).map fun e => chr1 c ++ chr1 e).map V.str)))
      ⟨⟨none, rfl⟩, s0, l0⟩ (fun _ _ _ _ _ => True.intro) ?_ ?_⟩
    · rintro i x σ H0 H1 hi ⟨⟨y3, rfl⟩, s2, l2⟩ ⟨rfl, c, hc, rfl⟩
      refine ⟨_, rfl, .inl ⟨rfl, _, SqL.of l2⟩, _, rfl, sgS L, rfl, fun D hD => ?_⟩
      have npD : p ≠ D := ne_of_none l2 hD
      refine lc_it walk_str (fun j H' => Same H1 H' ∧ H' D = some (.lst (((sgs L).take j).map fun e => V.str (chr1 c ++ chr1 e)))) ⟨same_new hD, upd_same⟩ (fun _ _ _ _ => True.intro) ?_ ?_
      · rintro j x H0 H3 hj ⟨s3, l3⟩ ⟨rfl, e, he, rfl⟩
        have he' : (sgs L)[j]? = some e := by
          rw [sgs, Array.getElem?_toList]
          exact he
        refine ⟨rfl, _, rfl, _, rfl, _, _, rfl, rfl, chr_len c e, _, l3, ?_, fun b o z => ?_, ?_⟩
        · rw [List.length_map, List.length_take]
          exact small1000 (by omega)
        · rw [upd_ne (ne_of_none z hD)]
          exact s3 _ _ z
        · rw [upd_same, List.take_add_one, he', List.map_append]
          rfl
      · rintro H3 ⟨s3, l3⟩
        have hc' : (sgs L)[i]? = some c := by
          rw [sgs, Array.getElem?_toList]
          exact hc
        have et : (sgs L).take (sgS L).cps.size = sgs L := List.take_of_length_le (by rw [sgs, Array.length_toList]; exact Nat.le_refl _)
        rw [et] at l3
        refine ⟨p, D, _, _, rfl, rfl, s3 _ _ l2, l3, ?_, ⟨_, rfl⟩, fun b o z => ?_, ?_⟩
        · have a1 : (sgs L).length ≤ 4 := by rw [sgs, Array.length_toList]; exact hsz
          have a2 : (((sgs L).take i).flatMap fun c => (sgs L).map fun e => chr1 c ++ chr1 e).length ≤ 100 := by
            rw [List.length_flatMap]
            have : ∀ l : List Nat, (l.map fun c => ((sgs L).map fun e => chr1 c ++ chr1 e).length).sum = l.length * (sgs L).length := by
              intro l
              induction l with
              | nil => simp
              | cons a l ih =>
                rw [List.map_cons, List.sum_cons, ih, List.length_map, List.length_cons, Nat.succ_mul]
                omega
            rw [this, List.length_take]
            have := Nat.mul_le_mul (show min i (sgs L).length ≤ 4 by omega) a1
            omega
          rw [List.length_map, List.length_map]
          exact Nat.le_trans (show _ ≤ 200 by omega) (by decide)
        · rw [upd_ne (fun q => by rw [q] at z; exact absurd z (by rw [n0]; exact fun y => nomatch y))]
          exact s3 _ _ (s2 _ _ z)
        · rw [upd_same, List.take_add_one, hc']
          simp [List.flatMap_append, Function.comp_def]
    · rintro σ H1 ⟨⟨y3, rfl⟩, s2, l2⟩
      have et : (sgs L).take (sgS L).cps.size = sgs L := List.take_of_length_le (by rw [sgs, Array.length_toList]; exact Nat.le_refl _)
      rw [et] at l2
      refine ⟨_, rfl, 1, rfl, -1, rfl, p, _, rfl, SqL.of l2, fun q hq => ?_⟩
      have e9 : cutV (((sgs L).flatMap fun c => (sgs L).map fun e => chr1 c ++ chr1 e).map V.str) none (some (-1)) = (colsS L).map V.str := cols_cut L1 L3
      refine k _ q (s2.trans (same_new hq)) (s2.free hq) ?_
      rw [upd_same]
      exact congrArg (fun z => some (HO.lst z)) e9
end
/-! ### words -/
theorem let_nil {L : Int} : LetS L "" := fun c h => by cases h
theorem let_add {L : Int} {z : Str} {c : Nat} (h : LetS L z) (hc : c ∈ (abcS L).cps.toList) : LetS L (z ++ chr1 c) := fun e he => by
  have e1 : (z ++ chr1 c).cps.toList = z.cps.toList ++ [c] := by
    show (z.cps ++ #[c]).toList = _
    simp
  rw [e1] at he
  rcases List.mem_append.mp he with he | he
  · exact h e he
  · rw [List.mem_singleton.mp he]
    exact hc
theorem len_add (z : Str) (c : Nat) : (z ++ chr1 c).length = z.length + 1 := strLen_append z (chr1 c)
theorem abc_size {L : Int} (h : 1 ≤ L) (h2 : L ≤ 3) : (abcS L).cps.size = L.toNat := by
  rcases L123 h h2 with rfl | rfl | rfl <;> decide +kernel
/-! ### comparisons drawn -/
def rTup (K : PySem.W.Frag) : List V → Hp → VK → Prop := fun xs H Q => ∃ p ys, xs = [.ref p] ∧ ((SqL K H p ys ∧ ∀ l, H l = none → Q (.ref l) (upd H l (.tup ys))) ∨ (SqT K H p ys ∧ Q (.ref p) H))
/-- at v a row of numbers -/
def RowAt (B : Addr → Prop) (H : Hp) (v : V) (r : List Int) : Prop := ∃ q, v = .ref q ∧ ¬ B q ∧ Rd H q (.tup (r.map V.int))
theorem RowAt.keep {B : Addr → Prop} {H H' : Hp} {v : V} {r : List Int} (k : Keep B H H') (h : RowAt B H v r) : RowAt B H' v r := by
  obtain ⟨q, e, nb, hr⟩ := h
  exact ⟨q, e, nb, k.rd nb hr⟩
theorem RowAt.weak {B B' : Addr → Prop} {H : Hp} {v : V} {r : List Int} (k : ∀ b, B' b → B b) (h : RowAt B H v r) : RowAt B' H v r := by
  obtain ⟨q, e, nb, hr⟩ := h
  exact ⟨q, e, fun z => nb (k q z), hr⟩
theorem RowAt.off {B : Addr → Prop} {H : Hp} {p : Addr} {v : V} {r : List Int} (n : H p = none) (h : RowAt B H v r) : RowAt (fun b => B b ∨ b = p) H v r := by
  obtain ⟨q, e, nb, hr⟩ := h
  refine ⟨q, e, fun z => ?_, hr⟩
  rcases z with z | z
  · exact nb z
  · rw [z] at hr
    rcases hr with y | ⟨o, y⟩ <;> (rw [n] at y; cases y)
theorem paired_imp {α β : Type} {F G : α → β → Prop} (f : ∀ a b, F a b → G a b) : ∀ {xs : List α} {ys : List β}, Paired F xs ys → Paired G xs ys
  | _, _, .nil => .nil
  | _, _, .cons h t => .cons (f _ _ h) (paired_imp f t)
theorem paired_at {α β : Type} {F : α → β → Prop} : ∀ {xs : List α} {ys : List β} {i : Nat} {y : β}, Paired F xs ys → ys[i]? = some y → ∃ x, xs[i]? = some x ∧ F x y
  | _, _, _, _, .nil, e => by simp at e
  | _, _, 0, _, .cons h _, e => by
    simp at e
    subst e
    exact ⟨_, rfl, h⟩
  | _, _, i + 1, _, .cons _ t, e => by
    obtain ⟨x, h1, h2⟩ := paired_at (i := i) t (by simpa using e)
    exact ⟨x, by simpa using h1, h2⟩
/-- at v a comparison of L letters -/
structure CAt (B : Addr → Prop) (H : Hp) (v : V) (L : Int) (rws : List (List Int)) (vds : List Int) : Prop where
  at_ : ∃ p pr pv rvs, v = .ref p ∧ ¬ B p ∧ ¬ B pr ∧ ¬ B pv ∧ Rd H p (.tup [.int L, .ref pr, .ref pv]) ∧ Rd H pr (.tup rvs) ∧ Rd H pv (.tup (vds.map V.int)) ∧ Paired (RowAt B H) rvs rws
  L1 : 1 ≤ L
  L3 : L ≤ 3
  r1 : 1 ≤ rws.length
  r61 : rws.length ≤ 61
  rw : ∀ r ∈ rws, r.length = wide L ∧ ∀ x ∈ r, 0 ≤ x ∧ x < (rws.length : Int)
  vl : vds.length = rws.length
  vb : ∀ x ∈ vds, -1 ≤ x ∧ x ≤ 1
section
variable {B : Addr → Prop} {H H' : Hp} {v : V} {L : Int} {rws : List (List Int)} {vds : List Int} {K : PySem.W.Frag}
theorem CAt.keep (k : Keep B H H') (h : CAt B H v L rws vds) : CAt B H' v L rws vds := by
  obtain ⟨⟨p, pr, pv, rvs, e, n1, n2, n3, h1, h2, h3, h4⟩, a, b, c, d, e1, f, g⟩ := h
  exact ⟨⟨p, pr, pv, rvs, e, n1, n2, n3, k.rd n1 h1, k.rd n2 h2, k.rd n3 h3, paired_imp (fun _ _ => RowAt.keep k) h4⟩, a, b, c, d, e1, f, g⟩
theorem CAt.off {p : Addr} (n : H p = none) (h : CAt B H v L rws vds) : CAt (fun b => B b ∨ b = p) H v L rws vds := by
  obtain ⟨⟨q, pr, pv, rvs, e, n1, n2, n3, h1, h2, h3, h4⟩, a, b, c, d, e1, f, g⟩ := h
  have no : ∀ {x : Addr} {o : HO}, ¬ B x → Rd H x o → ¬ (B x ∨ x = p) := fun nb hr z => by
    rcases z with z | z
    · exact nb z
    · rw [z] at hr
      rcases hr with y | ⟨o, y⟩ <;> (rw [n] at y; cases y)
  exact ⟨⟨q, pr, pv, rvs, e, no n1 h1, no n2 h2, no n3 h3, h1, h2, h3, paired_imp (fun _ _ => RowAt.off n) h4⟩, a, b, c, d, e1, f, g⟩
theorem dt_row (h : RowAt B H v r) : Dt B K H v (.tuple (r.map PyData.int)) := by
  obtain ⟨q, rfl, nb, hr⟩ := h
  have di : ∀ ks : List Int, DtAll B K H (ks.map V.int) (ks.map PyData.int) := fun ks => by
    induction ks with
    | nil => exact .nil
    | cons k ks ih => exact .cons (.int k) ih
  exact .tup nb hr (di r)
theorem dt_intsB (ks : List Int) : DtAll B K H (ks.map V.int) (ks.map PyData.int) := by
  induction ks with
  | nil => exact .nil
  | cons k ks ih => exact .cons (.int k) ih
def compD (L : Int) (rws : List (List Int)) (vds : List Int) : PyData := .tuple [.int L, .tuple (rws.map fun r => .tuple (r.map PyData.int)), .tuple (vds.map PyData.int)]
theorem CAt.dt (h : CAt B H v L rws vds) : Dt B K H v (compD L rws vds) := by
  obtain ⟨⟨p, pr, pv, rvs, rfl, n1, n2, n3, h1, h2, h3, h4⟩, _⟩ := h
  have dr : ∀ {xs : List V} {rs : List (List Int)}, Paired (RowAt B H) xs rs → DtAll B K H xs (rs.map fun r => PyData.tuple (r.map PyData.int)) := fun h => by
    induction h with
    | nil => exact .nil
    | cons a _ ih => exact .cons (dt_row a) ih
  exact .tup n1 h1 (.cons (.int L) (.cons (.tup n2 h2 (dr h4)) (.cons (.tup n3 h3 (dt_intsB vds)) .nil)))
theorem nodes_ints : ∀ ks : List Int, nodesAll (ks.map PyData.int) = ks.length
  | [] => rfl
  | k :: ks => by rw [List.map_cons, nodesAll_cons, nodes_ints ks, nodes, List.length_cons]; omega
theorem CAt.nodes (h : CAt B H v L rws vds) : nodes (compD L rws vds) ≤ 2000 := by
  have hw : wide L ≤ 15 := by
    rcases L123 h.L1 h.L3 with e | e | e <;> (rw [e]; decide)
  have hr : ∀ rs : List (List Int), (∀ r ∈ rs, r.length = wide L) → nodesAll (rs.map fun r => PyData.tuple (r.map PyData.int)) ≤ 16 * rs.length := by
    intro rs
    induction rs with
    | nil => intro _; exact Nat.le_refl _
    | cons r rs ih =>
      intro hh
      have := ih fun x hx => hh x (List.mem_cons_of_mem _ hx)
      have e := hh r List.mem_cons_self
      rw [List.map_cons, nodesAll_cons, nodes_tup, nodes_ints, List.length_cons]
      omega
  have h1 := hr rws fun r hr => (h.rw r hr).1
  have h2 := h.r61
  have h3 := h.vl
  rw [compD, nodes_tup, nodesAll_cons, nodesAll_cons, nodesAll_cons, nodesAll_nil, nodes_tup, nodes_tup, nodes_ints, Ver.nodes]
  omega
end
/-! ### _law_comp -/
def B3 (a c R : Addr) : Addr → Prop := fun b => Bd a c b ∨ b = R
def Gk (m : Int) (v : V) : Prop := ∃ k : Int, v = .int k ∧ 0 ≤ k ∧ k < m
theorem gk_list {m : Int} : ∀ {acc : List V}, (∀ v ∈ acc, Gk m v) → ∃ r : List Int, acc = r.map V.int ∧ ∀ x ∈ r, 0 ≤ x ∧ x < m
  | [], _ => ⟨[], rfl, fun x z => absurd z List.not_mem_nil⟩
  | v :: acc, h => by
    obtain ⟨r, e, hr⟩ := gk_list (acc := acc) fun u hu => h u (List.mem_cons_of_mem _ hu)
    obtain ⟨k, rfl, k0, k1⟩ := h v List.mem_cons_self
    refine ⟨k :: r, by rw [e]; rfl, fun x hx => ?_⟩
    rcases List.mem_cons.mp hx with hx | hx
    · rw [hx]
      exact ⟨k0, k1⟩
    · exact hr x hx
def RInv (a c D : Addr) (H : Hp) (L m n0 : Int) (i : Nat) (H' : Hp) : Prop :=
  ∃ (cells : List Int) (n' : Int) (rvs : List V) (rws : List (List Int)), DeckAt a c cells n' H' ∧ n0 ≤ n' ∧ n' ≤ n0 + 20 * i ∧ Keep (Bd a c) H H' ∧ H' D = some (.lst rvs) ∧ Paired (RowAt (B3 a c D) H') rvs rws ∧ rws.length = i ∧ ∀ r ∈ rws, r.length = wide L ∧ ∀ x ∈ r, 0 ≤ x ∧ x < m
theorem rturn {a c D q : Addr} {H H1 H2 : Hp} {L m n0 n1 n2 : Int} {i : Nat} {rvs : List V} {r : List Int} {rws : List (List Int)} {cells2 : List Int} (hD0 : H D = none) (nD : ¬ Bd a c D) (hi : i ≤ 100) (h0 : n0 ≤ n1) (h1 : n1 ≤ n0 + 20 * i) (kp : Keep (Bd a c) H H1) (hD : H1 D = some (.lst rvs))
    (hp : Paired (RowAt (B3 a c D) H1) rvs rws) (hl : rws.length = i) (hr : ∀ r ∈ rws, r.length = wide L ∧ ∀ x ∈ r, 0 ≤ x ∧ x < m) (k2 : Keep (Bd a c) H1 H2) (dk : DeckAt a c cells2 n2 H2) (h2 : n1 ≤ n2) (h3 : n2 ≤ n1 + 20) (hw : r.length = wide L) (hx : ∀ x ∈ r, 0 ≤ x ∧ x < m) (hq : H2 q = none) :
    ∃ rvs', (upd H2 q (.tup (r.map V.int))) D = some (.lst rvs') ∧ rvs'.length < sizeLine ∧ RInv a c D H L m n0 (i + 1) (upd (upd H2 q (.tup (r.map V.int))) D (.lst (rvs' ++ [.ref q]))) := by
  have hD2 := k2 _ _ nD hD
  have nq : D ≠ q := ne_of_none hD2 hq
  have k3 : Keep (B3 a c D) H1 (upd (upd H2 q (.tup (r.map V.int))) D (.lst (rvs ++ [.ref q]))) := fun b o nb z => by
    rw [upd_ne (fun z : b = D => nb (.inr z)), upd_ne (ne_of_none (k2 _ _ (fun z => nb (.inl z)) z) hq)]
    exact k2 _ _ (fun z => nb (.inl z)) z
  have hlv := hp.length
  refine ⟨rvs, by rw [upd_ne nq]; exact hD2, small1000 (by omega), cells2, n2, rvs ++ [.ref q], rws ++ [r], deck_upd (deck_new dk hq) nD, by omega, by omega, fun b o nb z => ?_, upd_same, (paired_imp (fun _ _ => RowAt.keep k3) hp).snoc ⟨q, rfl, ?_, .inl ?_⟩, ?_, fun r2 hr2 => ?_⟩
  · rw [upd_ne (ne_of_none z hD0), upd_ne (ne_of_none (k2 _ _ nb (kp _ _ nb z)) hq)]
    exact k2 _ _ nb (kp _ _ nb z)
  · rintro (z | z)
    · exact deck_off dk hq z
    · exact nq z.symm
  · rw [upd_ne nq.symm, upd_same]
  · rw [List.length_append, hl]
    rfl
  · rcases List.mem_append.mp hr2 with hr2 | hr2
    · exact hr r2 hr2
    · rw [List.mem_singleton.mp hr2]
      exact ⟨hw, hx⟩
section
variable {P : Program} {w : World} {K : PySem.W.Frag} {mg : Str → Option Value} {base : Heap}
def lcScope : Expr → Scope
  | .ListComp _ _ sc _ => sc
  | _ => defScope sComp
def asgVal : Stmt → Expr
  | .Assign _ e _ => e
  | _ => .Constant .none 0 ⟨0, 0, 0, 0⟩
abbrev outerSc : Scope := lcScope (asgVal ((defBody sComp).getD 0 (.Pass ⟨0, 0, 0, 0⟩)))
theorem scComp : FnScope ["_law_deck_here", "_law_letters", "_law_many", "_law_rows", "_law_column", "_law_row"] ["_law_deck_here", "_law_letters", "_law_many"] (defScope sComp) := ⟨rfl, rfl, rfl, by decide +kernel, rfl, by decide +kernel, by decide +kernel⟩
def spComp : Sp := fun vs H Q _ => ∃ (a c : Addr) (cells : List Int) (n L m : Int), vs = [.ref a, .int L, .int m] ∧ DeckAt a c cells n H ∧ 0 ≤ n ∧ n ≤ 900000 ∧ 1 ≤ L ∧ L ≤ 3 ∧ 1 ≤ m ∧ m ≤ 61 ∧
  ∀ (H' : Hp) (cells' : List Int) (n' : Int) (v : V) (rws : List (List Int)) (vds : List Int), DeckAt a c cells' n' H' → n ≤ n' → n' ≤ n + 1500 → Keep (Bd a c) H H' → CAt (Bd a c) H' v L rws vds → (rws.length : Int) = m → Q v H'
theorem ok_comp {f fD fO fC : Addr} {fd fdD fdO fdC : FuncData} (F : Fun K "_law_comp" "_law_comp" sComp f fd) (D : FnOk P w K mg base CX0 1 fD fdD ["_law_deck_here", "_law_most"] spDraw) (FD : Fun K "_law_draw" "_law_draw" sDraw fD fdD) (bD : Binds K fdD ["_law_deck_here", "_law_most"] []) (gD : mg "_law_draw" = some (.ref fD))
    (O : FnOk P w K mg base CX0 2 fO fdO ["_law_deck_here", "_law_items"] (spOne K)) (FO : Fun K "_law_one" "_law_one" sOne fO fdO) (bO : Binds K fdO ["_law_deck_here", "_law_items"] []) (gO : mg "_law_one" = some (.ref fO))
    (CL : FnOk P w K mg base CX0 1 fC fdC ["_law_letters"] spColsL) (FC : Fun K "_law_columns" "_law_columns" sColsL fC fdC) (bC : Binds K fdC ["_law_letters"] []) (gC : mg "_law_columns" = some (.ref fC)) (T : Mg mg) : FnOk P w K mg base CX0 3 f fd ["_law_deck_here", "_law_letters", "_law_many"] spComp := by
  refine F.ok scComp (fun vs H Q E h => ?_) (fun cdv A outer s H vs Q E hr h => ?_)
  · obtain ⟨a, c, cells, n, L, m, rfl, _⟩ := h
    rfl
  · obtain ⟨a, c, cells, n, L, m, rfl, dk, n0, n1, L1, L3, m1, m61, k⟩ := h
    have w15 : wide L ≤ 15 := by
      rcases L123 L1 L3 with e | e | e <;> (rw [e]; decide)
    refine ⟨_, pss_cons (ps_setLc (i := 3) (own := [("_law_row", 5)]) (g := gName 5) (tt := tYes) rfl scComp.nd rfl rfl (sw_true rfl rfl rfl (by decide +kernel)) (pi_range1 (by rfl) T.range (pa_cons (pv 2) pa_nil)) (blkOk_by (N := ["_law_deck_here", "_law_letters", "_law_many", "_law_rows", "_law_column", "_law_row"]) (sc := defScope sComp) (by decide +kernel)) (fun _ _ _ _ _ => pg_name (i := 5) scComp.nd rfl (Or.inl rfl)) (fun _ _ _ _ _ => pts_nil)
        (fun _ _ _ _ _ => pe_callTy (r := rTup K) call_tuple_of (by rfl) T.tuple PyProof.Rows.boot_tuple (pa_cons (pe_lc (wi := iList K _) (own := [("_law_column", 4)]) (g := gName 4) (tt := tYes) rfl scComp.nd (pi_list (pe_call CL (hr.mono (by decide)) (by rfl) gC FC.kp bC .nil pass0 (pa_cons (pv 1) pa_nil))) (blkOk_by (by kernel_rfl)) (fun _ _ _ _ _ => pg_name (i := 4) scComp.nd rfl (Or.inl rfl)) (fun _ _ _ _ _ => pts_nil)
          (fun _ _ _ _ _ => pe_call D (hr.mono (by decide)) (by rfl) gD FD.kp bD .nil pass0 (pa_cons (pv 0) (pa_cons (pv 2) pa_nil)))) pa_nil)))
      (pss_one (ps_ret (pe_tup (pa_cons (pv 1) (pa_cons (pe_callTy (r := rTup K) call_tuple_of (by rfl) T.tuple PyProof.Rows.boot_tuple (pa_cons (pv 3) pa_nil)) (pa_cons (pe_op op_catS (pe_tup (pa_cons (pe_call O hr (by rfl) gO FO.kp bO .nil pass0 (pa_cons (pv 0) (pa_cons (pe_lstA (pa_cons pe_int (pa_cons pe_int (pa_cons pe_int pa_nil)))) pa_nil))) pa_nil))
        (pe_callTy (r := rTup K) call_tuple_of (by rfl) T.tuple PyProof.Rows.boot_tuple (pa_cons (pe_lc (own := [("_law_row", 5)]) (g := gName 5) (tt := tYes) rfl scComp.nd (pi_range1 (by rfl) T.range (pa_cons (pe_op op_sub (pv 2) pe_int) pa_nil)) (blkOk_by (N := ["_law_deck_here", "_law_letters", "_law_many", "_law_rows", "_law_column", "_law_row"]) (sc := defScope sComp) (by decide +kernel)) (fun _ _ _ _ _ => pg_name (i := 5) scComp.nd rfl (Or.inl rfl)) (fun _ _ _ _ _ => pts_nil)
          (fun _ _ _ _ _ => pe_op op_sub (pe_call D (hr.mono (by decide)) (by rfl) gD FD.kp bD .nil pass0 (pa_cons (pv 0) (pa_cons pe_int pa_nil))) pe_int)) pa_nil))) pa_nil)))))), ?_⟩
    refine ⟨_, rfl, m, rfl, by omega, by omega, fun D1 hD => ?_⟩
    refine lc_range (lo := 0) (n := m.toNat) (fun j H' => RInv a c D1 H L m n j H') ⟨cells, n, [], [], deck_new dk hD, Int.le_refl _, by omega, keep_new hD, upd_same, .nil, rfl, fun r z => absurd z List.not_mem_nil⟩ ?_ ?_
    · rintro j H1 hj ⟨cells1, n1', rvs, rws, dk1, h01, h02, kp, hD1, hpr, hl1, hr1⟩
      refine ⟨rfl, _, rfl, L, rfl, L1, L3, fun Hc pc sc nc lc => ⟨pc, rfl, ⟨_, SqL.of lc⟩, fun D2 hD2 => ?_⟩⟩
      have dkc := deck_same sc dk1
      have ncb := deck_off dk1 nc
      refine lc_list (K := K) (a := pc) (xs := (colsS L).map V.str) (CInv a c D2 Hc (Gk m) n1' 1) (cstart dkc hD2) (fun i H' _ q => ?_) ?_ ?_
      · obtain ⟨_, _, _, _, _, _, q, _⟩ := q
        exact SqL.of (q _ _ ncb lc)
      · rintro i x H2 hx ⟨cells2, n2, acc, dk2, g0, g1, k2, hD2', hl2, hG⟩
        have hi := (List.getElem?_eq_some_iff.mp hx).1
        rw [List.length_map, cols_len L1 L3] at hi
        refine ⟨rfl, _, rfl, _, rfl, a, c, cells2, n2, m, rfl, dk2, m1, by omega, by omega, by omega, fun H3 cells3 r r0 r3 dk3 k3 => ?_⟩
        exact cstep hD2 (deck_off dkc hD2) (by omega) g0 g1 k2 hD2' hl2 hG dk3 (by omega) (by omega) k3 ⟨r, rfl, r0, r3⟩
      · rintro H2 ⟨cells2, n2, acc, dk2, g0, g1, k2, hD2', hl2, hG⟩
        rw [List.length_map, cols_len L1 L3] at g1 hl2
        obtain ⟨r, rfl, hr⟩ := gk_list hG
        rw [List.length_map] at hl2
        exact ⟨D2, _, rfl, .inl ⟨SqL.of hD2', fun q hq => rturn hD (deck_off dk hD) (by omega) h01 h02 kp hD1 hpr hl1 hr1 ((Keep.same sc).trans k2) dk2 (by omega) (by omega) hl2 hr hq⟩⟩
    · rintro H1 ⟨cells1, n1', rvs, rws, dk1, h01, h02, kp, hD1, hpr, hl1, hr1⟩
      refine ⟨_, rfl, _, rfl, D1, rvs, rfl, .inl ⟨SqL.of hD1, fun q1 hq1 => ?_⟩⟩
      have dkA := deck_new (o := .tup rvs) dk1 hq1
      have sA := same_new (o := .tup rvs) hq1
      have rA : Rd (upd H1 q1 (.tup rvs)) q1 (.tup rvs) := .inl upd_same
      have nb1 := deck_off dk1 hq1
      refine ⟨_, rfl, by show 3 ≤ sizeLine; decide, fun p2 G2 s2 np2 ns2 lp2 => ?_⟩
      have dkB := deck_same s2 dkA
      refine ⟨a, c, p2, cells1, n1', _, rfl, dkB, by omega, by omega, SqL.of lp2, deck_off dkA np2, List.cons_ne_nil _ _, by decide, fun H3 cells3 x hx dk3 k3 => ?_⟩
      obtain ⟨x0, rfl, hx0⟩ : ∃ x0 : Int, x = .int x0 ∧ -1 ≤ x0 ∧ x0 ≤ 1 := by
        simp only [List.mem_cons, List.not_mem_nil, or_false] at hx
        rcases hx with hx | hx | hx <;> exact ⟨_, hx, by decide, by decide⟩
      refine ⟨by show 1 ≤ sizeLine; decide, fun q2 hq2 => ?_⟩
      have dkC := deck_new (o := .tup [V.int x0]) dk3 hq2
      have nb2 := deck_off dk3 hq2
      have sC := same_new (o := .tup [V.int x0]) hq2
      have rC : Rd (upd H3 q2 (.tup [V.int x0])) q2 (.tup [V.int x0]) := .inl upd_same
      have kC : Keep (Bd a c) H1 (upd H3 q2 (.tup [V.int x0])) := (Keep.same (L2.Same.trans sA s2)).trans (k3.trans (Keep.same sC))
      have kA : Keep (Bd a c) (upd H1 q1 (.tup rvs)) (upd H3 q2 (.tup [V.int x0])) := (Keep.same s2).trans (k3.trans (Keep.same sC))
      refine ⟨_, rfl, m, 1, rfl, rfl, m - 1, rfl, by omega, by omega, fun D3 hD3 => ?_⟩
      generalize hG4 : upd H3 q2 (.tup [V.int x0]) = G4 at *
      refine lc_range (lo := 0) (n := (m - 1).toNat) (CInv a c D3 G4 (fun v => ∃ k : Int, v = .int k ∧ -1 ≤ k ∧ k ≤ 1) (n1' + 1) 1) (cstart dkC hD3) ?_ ?_
      · rintro i H2 hi ⟨cells2, n2, acc, dk2, g0, g1, k2, hD2', hl2, hG⟩
        refine ⟨rfl, _, rfl, a, c, cells2, n2, 3, rfl, dk2, by decide, by decide, by omega, by omega, fun H5 cells5 r r0 r3 dk5 k5 => ⟨r, 1, rfl, rfl, ?_⟩⟩
        exact cstep hD3 (deck_off dkC hD3) (by omega) g0 g1 k2 hD2' hl2 hG dk5 (by omega) (by omega) k5 ⟨r - 1, rfl, by omega, by omega⟩
      · rintro H2 ⟨cells2, n2, acc, dk2, g0, g1, k2, hD2', hl2, hG⟩
        obtain ⟨ks, rfl, hk⟩ : ∃ ks : List Int, acc = ks.map V.int ∧ ∀ x ∈ ks, -1 ≤ x ∧ x ≤ 1 := by
          clear hl2 hD2'
          induction acc with
          | nil => exact ⟨[], rfl, fun x z => absurd z List.not_mem_nil⟩
          | cons v acc ih =>
            obtain ⟨ks, e, h1⟩ := ih fun u hu => hG u (List.mem_cons_of_mem _ hu)
            obtain ⟨y, e2, h2⟩ := hG v List.mem_cons_self
            refine ⟨y :: ks, by rw [e, e2]; rfl, fun x hx => ?_⟩
            rcases List.mem_cons.mp hx with hx | hx
            · rw [hx]
              exact h2
            · exact h1 x hx
        rw [List.length_map] at hl2
        refine ⟨D3, _, rfl, .inl ⟨SqL.of hD2', fun q3 hq3 => ?_⟩⟩
        have s5 := same_new (o := .tup (ks.map V.int)) hq3
        have nb3 := deck_off dk2 hq3
        refine ⟨q2, q3, _, _, rfl, rfl, (k2.trans (Keep.same s5)).rd nb2 rC, .inl upd_same, ?_, fun q4 H6 s6 hq6 w6 => ?_⟩
        · rw [List.length_map, List.length_singleton, hl2]
          exact sz_of (by omega)
        · have nb4 : ¬ Bd a c q4 := by
            rcases w6 with e | e | e
            · rw [e]
              exact nb2
            · rw [e]
              exact nb3
            · exact deck_off (deck_new dk2 hq3) e
          have dk6 := deck_same s6 (deck_new (o := .tup (ks.map V.int)) dk2 hq3)
          refine ⟨by show 3 ≤ sizeLine; decide, fun qf hqf => ?_⟩
          have s7 := same_new (o := .tup [.int L, .ref q1, .ref q4]) hqf
          have k47 : Keep (Bd a c) G4 (upd H6 qf (.tup [.int L, .ref q1, .ref q4])) := k2.trans (Keep.same (L2.Same.trans s5 (L2.Same.trans s6 s7)))
          refine k _ cells2 n2 (.ref qf) rws (x0 :: ks) (deck_new dk6 hqf) (by omega) (by omega) ((kp.trans kC).trans k47) ⟨⟨qf, q1, q4, rvs, rfl, deck_off dk6 hqf, nb1, nb4, .inl upd_same, (kA.trans k47).rd nb1 rA, same_rd s7 hq6, ?_⟩, L1, L3, by omega, by omega, fun r hr => ?_, ?_, fun y hy => ?_⟩ ?_
          · exact paired_imp (fun _ _ h => RowAt.keep (kC.trans k47) (RowAt.weak (fun b z => .inl z) h)) hpr
          · obtain ⟨e1, e2⟩ := hr1 r hr
            refine ⟨e1, fun x hx => ?_⟩
            have := e2 x hx
            omega
          · rw [List.length_cons, hl2]
            omega
          · rcases List.mem_cons.mp hy with hy | hy
            · rw [hy]
              exact hx0
            · exact hk y hy
          · omega
end
/-! ### words, repeated, sign by sign -/
section
variable {X : Cx}
theorem op_strRep : OpR X (binaryOp .Mult) (fun x y H Q => ∃ z k, x = .str z ∧ y = .int k ∧ MulOk z k ∧ Q (.str (Txt.mul z k)) H) := by
  intro pins s σ H x y v u Q I rx ry h
  obtain ⟨z, k, rfl, rfl, hm, q⟩ := h
  obtain ⟨t, rfl⟩ := rx
  obtain ⟨t', rfl⟩ := ry
  exact SB.mul hm (fun t' tk => ⟨.str (Txt.mul z k), H, I.tok _, ⟨_, rfl⟩, q⟩)
theorem mt_ljustF : MtR X "str.ljust" (fun x xs H Q => ∃ (a : Str), x = .str a ∧ xs = [.int 1, .str "."] ∧ Q (.str (Txt.ljustF a 1 46)) H) := by
  intro pins s σ H x xs v us Q I rx rs h
  obtain ⟨a, rfl, rfl, h⟩ := h
  obtain ⟨t, rfl⟩ := rx
  cases rs with
  | cons r1 rs =>
    cases rs with
    | cons r2 rs =>
      cases rs
      obtain ⟨u, rfl⟩ := r1
      obtain ⟨z, rfl⟩ := r2
      exact ljust_fill rfl rfl fun t' k => ⟨.str _, H, I.tok k, ⟨_, rfl⟩, h⟩
end
/-- the number of the sign at a place of a word; behind the word the number of letters -/
def sgn (L : Int) (z : Str) (k : Nat) : Nat := match z.cps.toList[k]? with
  | some c => c - 97
  | none => L.toNat
def sgAt (L : Int) (i : Nat) : Nat := (sgs L).getD i 0
theorem abc_mem {L : Int} (h : 1 ≤ L) (h2 : L ≤ 3) : ∀ c ∈ (abcS L).cps.toList, 97 ≤ c ∧ c < 97 + L.toNat ∧ sgAt L (c - 97) = c := by
  rcases L123 h h2 with rfl | rfl | rfl <;> decide +kernel
theorem sg_end {L : Int} (h : 1 ≤ L) (h2 : L ≤ 3) : sgAt L L.toNat = 46 := by
  rcases L123 h h2 with rfl | rfl | rfl <;> decide +kernel
theorem sgn_lt {L : Int} {z : Str} (h : 1 ≤ L) (h2 : L ≤ 3) (hz : LetS L z) {k : Nat} (hk : k < z.length) : sgn L z k < L.toNat ∧ z.cps.toList[k]? = some (97 + sgn L z k) ∧ sgAt L (sgn L z k) = 97 + sgn L z k := by
  have hk : k < z.cps.toList.length := by
    rw [Array.length_toList]
    exact hk
  have e : z.cps.toList[k]? = some z.cps.toList[k] := List.getElem?_eq_getElem hk
  obtain ⟨a1, a2, a3⟩ := abc_mem h h2 _ (hz _ (List.mem_of_getElem? e))
  unfold sgn
  rw [e]
  refine ⟨by show z.cps.toList[k] - 97 < _; omega, by show some _ = some (97 + (z.cps.toList[k] - 97)); congr 1; omega, ?_⟩
  show sgAt L (z.cps.toList[k] - 97) = 97 + (z.cps.toList[k] - 97)
  rw [a3]
  omega
theorem sgn_end {L : Int} {z : Str} {k : Nat} (hk : z.length ≤ k) : sgn L z k = L.toNat := by
  have e : z.cps.toList[k]? = none := List.getElem?_eq_none (by
    rw [Array.length_toList]
    exact hk)
  unfold sgn
  rw [e]
theorem sgn_le {L : Int} {z : Str} (h : 1 ≤ L) (h2 : L ≤ 3) (hz : LetS L z) (k : Nat) : sgn L z k ≤ L.toNat := by
  by_cases hk : k < z.length
  · exact Nat.le_of_lt (sgn_lt h h2 hz hk).1
  · exact Nat.le_of_eq (sgn_end (by omega))
theorem cut_one (z : Str) (k : Nat) : cutS z (some (k : Int)) (some ((k : Int) + 1)) = ⟨((z.cps.toList.drop k).take 1).toArray⟩ := by
  unfold cutS
  rw [show ((k : Int) + 1) = ((k + 1 : Nat) : Int) from by omega, HT.sIx_nat, HT.sIx_nat]
  have el : z.length = z.cps.toList.length := (Array.length_toList).symm
  by_cases hk : k < z.length
  · rw [Nat.min_eq_left (by omega), Nat.min_eq_left (by omega), show k + 1 - k = 1 from by omega]
  · rw [Nat.min_eq_right (by omega), Nat.min_eq_right (by omega), Nat.sub_self, List.take_zero, List.drop_eq_nil_of_le (by omega), List.take_nil]
theorem piece_at {L : Int} {z : Str} (h : 1 ≤ L) (h2 : L ≤ 3) (hz : LetS L z) (k : Nat) : Txt.ljustF (cutS z (some (k : Int)) (some ((k : Int) + 1))) 1 46 = chr1 (sgAt L (sgn L z k)) := by
  rw [cut_one]
  by_cases hk : k < z.length
  · obtain ⟨_, a2, a3⟩ := sgn_lt h h2 hz hk
    obtain ⟨hl, e⟩ := List.getElem?_eq_some_iff.mp a2
    rw [List.drop_eq_getElem_cons hl, e, a3]
    rfl
  · rw [List.drop_eq_nil_of_le (by rw [Array.length_toList]; exact Nat.le_of_not_lt hk), sgn_end (by omega), sg_end h h2]
    rfl
/-- the column's place -/
def colOk (L : Int) (i j : Nat) : Bool :=
  let y := chr1 (sgAt L i) ++ chr1 (sgAt L j)
  let p := i * (L.toNat + 1) + j
  (match (colsS L)[p]? with | some z => decide (z = y) | none => false) && ((colsS L).take p).all fun z => decide (z ≠ y)
theorem col_ok {L : Int} (h : 1 ≤ L) (h2 : L ≤ 3) : ∀ i ≤ L.toNat, ∀ j ≤ L.toNat, (i < L.toNat ∨ j < L.toNat) → colOk L i j = true := by
  rcases L123 h h2 with rfl | rfl | rfl <;> decide +kernel
theorem col_at {L : Int} (h : 1 ≤ L) (h2 : L ≤ 3) {i j : Nat} (hi : i ≤ L.toNat) (hj : j ≤ L.toNat) (hij : i < L.toNat ∨ j < L.toNat) :
    (colsS L)[i * (L.toNat + 1) + j]? = some (chr1 (sgAt L i) ++ chr1 (sgAt L j)) ∧ ∀ (m : Nat) (z : Str), m < i * (L.toNat + 1) + j → (colsS L)[m]? = some z → z ≠ chr1 (sgAt L i) ++ chr1 (sgAt L j) := by
  have e := col_ok h h2 i hi j hj hij
  unfold colOk at e
  rw [Bool.and_eq_true] at e
  obtain ⟨e1, e2⟩ := e
  refine ⟨?_, fun m z hm hz => ?_⟩
  · cases q : (colsS L)[i * (L.toNat + 1) + j]? with
    | none => rw [q] at e1; cases e1
    | some z =>
      rw [q] at e1
      rw [of_decide_eq_true e1]
  · have q := List.all_eq_true.mp e2 z (List.mem_of_getElem? (i := m) (by rw [List.getElem?_take_of_lt hm]; exact hz))
    exact of_decide_eq_true q
/-! ### what the rows lead to -/
def goRow (L : Int) (rws : List (List Int)) (one other : Str) : Nat → Nat
  | 0 => 0
  | k + 1 => ((rws.getD (goRow L rws one other k) []).getD (sgn L one k * (L.toNat + 1) + sgn L other k) 0).toNat
theorem wide_nat {L : Int} (h : 1 ≤ L) (h2 : L ≤ 3) : wide L = L.toNat * (L.toNat + 1) + L.toNat := by
  rcases L123 h h2 with rfl | rfl | rfl <;> decide
theorem col_lt {n i j : Nat} (hi : i ≤ n) (hj : j ≤ n) (h : i < n ∨ j < n) : i * (n + 1) + j < n * (n + 1) + n := by
  rcases h with h | h
  · have a1 : (i + 1) * (n + 1) ≤ n * (n + 1) := Nat.mul_le_mul_right _ h
    rw [Nat.succ_mul] at a1
    omega
  · have a1 : i * (n + 1) ≤ n * (n + 1) := Nat.mul_le_mul_right _ hi
    omega
theorem go_step {L : Int} {rws : List (List Int)} {one other : Str} (h : 1 ≤ L) (h2 : L ≤ 3) (h3 : 1 ≤ rws.length) (hr : ∀ r ∈ rws, r.length = wide L ∧ ∀ x ∈ r, 0 ≤ x ∧ x < (rws.length : Int)) (ho : LetS L one) (ht : LetS L other) {k : Nat} (hg : goRow L rws one other k < rws.length) (hk : k < one.length ∨ k < other.length) :
    ∃ (r : List Int), rws[goRow L rws one other k]? = some r ∧ r[sgn L one k * (L.toNat + 1) + sgn L other k]? = some (goRow L rws one other (k + 1) : Int) ∧ goRow L rws one other (k + 1) < rws.length ∧ (sgn L one k < L.toNat ∨ sgn L other k < L.toNat) := by
  have hs : sgn L one k < L.toNat ∨ sgn L other k < L.toNat := by
    rcases hk with hk | hk
    · exact .inl (sgn_lt h h2 ho hk).1
    · exact .inr (sgn_lt h h2 ht hk).1
  have hc := col_lt (sgn_le h h2 ho k) (sgn_le h h2 ht k) hs
  rw [← wide_nat h h2] at hc
  have e : rws[goRow L rws one other k]? = some rws[goRow L rws one other k] := List.getElem?_eq_getElem hg
  obtain ⟨rl, rx⟩ := hr _ (List.mem_of_getElem? e)
  have hc' : sgn L one k * (L.toNat + 1) + sgn L other k < (rws[goRow L rws one other k]).length := by
    rw [rl]
    exact hc
  have e2 : (rws[goRow L rws one other k])[sgn L one k * (L.toNat + 1) + sgn L other k]? = some (rws[goRow L rws one other k])[sgn L one k * (L.toNat + 1) + sgn L other k] := List.getElem?_eq_getElem hc'
  obtain ⟨x0, x1⟩ := rx _ (List.mem_of_getElem? e2)
  have e3 : (goRow L rws one other (k + 1) : Int) = (rws[goRow L rws one other k])[sgn L one k * (L.toNat + 1) + sgn L other k] := by
    show (((rws.getD (goRow L rws one other k) []).getD (sgn L one k * (L.toNat + 1) + sgn L other k) 0).toNat : Int) = _
    have q1 : rws.getD (goRow L rws one other k) [] = rws[goRow L rws one other k] := by rw [List.getD_eq_getElem?_getD, e, Option.getD_some]
    rw [q1, List.getD_eq_getElem?_getD, e2, Option.getD_some]
    omega
  refine ⟨_, e, ?_, ?_, hs⟩
  · rw [e2, e3]
  · rw [← Int.ofNat_lt, e3]
    exact x1
section
variable {P : Program} {w : World} {K : PySem.W.Frag} {mg : Str → Option Value} {base : Heap}
theorem scSign : FnScope ["word", "place", "letters"] ["word", "place", "letters"] (defScope sSignAt) := ⟨rfl, rfl, rfl, by decide +kernel, rfl, by decide +kernel, by decide +kernel⟩
def spSign : Sp := fun vs H Q _ => ∃ (z : Str) (k : Nat) (L : Int), vs = [.str z, .int k, .int L] ∧ 1 ≤ L ∧ L ≤ 3 ∧ LetS L z ∧ z.length ≤ 1000 ∧ Q (.int (sgn L z k)) H
theorem occ_abc : ∀ j ≤ 2, Builtin.Str.occurrences "abc" (chr1 (97 + j)) 0 ("abc" : Str).length 1 = [j] := by decide +kernel
theorem ok_sign {f : Addr} {fd : FuncData} (F : Fun K "sign_at" "sign_at" sSignAt f fd) (T : Mg mg) : FnOk P w K mg base CX0 1 f fd ["word", "place", "letters"] spSign := by
  refine F.ok scSign (fun vs H Q E h => ?_) (fun cdv A outer s H vs Q E hr h => ?_)
  · obtain ⟨z, k, L, rfl, _⟩ := h
    rfl
  · obtain ⟨z, k, L, rfl, L1, L3, hz, hl, q⟩ := h
    obtain ⟨tt, le⟩ := T.le
    refine ⟨_, pss_one (ps_ret (pe_ifExp (pt_cmpR op_lt (pv 1) (pe_callB call_len_str (by rfl) T.len PySem.boot_len (pa_cons (pv 0) pa_nil)) (nomark _)) (pe_bm PySem.F.plainAttrs_str PySem.F.slot_str_index PySem.F.type_str_index mt_sindex (pe_glob (v := .str "abc") (by rfl) le ⟨_, rfl⟩) (pa_cons (pe_ix ix_str (pv 0) (pv 1) (fun _ _ => rfl)) pa_nil)) (pv 2))), ?_⟩
    refine ⟨_, rfl, _, rfl, z, rfl, sz_of (by omega), _, _, rfl, rfl, _, rfl, ite2 (fun h1 => ?_) (fun h1 => ?_)⟩
    · have hk : k < z.length := by
        have := of_decide_eq_true h1
        omega
      obtain ⟨s1, s2, _⟩ := sgn_lt L1 L3 hz hk
      have hj : sgn L z k ≤ 2 := by omega
      exact ⟨rfl, _, rfl, _, rfl, z, (k : Int), 97 + sgn L z k, rfl, rfl, sz_of (by omega), atI_nat s2, "abc", _, sgn L z k, [], rfl, rfl, occ_abc _ hj, q⟩
    · have hk : z.length ≤ k := by
        have : ¬ ((k : Int) < (z.length : Int)) := fun q => h1 (decide_eq_true q)
        omega
      refine ⟨_, rfl, ?_⟩
      rw [sgn_end hk] at q
      rw [show L = ((L.toNat : Nat) : Int) by omega]
      exact q
end
section
variable {P : Program} {w : World} {K : PySem.W.Frag} {mg : Str → Option Value} {base : Heap}
def spTells (K : PySem.W.Frag) : Sp := fun vs H Q _ => ∃ (B : Addr → Prop) (v : V) (one other : Str) (L : Int) (rws : List (List Int)) (vds : List Int), vs = [v, .str one, .str other] ∧ CAt B H v L rws vds ∧ LetS L one ∧ LetS L other ∧ one.length ≤ 1000 ∧ other.length ≤ 1000 ∧
  ∀ H', Same H H' → Q (.int (vds.getD (goRow L rws one other (max one.length other.length)) 0)) H'
theorem scTells : FnScope ["comp", "one", "other", "letters", "rows", "verdicts", "row", "place"] ["comp", "one", "other"] (defScope sTells) := ⟨rfl, rfl, rfl, by decide +kernel, rfl, by decide +kernel, by decide +kernel⟩
theorem max_int (a b : Nat) : (if (b : Int) > (a : Int) then (b : Int) else (a : Int)) = ((max a b : Nat) : Int) := by
  by_cases h : (b : Int) > (a : Int)
  · rw [if_pos h, Nat.max_eq_right (by omega)]
  · rw [if_neg h, Nat.max_eq_left (by omega)]
theorem ok_tells {f fS : Addr} {fd fdS : FuncData} (F : Fun K "tells" "tells" sTells f fd) (S : FnOk P w K mg base CX0 1 fS fdS ["word", "place", "letters"] spSign) (FS : Fun K "sign_at" "sign_at" sSignAt fS fdS) (bS : Binds K fdS ["word", "place", "letters"] []) (gS : mg "sign_at" = some (.ref fS)) (T : Mg mg) :
    FnOk P w K mg base CX0 2 f fd ["comp", "one", "other"] (spTells K) := by
  refine F.ok scTells (fun vs H Q E h => ?_) (fun cdv A outer s H vs Q E hr h => ?_)
  · obtain ⟨B, v, one, other, L, rws, vds, rfl, _⟩ := h
    rfl
  · obtain ⟨B, v, one, other, L, rws, vds, rfl, hc, ho, ht, l1, l2, q⟩ := h
    obtain ⟨p, pr, pd, rvs, rfl, n1, n2, n3, h1, h2, h3, h4⟩ := hc.at_
    obtain ⟨_, L1, L3, r1, r61, hw, vl⟩ := hc
    refine ⟨_, pss_cons (ps_asg (pv 0) (pg_tup rfl (pgs_cons (pg_name (i := 3) scTells.nd rfl (.inl rfl)) (pgs_cons (pg_name (i := 4) scTells.nd rfl (.inl rfl)) (pgs_cons (pg_name (i := 5) scTells.nd rfl (.inl rfl)) pgs_nil)))))
      (pss_cons (ps_set (i := 6) scTells.nd rfl (.inl rfl) pe_int)
      (pss_cons (ps_for PassesOwn.never rfl (pi_range1 (by rfl) T.range (pa_cons (pe_callB (call_max2 rfl) (by rfl) T.max (by decide +kernel) (pa_cons (pe_callB call_len_str (by rfl) T.len PySem.boot_len (pa_cons (pv 1) pa_nil)) (pa_cons (pe_callB call_len_str (by rfl) T.len PySem.boot_len (pa_cons (pv 2) pa_nil)) pa_nil))) pa_nil)) (pg_name (i := 7) scTells.nd rfl (.inl rfl))
        (pss_one (ps_set (i := 6) scTells.nd rfl (.inl rfl) (pe_ix ix_tup (pe_ix ix_tup (pv 4) (pv 6) (fun _ _ => rfl)) (pe_op op_add (pe_op op_mul (pe_call S hr (by rfl) gS FS.kp bS .nil pass0 (pa_cons (pv 1) (pa_cons (pv 7) (pa_cons (pv 3) pa_nil)))) (pe_op op_add (pv 3) pe_int)) (pe_call S hr (by rfl) gS FS.kp bS .nil pass0 (pa_cons (pv 2) (pa_cons (pv 7) (pa_cons (pv 3) pa_nil))))) (fun _ _ => rfl)))))
      (pss_one (ps_ret (pe_ix ix_tup (pv 5) (pv 6) (fun _ _ => rfl)))))), ?_⟩
    refine ⟨_, rfl, p, _, rfl, .inl h1, rfl, _, _, rfl, _, _, rfl, _, _, rfl, rfl, ?_⟩
    refine ⟨_, rfl, one, rfl, sz_of (by omega), _, rfl, other, rfl, sz_of (by omega), _, _, rfl, ?_⟩
    have go0 : ∀ k, k ≤ max one.length other.length → goRow L rws one other k < rws.length := fun k => by
      induction k with
      | zero => exact fun _ => r1
      | succ k ih =>
        intro hk
        obtain ⟨_, _, _, q2, _⟩ := go_step L1 L3 r1 hw ho ht (ih (by omega)) (by omega)
        exact q2
    refine ⟨((max one.length other.length : Nat) : Int), by rw [max_int], by omega, by omega, for_range (lo := 0) (n := ((max one.length other.length : Nat) : Int).toNat) (fun k σ H' => H' = H ∧ ∃ y7, σ = [some (.ref p), some (.str one), some (.str other), some (.int L), some (.ref pr), some (.ref pd), some (.int (goRow L rws one other k)), y7]) ⟨rfl, none, rfl⟩ ?_ ?_⟩
    · rintro k σ H' hk ⟨rfl, y7, rfl⟩
      have hk' : k < max one.length other.length := by omega
      obtain ⟨r, e1, e2, e3, e4⟩ := go_step L1 L3 r1 hw ho ht (go0 k (by omega)) (by omega)
      obtain ⟨x, e5, qr, rfl, nq, hq⟩ := paired_at h4 e1
      refine ⟨_, rfl, _, rfl, pr, rvs, (goRow L rws one other k : Int), .ref qr, rfl, rfl, .inl h2, atI_nat e5, ?_⟩
      have a1 := sgn_le L1 L3 ho k
      have a2 := sgn_le L1 L3 ht k
      refine ⟨_, rfl, _, rfl, _, rfl, one, k, L, (by rw [Int.zero_add]; rfl), L1, L3, ho, l1, _, rfl, L, 1, rfl, rfl, _, _, rfl, rfl, .inl ⟨by omega, by omega⟩, ?_⟩
      refine ⟨_, rfl, _, rfl, _, rfl, other, k, L, (by rw [Int.zero_add]; rfl), L1, L3, ht, l2, _, _, rfl, rfl, ?_⟩
      refine ⟨qr, r.map V.int, _, .int (goRow L rws one other (k + 1) : Int), rfl, rfl, .inl hq, ?_, ?_⟩
      · have e6 : (sgn L one k : Int) * (L + 1) + (sgn L other k : Int) = ((sgn L one k * (L.toNat + 1) + sgn L other k : Nat) : Int) := by
          rw [Int.natCast_add, Int.natCast_mul, Int.natCast_add, Int.toNat_of_nonneg (by omega)]
          rfl
        rw [e6]
        exact atI_nat (by rw [List.getElem?_map, e2]; rfl)
      · exact ⟨rfl, _, rfl⟩
    · rintro σ H' ⟨rfl, y7, rfl⟩
      have hm := go0 _ (Nat.le_refl _)
      have ev : vds[goRow L rws one other (max one.length other.length)]? = some (vds.getD (goRow L rws one other (max one.length other.length)) 0) := by
        rw [List.getD_eq_getElem?_getD, List.getElem?_eq_getElem (by omega)]
        rfl
      refine ⟨_, rfl, _, rfl, pd, vds.map V.int, _, _, rfl, rfl, .inl h3, atI_nat (by rw [List.getElem?_map]; exact congrArg (Option.map V.int) ev), q H' (Same.refl H')⟩
end
section
variable {P : Program} {w : World} {K : PySem.W.Frag} {mg : Str → Option Value} {base : Heap}
theorem scTellsL : FnScope ["_law_comp_here", "_law_one_here", "_law_other", "_law_cols", "_law_row", "_law_k"] ["_law_comp_here", "_law_one_here", "_law_other"] (defScope sTellsL) := ⟨rfl, rfl, rfl, by decide +kernel, rfl, by decide +kernel, by decide +kernel⟩
theorem flat_strs (xs : List Str) : (xs.map V.str).all flatV = true := by
  rw [List.all_map]
  exact List.all_eq_true.mpr fun x _ => rfl
theorem ok_tellsL {f fC : Addr} {fd fdC : FuncData} (F : Fun K "_law_tells" "_law_tells" sTellsL f fd) (CL : FnOk P w K mg base CX0 1 fC fdC ["_law_letters"] spColsL) (FC : Fun K "_law_columns" "_law_columns" sColsL fC fdC) (bC : Binds K fdC ["_law_letters"] []) (gC : mg "_law_columns" = some (.ref fC)) (T : Mg mg) :
    FnOk P w K mg base CX0 2 f fd ["_law_comp_here", "_law_one_here", "_law_other"] (spTells K) := by
  refine F.ok scTellsL (fun vs H Q E h => ?_) (fun cdv A outer s H vs Q E hr h => ?_)
  · obtain ⟨B, v, one, other, L, rws, vds, rfl, _⟩ := h
    rfl
  · obtain ⟨B, v, one, other, L, rws, vds, rfl, hc, ho, ht, l1, l2, q⟩ := h
    obtain ⟨p, pr, pd, rvs, rfl, n1, n2, n3, h1, h2, h3, h4⟩ := hc.at_
    obtain ⟨_, L1, L3, r1, r61, hw, vl, vb⟩ := hc
    refine ⟨_, pss_cons (ps_par (i := 3) (j := 4) rfl scTellsL.nd rfl rfl (by decide) rfl rfl (pa_cons (pe_call CL hr (by rfl) gC FC.kp bC .nil pass0 (pa_cons (pe_ix ix_tup (pv 0) pe_int (fun _ _ => rfl)) pa_nil)) (pa_cons pe_int pa_nil)) (by rfl))
      (pss_cons (ps_for PassesOwn.never rfl (pi_range1 (by rfl) T.range (pa_cons (pe_callB (call_max2 rfl) (by rfl) T.max (by decide +kernel) (pa_cons (pe_callB call_len_str (by rfl) T.len PySem.boot_len (pa_cons (pv 1) pa_nil)) (pa_cons (pe_callB call_len_str (by rfl) T.len PySem.boot_len (pa_cons (pv 2) pa_nil)) pa_nil))) pa_nil)) (pg_name (i := 5) scTellsL.nd rfl (.inl rfl))
        (pss_one (ps_set (i := 4) scTellsL.nd rfl (.inl rfl) (pe_ix ix_tup (pe_ix ix_tup (pe_ix ix_tup (pv 0) pe_int (fun _ _ => rfl)) (pv 4) (fun _ _ => rfl)) (pe_bm PySem.F.plainAttrs_list PySem.F.slot_list_index PySem.F.type_list_index mt_index (pv 3) (pa_cons (pe_op op_add_str (pe_bm PySem.F.plainAttrs_str PySem.F.slot_str_ljust PySem.F.type_str_ljust mt_ljustF (pe_slice sl_str (pv 1) (po_some (pv 5)) (po_some (pe_op op_add (pv 5) pe_int))) (pa_cons pe_int (pa_cons pe_str pa_nil)))
          (pe_bm PySem.F.plainAttrs_str PySem.F.slot_str_ljust PySem.F.type_str_ljust mt_ljustF (pe_slice sl_str (pv 2) (po_some (pv 5)) (po_some (pe_op op_add (pv 5) pe_int))) (pa_cons pe_int (pa_cons pe_str pa_nil)))) pa_nil)) (fun _ _ => rfl)))))
      (pss_one (ps_ret (pe_ix ix_tup (pe_ix ix_tup (pv 0) pe_int (fun _ _ => rfl)) (pv 4) (fun _ _ => rfl))))), ?_⟩
    refine ⟨_, rfl, p, _, 0, .int L, rfl, rfl, .inl h1, atI_nat (j := 0) rfl, L, rfl, L1, L3, fun Hc pc sc nc lc => ?_⟩
    refine ⟨_, _, rfl, ?_⟩
    have go0 : ∀ k, k ≤ max one.length other.length → goRow L rws one other k < rws.length := fun k => by
      induction k with
      | zero => exact fun _ => r1
      | succ k ih =>
        intro hk
        obtain ⟨_, _, _, q2, _⟩ := go_step L1 L3 r1 hw ho ht (ih (by omega)) (by omega)
        exact q2
    refine ⟨_, rfl, one, rfl, sz_of (by omega), _, rfl, other, rfl, sz_of (by omega), _, _, rfl, ?_⟩
    refine ⟨((max one.length other.length : Nat) : Int), by rw [max_int], by omega, by omega, for_range (lo := 0) (n := ((max one.length other.length : Nat) : Int).toNat) (fun k σ H' => H' = Hc ∧ ∃ y5, σ = [some (.ref p), some (.str one), some (.str other), some (.ref pc), some (.int (goRow L rws one other k)), y5]) ⟨rfl, none, rfl⟩ ?_ ?_⟩
    · rintro k σ H' hk ⟨rfl, y5, rfl⟩
      have hk' : k < max one.length other.length := by omega
      obtain ⟨r, e1, e2, e3, e4⟩ := go_step L1 L3 r1 hw ho ht (go0 k (by omega)) (by omega)
      obtain ⟨x, e5, qr, rfl, nq, hq⟩ := paired_at h4 e1
      have a1 := sgn_le L1 L3 ho k
      have a2 := sgn_le L1 L3 ht k
      obtain ⟨c1, c2⟩ := col_at L1 L3 a1 a2 e4
      rw [Int.zero_add]
      refine ⟨_, rfl, p, _, 1, .ref pr, rfl, rfl, .inl (same_rd sc h1), atI_nat (j := 1) rfl, _, rfl, pr, rvs, (goRow L rws one other k : Int), .ref qr, rfl, rfl, .inl (same_rd sc h2), atI_nat e5, ?_⟩
      refine ⟨_, rfl, .inl ⟨rfl, _, SqL.of lc⟩, ?_⟩
      refine ⟨_, rfl, _, rfl, (k : Int), rfl, _, rfl, k, 1, rfl, rfl, (k : Int) + 1, rfl, one, rfl, sz_of (by omega), rfl, ?_⟩
      refine ⟨_, rfl, rfl, _, rfl, _, rfl, (k : Int), rfl, _, rfl, k, 1, rfl, rfl, (k : Int) + 1, rfl, other, rfl, sz_of (by omega), rfl, _, rfl, rfl, ?_⟩
      have eo := piece_at L1 L3 ho k
      have et := piece_at L1 L3 ht k
      refine ⟨_, _, rfl, rfl, ?_, ?_⟩
      · rw [eo, et]
        exact Nat.le_trans (show 1 + 1 ≤ 2 by decide) (by decide)
      · rw [eo, et]
        refine ⟨pc, _, _, _, .str (chr1 (sgAt L (sgn L one k)) ++ chr1 (sgAt L (sgn L other k))), rfl, rfl, SqL.of lc, rfl, flat_strs _, by rw [List.getElem?_map, c1]; rfl, decide_eq_true rfl, fun m z hm hz => ?_, qr, r.map V.int, _, .int (goRow L rws one other (k + 1) : Int), rfl, rfl, .inl (same_rd sc hq), atI_nat (by rw [List.getElem?_map, e2]; rfl), ⟨rfl, _, rfl⟩⟩
        rw [List.getElem?_map] at hz
        obtain ⟨z', h1, rfl⟩ := Option.map_eq_some_iff.mp hz
        exact decide_eq_false (c2 m z' hm h1)
    · rintro σ H' ⟨rfl, y5, rfl⟩
      have hm := go0 _ (Nat.le_refl _)
      have ev : vds[goRow L rws one other (max one.length other.length)]? = some (vds.getD (goRow L rws one other (max one.length other.length)) 0) := by
        rw [List.getD_eq_getElem?_getD, List.getElem?_eq_getElem (by omega)]
        rfl
      refine ⟨_, rfl, p, _, 2, .ref pd, rfl, rfl, .inl (same_rd sc h1), atI_nat (j := 2) rfl, _, rfl, pd, vds.map V.int, _, _, rfl, rfl, .inl (same_rd sc h3), atI_nat (by rw [List.getElem?_map]; exact congrArg (Option.map V.int) ev), q _ sc⟩
end
/-! ### data of one shape -/
section
variable {B : Addr → Prop} {K : PySem.W.Frag} {H : Hp}
theorem dt_sc {α : Type} {fD : α → PyData} {fV : α → V} (h1 : ∀ x v, Dt B K H v (fD x) → v = fV x) : ∀ {xs : List α} {vs : List V}, DtAll B K H vs (xs.map fD) → vs = xs.map fV
  | [], _, h => by cases h; rfl
  | x :: xs, _, h => by
    cases h with
    | cons h t => rw [h1 _ _ h, dt_sc h1 t]; rfl
theorem dt_cs {α : Type} {fD : α → PyData} {fV : α → V} (h1 : ∀ x, Dt B K H (fV x) (fD x)) : ∀ xs : List α, DtAll B K H (xs.map fV) (xs.map fD)
  | [] => .nil
  | x :: xs => .cons (h1 x) (dt_cs h1 xs)
theorem dt_flat {α : Type} {fD : α → PyData} {fV : α → V} (h1 : ∀ x v, Dt B K H v (fD x) → v = fV x) {xs : List α} {v : V} (h : Dt B K H v (.tuple (xs.map fD))) : ∃ p, v = .ref p ∧ ¬ B p ∧ Rd H p (.tup (xs.map fV)) := by
  obtain ⟨p, vs, rfl, nb, hr, ha, _⟩ := h.tup_rd
  rw [dt_sc h1 ha] at hr
  exact ⟨p, rfl, nb, hr⟩
def sgV (c : Nat) : V := .str ⟨#[c]⟩
def natV (n : Nat) : V := .int (n : Int)
theorem i_sc (x : Int) (v : V) (h : Dt B K H v (.int x)) : v = .int x := by cases h; rfl
theorem n_sc (x : Nat) (v : V) (h : Dt B K H v (natD x)) : v = natV x := by cases h; rfl
theorem c_sc (x : Nat) (v : V) (h : Dt B K H v (sgD x)) : v = sgV x := by cases h; rfl
theorem b_sc (x : Bool) (v : V) (h : Dt B K H v (.bool x)) : v = .bl x := by cases h; rfl
theorem dt_pair {p : Str × Str} {v : V} (h : Dt B K H v (prD p)) : ∃ a, v = .ref a ∧ ¬ B a ∧ Rd H a (.tup [.str p.1, .str p.2]) := by
  obtain ⟨a, vs, rfl, nb, hr, ha, _⟩ := Dt.tup_rd h
  cases ha with
  | cons h1 t =>
    cases t with
    | cons h2 t =>
      cases t
      cases h1
      cases h2
      exact ⟨a, rfl, nb, hr⟩
end
theorem cutS_head (z : Str) (i : Nat) : cutS z none (some (i : Int)) = mkS ((TL.tl z).take i) := by
  unfold cutS
  rw [HT.sIx_nat, HT.sIx_none, List.drop_zero, Nat.sub_zero]
  have e : (TL.tl z).take (min i z.length) = (TL.tl z).take i := by
    rw [TL.len_tl, ← List.take_take, List.take_length]
  show mkS ((TL.tl z).take (min i z.length)) = _
  rw [e]
theorem cutS_tail (z : Str) (i : Nat) : cutS z (some (i : Int)) none = mkS ((TL.tl z).drop i) := by
  unfold cutS
  rw [HT.sIx_nat, HT.sIx_none]
  show mkS (((TL.tl z).drop (min i z.length)).take (z.length - min i z.length)) = _
  rw [TL.len_tl]
  congr 1
  by_cases h : i ≤ (TL.tl z).length
  · rw [Nat.min_eq_left h, List.take_of_length_le (by rw [List.length_drop]; omega)]
  · rw [Nat.min_eq_right (by omega), List.drop_length, List.take_nil, List.drop_eq_nil_of_le (by omega)]
theorem occ_ltr {L : Int} (h : 1 ≤ L) (h2 : L ≤ 3) {c : Nat} (hc : Ltr L c) : Builtin.Str.occurrences "abc" ⟨#[c]⟩ 0 ("abc" : Str).length 1 = [c - 97] := by
  have a : ∀ c ∈ (abcS L).cps.toList, Builtin.Str.occurrences "abc" ⟨#[c]⟩ 0 ("abc" : Str).length 1 = [c - 97] := by
    have : L = 1 ∨ L = 2 ∨ L = 3 := by omega
    rcases this with rfl | rfl | rfl <;> decide +kernel
  exact a c hc
theorem mkS_add (a b : List Nat) : mkS a ++ mkS b = mkS (a ++ b) := TL.ext_tl (by rw [TL.tl_append]; rfl)
def rJoin (K : PySem.W.Frag) : V → List V → Hp → VK → Prop := fun x xs H Q => ∃ a p, ∃ ys : List Str, x = .str a ∧ xs = [.ref p] ∧ (SqL K H p (ys.map V.str) ∨ SqT K H p (ys.map V.str)) ∧ (ys.map (·.length)).sum + ys.length * a.length ≤ 16777216 ∧ Q (.str (Txt.join a ys)) H
theorem pe_K {X : Cx} {K : PySem.W.Frag} {e : Expr} {f : PySem.W.Frag → TE} (hK : X.K = K) (h : PE X e (f X.K)) : PE X e (f K) := hK ▸ h
/-! lists made item by item -/
def NInv {α : Type} (f : α → V) (xs : List α) (H : Hp) (D : Addr) (i : Nat) (H' : Hp) : Prop := Same H H' ∧ H' D = some (.lst ((xs.take i).map f))
theorem nstart {α : Type} {f : α → V} {xs : List α} {H : Hp} {D : Addr} (hD : H D = none) : NInv f xs H D 0 (upd H D (.lst [])) := ⟨same_new hD, upd_same⟩
theorem nturn {α : Type} {f : α → V} {xs : List α} {H H' H'' : Hp} {D : Addr} {i : Nat} {x : α} (hz : xs.length < sizeLine) (hD : H D = none) (hx : xs[i]? = some x) (p : NInv f xs H D i H') (s2 : Same H' H'') :
    ∃ acc, H'' D = some (.lst acc) ∧ acc.length < sizeLine ∧ NInv f xs H D (i + 1) (upd H'' D (.lst (acc ++ [f x]))) := by
  obtain ⟨sm, hl⟩ := p
  refine ⟨_, s2 _ _ hl, ?_, fun b o q => ?_, ?_⟩
  · rw [List.length_map, List.length_take]
    omega
  · rw [upd_ne (ne_of_none q hD)]
    exact s2 _ _ (sm _ _ q)
  · rw [upd_same, List.take_add_one, hx, List.map_append]
    rfl
theorem nend {α : Type} {f : α → V} {xs : List α} {H H' : Hp} {D : Addr} {n : Nat} (e : n = xs.length) (p : NInv f xs H D n H') : Same H H' ∧ H' D = some (.lst (xs.map f)) := by
  obtain ⟨sm, hl⟩ := p
  rw [e, List.take_length] at hl
  exact ⟨sm, hl⟩
/-! .. by picking some -/
def KInv {α : Type} (t : α → Bool) (f : α → V) (xs : List α) (H : Hp) (D : Addr) (i : Nat) (H' : Hp) : Prop := Same H H' ∧ H' D = some (.lst (((xs.take i).filter t).map f))
theorem kstart {α : Type} {t : α → Bool} {f : α → V} {xs : List α} {H : Hp} {D : Addr} (hD : H D = none) : KInv t f xs H D 0 (upd H D (.lst [])) := ⟨same_new hD, upd_same⟩
theorem kyes {α : Type} {t : α → Bool} {f : α → V} {xs : List α} {H H' H'' : Hp} {D : Addr} {i : Nat} {x : α} (hz : xs.length < sizeLine) (hD : H D = none) (hx : xs[i]? = some x) (ht : t x = true) (p : KInv t f xs H D i H') (s2 : Same H' H'') :
    ∃ acc, H'' D = some (.lst acc) ∧ acc.length < sizeLine ∧ KInv t f xs H D (i + 1) (upd H'' D (.lst (acc ++ [f x]))) := by
  obtain ⟨sm, hl⟩ := p
  refine ⟨_, s2 _ _ hl, ?_, fun b o q => ?_, ?_⟩
  · rw [List.length_map]
    have h1 := List.length_filter_le t (xs.take i)
    rw [List.length_take] at h1
    omega
  · rw [upd_ne (ne_of_none q hD)]
    exact s2 _ _ (sm _ _ q)
  · rw [upd_same, List.take_add_one, hx, List.filter_append, List.map_append]
    show _ = some (HO.lst (_ ++ ([x].filter t).map f))
    rw [List.filter_cons, if_pos ht]
    rfl
theorem kno {α : Type} {t : α → Bool} {f : α → V} {xs : List α} {H H' H'' : Hp} {D : Addr} {i : Nat} {x : α} (hx : xs[i]? = some x) (ht : t x = false) (p : KInv t f xs H D i H') (s2 : Same H' H'') : KInv t f xs H D (i + 1) H'' := by
  obtain ⟨sm, hl⟩ := p
  refine ⟨sm.trans s2, ?_⟩
  rw [s2 _ _ hl, List.take_add_one, hx, List.filter_append, List.map_append]
  show _ = some (HO.lst (_ ++ ([x].filter t).map f))
  rw [List.filter_cons, if_neg (by rw [ht]; exact Bool.false_ne_true)]
  simp
theorem kend {α : Type} {t : α → Bool} {f : α → V} {xs : List α} {H H' : Hp} {D : Addr} {n : Nat} (e : n = xs.length) (p : KInv t f xs H D n H') : Same H H' ∧ H' D = some (.lst ((xs.filter t).map f)) := by
  obtain ⟨sm, hl⟩ := p
  rw [e, List.take_length] at hl
  exact ⟨sm, hl⟩
theorem range_at {n i : Nat} (h : i < n) : (List.range n)[i]? = some i := by
  rw [List.getElem?_range h]
theorem cutS_mid (z : Str) (p l : Nat) : cutS z (some (p : Int)) (some ((p : Int) + (l : Int))) = mkS (((TL.tl z).drop p).take l) := by
  have e : (p : Int) + (l : Int) = ((p + l : Nat) : Int) := rfl
  unfold cutS
  rw [e, HT.sIx_nat, HT.sIx_nat]
  show mkS (((TL.tl z).drop (min p z.length)).take (min (p + l) z.length - min p z.length)) = _
  rw [TL.len_tl]
  congr 1
  by_cases h : p ≤ (TL.tl z).length
  · rw [Nat.min_eq_left h]
    by_cases h2 : p + l ≤ (TL.tl z).length
    · rw [Nat.min_eq_left h2, Nat.add_sub_cancel_left]
    · rw [Nat.min_eq_right (by omega), List.take_of_length_le (by rw [List.length_drop]; omega), List.take_of_length_le (by rw [List.length_drop]; omega)]
  · rw [show min p (TL.tl z).length = (TL.tl z).length by omega, List.drop_length, List.take_nil, List.drop_eq_nil_of_le (by omega), List.take_nil]
theorem cut_pre (z x : Str) (p : Nat) : decide (V.str (mkS (((TL.tl z).drop p).take x.length)) = V.str x) = TL.pre (TL.tl x) ((TL.tl z).drop p) := by
  rw [TL.len_tl]
  by_cases h : ((TL.tl z).drop p).take (TL.tl x).length = TL.tl x
  · rw [decide_eq_true (by rw [h, mkS_tl])]
    exact (beq_iff_eq.mpr h).symm
  · rw [decide_eq_false (fun q => h (congrArg TL.tl (V.str.inj q)))]
    exact (beq_eq_false_iff_ne.mpr h).symm
theorem takeWhile_take {c : Nat} : ∀ {cs : List Nat} {k : Nat}, cs[k]? = some c → (∀ i, i < k → cs[i]? ≠ some c) → (cs.takeWhile fun x => !decide (x = c)) = cs.take k
  | [], _, h, _ => by cases h
  | x :: cs, 0, h, _ => by
    cases h
    rw [List.takeWhile_cons, if_neg (by simp)]
    rfl
  | x :: cs, k + 1, h, hn => by
    have hx : x ≠ c := fun e => hn 0 (Nat.zero_lt_succ k) (by rw [e]; rfl)
    rw [List.takeWhile_cons, if_pos (by simp [hx]), takeWhile_take (cs := cs) (k := k) h fun i hi => hn (i + 1) (by omega)]
    rfl
theorem takeWhile_all {c : Nat} : ∀ {cs : List Nat}, c ∉ cs → (cs.takeWhile fun x => !decide (x = c)) = cs
  | [], _ => rfl
  | x :: cs, h => by
    have hx : x ≠ c := fun e => h (by rw [e]; exact List.mem_cons_self)
    rw [List.takeWhile_cons, if_pos (by simp [hx]), takeWhile_all fun z => h (List.mem_cons_of_mem _ z)]
theorem pre_one {c : Nat} {l : List Nat} : TL.pre [c] l = true ↔ l.head? = some c := by
  cases l with
  | nil =>
    refine ⟨fun h => ?_, fun h => ?_⟩
    · cases h
    · cases h
  | cons x l =>
    show ((x :: l).take 1 == [c]) = true ↔ _
    rw [beq_iff_eq]
    show [x] = [c] ↔ some x = some c
    simp
theorem occ_one {z : Str} {c : Nat} (h : c ∈ TL.tl z) : ∃ (k : Nat) (r : List Nat), Builtin.Str.occurrences z (chr1 c) 0 z.length 1 = k :: r ∧ ((TL.tl z).takeWhile fun x => !decide (x = c)) = (TL.tl z).take k := by
  have ne : TL.tl (chr1 c) ≠ [] := List.cons_ne_nil _ _
  have hd : ∀ i, ((TL.tl z).drop i).head? = (TL.tl z)[i]? := fun i => by rw [List.head?_drop]
  rcases StrLaws.occ_head z (chr1 c) 1 (Nat.le_refl 1) with ⟨h0, hn⟩ | ⟨k, r, h0, hk, hn⟩
  · obtain ⟨i, hi⟩ := List.mem_iff_getElem?.mp h
    exfalso
    have := TL.no_at ne (hn i)
    rw [show TL.tl (chr1 c) = [c] from rfl] at this
    have h2 : TL.pre [c] ((TL.tl z).drop i) = true := pre_one.mpr (by rw [hd, hi])
    rw [this] at h2
    cases h2
  · refine ⟨k, r, h0, takeWhile_take ?_ fun i hi e => ?_⟩
    · have h2 : TL.pre [c] ((TL.tl z).drop k) = true := (TL.at_iff ne k).mp hk
      rw [← hd]
      exact pre_one.mp h2
    · have := TL.no_at ne (hn i hi)
      rw [show TL.tl (chr1 c) = [c] from rfl] at this
      have h2 : TL.pre [c] ((TL.tl z).drop i) = true := pre_one.mpr (by rw [hd, e])
      rw [this] at h2
      cases h2
section
variable {P : Program} {w : World} {K : PySem.W.Frag} {mg : Str → Option Value} {base : Heap}
theorem scCut : FnScope ["unit", "most", "word", "number", "place", "sign"] ["unit", "most", "word"] (defScope sCut) := ⟨rfl, rfl, rfl, by decide +kernel, rfl, by decide +kernel, by decide +kernel⟩
def spCut (K : PySem.W.Frag) : Sp := fun vs H Q _ => ∃ (B : Addr → Prop) (v : V) (u : List Int) (m : Int) (z : Str) (L : Int), vs = [v, .int m, .str z] ∧ Dt B K H v (.tuple (u.map PyData.int)) ∧ (Stp.cut u m).Ok L ∧ 1 ≤ L ∧ L ≤ 3 ∧ WOk L 1000 (TL.tl z) ∧ ∀ H', Same H H' → Q (.str (mkS ((Stp.cut u m).on (TL.tl z)))) H'
theorem ok_cut {f : Addr} {fd : FuncData} (F : Fun K "cut" "cut" sCut f fd) (T : Mg mg) : FnOk P w K mg base CX0 1 f fd ["unit", "most", "word"] (spCut K) := by
  refine F.ok scCut (fun vs H Q E h => ?_) (fun cdv A outer s H vs Q E hr h => ?_)
  · obtain ⟨B, v, u, m, z, L, rfl, _⟩ := h
    rfl
  · obtain ⟨B, v, u, m, z, L, rfl, hd, hok, L1, L3, ⟨wl, wc⟩, k⟩ := h
    obtain ⟨tt, le⟩ := T.le
    obtain ⟨p, rfl, nb, hp⟩ := dt_flat (fV := V.int) i_sc hd
    have ul : (u.length : Int) = L := hok.1
    have zl := TL.len_tl z
    refine ⟨_, (pss_cons (ps_set (i := 3) scCut.nd rfl (.inl rfl) pe_int)
      (pss_cons (ps_for PassesOwn.never rfl (pi_enumS (by rfl) T.enum (pa_cons (pv 2) pa_nil)) (pg_tup rfl (pgs_cons (pg_name (i := 4) scCut.nd rfl (.inl rfl)) (pgs_cons (pg_name (i := 5) scCut.nd rfl (.inl rfl)) pgs_nil))) (pss_cons (ps_aug (i := 3) scCut.nd rfl (.inl rfl) (pe_ix (r := rIxT K) ix_tup (pv 0) (pe_bm PySem.F.plainAttrs_str PySem.F.slot_str_index PySem.F.type_str_index mt_sindex (pe_glob (v := .str "abc") (by rfl) le ⟨_, rfl⟩) (pa_cons (pv 5) pa_nil)) (fun _ _ => rfl)) ip_add)
      (pss_one (ps_if (pt_cmpR op_gt (pv 3) (pv 1) (nomark _)) (pss_one (ps_ret (pe_slice sl_str (pv 2) po_none (po_some (pv 4))))) pss_nil))))
      (pss_one (ps_ret (pv 2))))), ?_⟩
    refine ⟨_, rfl, z, rfl, ?_⟩
    refine for_it (walk_enumS (z := z)) (fun i σ H' => (∃ y4 y5, σ = [some (.ref p), some (.int m), some (.str z), some (.int (sums u ((TL.tl z).take i))), y4, y5]) ∧ Same H H' ∧ cutN u m 0 (TL.tl z) = i + cutN u m (sums u ((TL.tl z).take i)) ((TL.tl z).drop i)) ⟨⟨none, none, rfl⟩, Same.refl H, ?_⟩ (fun _ _ _ _ _ => True.intro) ?_ ?_
    · rw [List.take_zero, List.drop_zero, sums_nil, Nat.zero_add]
    · rintro i x σ H1 H2 hi ⟨⟨y4, y5, rfl⟩, sm, hc⟩ ⟨T1, va, vb, rfl, nT, rfl, ea, eb⟩
      cases ea
      obtain ⟨c, hcz, rfl⟩ := Option.map_eq_some_iff.mp eb
      have hcz : (TL.tl z)[i]? = some c := by
        rw [Array.getElem?_toList]
        exact hcz
      have hl := wc c (List.mem_of_getElem? hcz)
      have s1 := sm.trans (same_new (o := .tup [V.int (i : Nat), .str ⟨#[c]⟩]) nT)
      have hx : c - 97 < u.length := by
        have := (ltr_mem L1 L3 c hl).2
        omega
      rw [cutN_drop hcz] at hc
      refine ⟨T1, _, rfl, SqT.of upd_same, rfl, _, _, rfl, _, _, rfl, rfl, ?_⟩
      refine ⟨_, rfl, _, rfl, rfl, _, rfl, "abc", _, c - 97, [], rfl, rfl, occ_ltr L1 L3 hl, p, _, _, .int (wt u c), rfl, rfl, .inl (same_rd s1 hp), atI_nat (by rw [List.getElem?_map, getD_of (d := 0) hx]; rfl), _, _, rfl, rfl, ?_⟩
      refine ⟨_, rfl, _, rfl, _, _, rfl, rfl, _, rfl, ite2 (fun h1 => ?_) (fun h1 => ?_)⟩
      · have h1 := of_decide_eq_true h1
        rw [if_pos h1] at hc
        refine ⟨_, rfl, _, rfl, _, rfl, z, rfl, sz_of (by omega), ?_⟩
        rw [cutS_head]
        have := k _ s1
        rw [show (Stp.cut u m).on (TL.tl z) = (TL.tl z).take (cutN u m 0 (TL.tl z)) from rfl, hc] at this
        exact this
      · have h1 : ¬ (sums u ((TL.tl z).take i) + wt u c > m) := fun q => h1 (decide_eq_true q)
        rw [if_neg h1] at hc
        exact ⟨⟨_, _, by rw [sums_take hcz]; rfl⟩, s1, by rw [sums_take hcz]; omega⟩
    · rintro σ H1 ⟨⟨y4, y5, rfl⟩, sm, hc⟩
      refine ⟨_, rfl, ?_⟩
      have := k _ sm
      have e : z.cps.size = (TL.tl z).length := zl
      rw [show (Stp.cut u m).on (TL.tl z) = (TL.tl z).take (cutN u m 0 (TL.tl z)) from rfl, hc, e, List.drop_length, cutN, Nat.add_zero, List.take_length, mkS_tl] at this
      exact this
end
section
variable {P : Program} {w : World} {K : PySem.W.Frag} {mg : Str → Option Value} {base : Heap}
theorem scPassed : FnScope ["rows", "outs", "word", "turn", "signs", "sign", "letter"] ["rows", "outs", "word"] (defScope sPassed) := ⟨rfl, rfl, rfl, by decide +kernel, rfl, by decide +kernel, by decide +kernel⟩
def spPassed (K : PySem.W.Frag) : Sp := fun vs H Q _ => ∃ (B B2 : Addr → Prop) (v v2 : V) (rows outs : List (List Nat)) (z : Str) (L : Int), vs = [v, v2, .str z] ∧ Dt B K H v (.tuple (rows.map fun r => .tuple (r.map natD))) ∧ Dt B2 K H v2 (.tuple (outs.map fun r => .tuple (r.map sgD))) ∧ (Stp.pass rows outs).Ok L ∧ 1 ≤ L ∧ L ≤ 3 ∧ WOk L 1000 (TL.tl z) ∧ ∀ H', Same H H' → Q (.str (mkS ((Stp.pass rows outs).on (TL.tl z)))) H'
theorem join_sg (cs : List Nat) : Txt.join "" (cs.map fun c => (⟨#[c]⟩ : Str)) = mkS cs := by
  rw [TL.join_eq]
  refine TL.ext_tl ?_
  rw [TL.tl_join]
  have e : ∀ cs : List Nat, TL.joinL [] ((cs.map fun c => (⟨#[c]⟩ : Str)).map TL.tl) = cs := fun cs => by
    induction cs with
    | nil => rfl
    | cons c cs ih =>
      cases cs with
      | nil => rfl
      | cons e cs =>
        show [c] ++ ([] ++ TL.joinL [] (((e :: cs).map fun c => (⟨#[c]⟩ : Str)).map TL.tl)) = _
        rw [ih]
        rfl
  exact e cs
theorem sg_map (cs : List Nat) : cs.map sgV = (cs.map fun c => (⟨#[c]⟩ : Str)).map V.str := by
  rw [List.map_map]
  rfl
theorem sg_sum (cs : List Nat) : ((cs.map fun c => (⟨#[c]⟩ : Str)).map (·.length)).sum = cs.length := by
  induction cs with
  | nil => rfl
  | cons c cs ih =>
    rw [List.map_cons, List.map_cons, List.sum_cons, ih, List.length_cons, Nat.add_comm]
    rfl
theorem ok_passed {f : Addr} {fd : FuncData} (F : Fun K "passed" "passed" sPassed f fd) (T : Mg mg) : FnOk P w K mg base CX0 1 f fd ["rows", "outs", "word"] (spPassed K) := by
  refine F.ok scPassed (fun vs H Q E h => ?_) (fun cdv A outer s H vs Q E hr h => ?_)
  · obtain ⟨B, B2, v, v2, rows, outs, z, L, rfl, _⟩ := h
    rfl
  · obtain ⟨B, B2, v, v2, rows, outs, z, L, rfl, hd, hd2, hok, L1, L3, ⟨wl, wc⟩, k⟩ := h
    obtain ⟨tt, le⟩ := T.le
    obtain ⟨p, rvs, rfl, nb, hp, ha, hlr⟩ := hd.tup_rd
    obtain ⟨p2, ovs, rfl, nb2, hp2, ha2, hlo⟩ := hd2.tup_rd
    obtain ⟨r1, r2, r3, r4, r5⟩ := id hok
    have zl := TL.len_tl z
    refine ⟨_, (pss_cons (ps_set (i := 3) scPassed.nd rfl (.inl rfl) pe_int)
      (pss_cons (ps_set (i := 4) scPassed.nd rfl (.inl rfl) (pe_lstA pa_nil))
      (pss_cons (ps_for PassesOwn.never rfl (pi_str (pv 2)) (pg_name (i := 5) scPassed.nd rfl (.inl rfl)) (pss_cons (ps_set (i := 6) scPassed.nd rfl (.inl rfl) (pe_bm PySem.F.plainAttrs_str PySem.F.slot_str_index PySem.F.type_str_index mt_sindex (pe_glob (v := .str "abc") (by rfl) le ⟨_, rfl⟩) (pa_cons (pv 5) pa_nil)))
      (pss_cons (ps_expr (pe_bm PySem.F.plainAttrs_list PySem.F.slot_list_append PySem.F.type_list_append mt_append (pv 4) (pa_cons (pe_ix (r := rIxT K) ix_tup (pe_ix (r := rIxT K) ix_tup (pv 1) (pv 3) (fun _ _ => rfl)) (pv 6) (fun _ _ => rfl)) pa_nil)))
      (pss_one (ps_set (i := 3) scPassed.nd rfl (.inl rfl) (pe_ix (r := rIxT K) ix_tup (pe_ix (r := rIxT K) ix_tup (pv 0) (pv 3) (fun _ _ => rfl)) (pv 6) (fun _ _ => rfl)))))))
      (pss_one (ps_ret (pe_bm (r := rJoin K) PySem.F.plainAttrs_str PySem.F.slot_str_join PySem.F.type_str_join mt_join pe_str (pa_cons (pv 4) pa_nil))))))), ?_⟩
    refine ⟨by show 0 ≤ sizeLine; decide, fun ps G1 s0 nps _ lps => ?_⟩
    refine ⟨_, rfl, z, rfl, ?_⟩
    refine for_it walk_str (fun i σ H' => ∃ (t : Nat) (out : List Nat), (∃ y5 y6, σ = [some (.ref p), some (.ref p2), some (.str z), some (.int (t : Int)), some (.ref ps), y5, y6]) ∧ Same H H' ∧ H' ps = some (.lst (out.map sgV)) ∧ out.length = i ∧ t < rows.length ∧ passL rows outs 0 (TL.tl z) = out ++ passL rows outs t ((TL.tl z).drop i)) ⟨0, [], ⟨none, none, rfl⟩, s0, lps, rfl, r1, rfl⟩ (fun _ _ _ _ _ => True.intro) ?_ ?_
    · rintro i x σ H1 H2 hi ⟨t, out, ⟨y5, y6, rfl⟩, sm, hps, hlen, ht, hpl⟩ ⟨rfl, c, hcz, rfl⟩
      have hcz : (TL.tl z)[i]? = some c := by
        rw [Array.getElem?_toList]
        exact hcz
      have hl := wc c (List.mem_of_getElem? hcz)
      have hiz := (List.getElem?_eq_some_iff.mp hcz).1
      have hx := (ltr_mem L1 L3 c hl).2
      obtain ⟨vr, er, dr⟩ := ha.get (by rw [List.getElem?_map, getD_of (d := []) ht]; rfl)
      obtain ⟨q, rfl, _, hq⟩ := dt_flat n_sc dr
      obtain ⟨vo, eo, d2⟩ := ha2.get (by rw [List.getElem?_map, getD_of (d := []) (show t < outs.length by omega)]; rfl)
      obtain ⟨q2, rfl, _, hq2⟩ := dt_flat c_sc d2
      have lr := r4 _ (getD_mem (d := []) ht)
      have lo := r5 _ (getD_mem (d := []) (show t < outs.length by omega))
      refine ⟨rfl, _, rfl, "abc", _, c - 97, [], rfl, rfl, occ_ltr L1 L3 hl, ?_⟩
      refine ⟨_, rfl, .inl ⟨rfl, _, SqL.of hps⟩, _, rfl, _, rfl, p2, _, _, .ref q2, rfl, rfl, .inl (same_rd sm hp2), atI_nat eo, _, rfl, q2, _, _, sgV ((outs.getD t []).getD (c - 97) 0), rfl, rfl, .inl (same_rd sm hq2), atI_nat (by rw [List.getElem?_map, getD_of (d := 0) (by omega)]; rfl), ?_⟩
      refine ⟨ps, _, _, rfl, rfl, hps, ?_, ?_⟩
      · rw [List.length_map]
        exact Nat.lt_of_le_of_lt (show out.length ≤ 1000 by omega) (by decide)
      have nps' : ∀ b o, H b = some o → b ≠ ps := fun b o e z => by
        rw [z, nps] at e
        cases e
      have sm2 : Same H (upd H2 ps (.lst (out.map sgV ++ [sgV ((outs.getD t []).getD (c - 97) 0)]))) := fun b o e => by
        rw [upd_ne (nps' b o e)]
        exact sm b o e
      refine ⟨_, rfl, _, rfl, p, _, _, .ref q, rfl, rfl, .inl (same_rd sm2 hp), atI_nat er, _, rfl, q, _, _, natV ((rows.getD t []).getD (c - 97) 0), rfl, rfl, .inl (same_rd sm2 hq), atI_nat (by rw [List.getElem?_map, getD_of (d := 0) (by omega)]; rfl), ?_⟩
      refine ⟨(rows.getD t []).getD (c - 97) 0, out ++ [(outs.getD t []).getD (c - 97) 0], ⟨_, _, rfl⟩, sm2, ?_, ?_, lr.2 _ (getD_mem (by omega)), ?_⟩
      · rw [upd_same, List.map_append]
        rfl
      · rw [List.length_append, hlen]
        rfl
      · rw [hpl, List.drop_eq_getElem_cons hiz, (List.getElem?_eq_some_iff.mp hcz).2, passL, List.append_assoc]
        rfl
    · rintro σ H1 ⟨t, out, ⟨y5, y6, rfl⟩, sm, hps, hlen, ht, hpl⟩
      have e : z.cps.size = (TL.tl z).length := zl
      rw [e, List.drop_length, passL, List.append_nil] at hpl
      have hz : z.length = z.cps.size := rfl
      refine ⟨rfl, _, rfl, "", ps, out.map fun c => (⟨#[c]⟩ : Str), rfl, rfl, .inl (SqL.of (by rw [← sg_map]; exact hps)), ?_, ?_⟩
      · rw [sg_sum, List.length_map]
        show out.length + out.length * 0 ≤ _
        omega
      · rw [join_sg]
        have := k _ sm
        rw [show (Stp.pass rows outs).on (TL.tl z) = passL rows outs 0 (TL.tl z) from rfl, hpl] at this
        exact this
end
section
variable {P : Program} {w : World} {K : PySem.W.Frag} {mg : Str → Option Value} {base : Heap}
theorem scSwapped : FnScope ["pairs", "word", "first", "found", "one", "other", "piece", "partner", "place"] ["pairs", "word"] (defScope sSwapped) := ⟨rfl, rfl, rfl, by decide +kernel, rfl, by decide +kernel, by decide +kernel⟩
def swD (ps : List (Str × Str)) : PyData := .tuple (ps.map prD)
def spSwapped (K : PySem.W.Frag) : Sp := fun vs H Q _ => ∃ (B : Addr → Prop) (v : V) (ps : List (Str × Str)) (z : Str) (L : Int), vs = [v, .str z] ∧ Dt B K H v (swD ps) ∧ (Stp.swap ps).Ok L ∧ 1 ≤ L ∧ L ≤ 3 ∧ WOk L 1000 (TL.tl z) ∧ ∀ H', Same H H' → Q (.str (mkS ((Stp.swap ps).on (TL.tl z)))) H'
theorem sides_snoc {ps : List (Str × Str)} {i : Nat} {p : Str × Str} (h : ps[i]? = some p) : sides (ps.take (i + 1)) = sides (ps.take i) ++ side2 p := by
  unfold sides
  rw [List.take_add_one, h, List.flatMap_append]
  simp
theorem ok_swapped {f : Addr} {fd : FuncData} (F : Fun K "swapped" "swapped" sSwapped f fd) (T : Mg mg) : FnOk P w K mg base CX0 1 f fd ["pairs", "word"] (spSwapped K) := by
  refine F.ok scSwapped (fun vs H Q E h => ?_) (fun cdv A outer s H vs Q E hr h => ?_)
  · obtain ⟨B, v, ps, z, L, rfl, _⟩ := h
    rfl
  · obtain ⟨B, v, ps, z, L, rfl, hd, hok, L1, L3, ⟨wl, wc⟩, k⟩ := h
    obtain ⟨p, pvs, rfl, nb, hp, ha, hlr⟩ := hd.tup_rd
    have zl := TL.len_tl z
    refine ⟨_, (pss_cons (ps_set (i := 2) scSwapped.nd rfl (.inl rfl) (pe_callB call_len_str (by rfl) T.len PySem.boot_len (pa_cons (pv 1) pa_nil)))
      (pss_cons (ps_set (i := 3) scSwapped.nd rfl (.inl rfl) (pe_tup (pa_cons pe_str (pa_cons pe_str pa_nil))))
      (pss_cons (ps_for PassesOwn.never rfl (pi_tup (pv 0)) (pg_tup rfl (pgs_cons (pg_name (i := 4) scSwapped.nd rfl (.inl rfl)) (pgs_cons (pg_name (i := 5) scSwapped.nd rfl (.inl rfl)) pgs_nil))) (pss_one (ps_for PassesOwn.never rfl (pi_tup (pe_tup (pa_cons (pe_tup (pa_cons (pv 4) (pa_cons (pv 5) pa_nil))) (pa_cons (pe_tup (pa_cons (pv 5) (pa_cons (pv 4) pa_nil))) pa_nil)))) (pg_tup rfl (pgs_cons (pg_name (i := 6) scSwapped.nd rfl (.inl rfl)) (pgs_cons (pg_name (i := 7) scSwapped.nd rfl (.inl rfl)) pgs_nil))) (pss_cons (ps_set (i := 8) scSwapped.nd rfl (.inl rfl) (pe_bm PySem.F.plainAttrs_str PySem.F.slot_str_find PySem.F.type_str_find mt_find (pv 1) (pa_cons (pv 6) pa_nil)))
      (pss_one (ps_if (pt_chain op_le op_lt pe_int (pv 8) (pv 2)) (pss_cons (ps_set (i := 2) scSwapped.nd rfl (.inl rfl) (pv 8))
      (pss_one (ps_set (i := 3) scSwapped.nd rfl (.inl rfl) (pe_tup (pa_cons (pv 6) (pa_cons (pv 7) pa_nil)))))) pss_nil))))))
      (pss_one (ps_ret (pe_op op_add_str (pe_op op_add_str (pe_slice sl_str (pv 1) po_none (po_some (pv 2))) (pe_ix (r := rIxT K) ix_tup (pv 3) pe_int (fun _ _ => rfl))) (pe_slice sl_str (pv 1) (po_some (pe_op op_add (pv 2) (pe_callB call_len_str (by rfl) T.len PySem.boot_len (pa_cons (pe_ix (r := rIxT K) ix_tup (pv 3) pe_int (fun _ _ => rfl)) pa_nil)))) po_none))))))), ?_⟩
    refine ⟨_, rfl, z, rfl, sz_of (by omega), by show 2 ≤ sizeLine; decide, fun pf npf => ?_⟩
    refine ⟨_, rfl, p, rfl, ⟨pvs, .inl (same_rd (same_new npf) hp)⟩, ?_⟩
    refine for_tup (xs := pvs) (fun i σ H' => ∃ (first : Nat) (q : Pc) (pf : Addr), (∃ y4 y5 y6 y7 y8, σ = [some (.ref p), some (.str z), some (.int (first : Int)), some (.ref pf), y4, y5, y6, y7, y8]) ∧ Same H H' ∧ Rd H' pf (.tup [.str (mkS q.1), .str (mkS q.2)]) ∧ Best (sides (ps.take i)) (TL.tl z) first q) ⟨(TL.tl z).length, ([], []), pf, ⟨none, none, none, none, none, by rw [← zl]; rfl⟩, same_new npf, .inl upd_same, best0⟩ (fun i σ H' _ h => by
      obtain ⟨_, _, _, _, sm, _⟩ := h
      exact .inl (same_rd sm hp)) ?_ ?_
    · rintro i x σ H1 hx ⟨first, q, pf, ⟨y4, y5, y6, y7, y8, rfl⟩, sm, hpf, best⟩
      obtain ⟨d, hdi, hd1⟩ := ha.getV hx
      rw [List.getElem?_map] at hdi
      obtain ⟨pp, hpp, rfl⟩ := Option.map_eq_some_iff.mp hdi
      obtain ⟨pa, rfl, _, hpa⟩ := dt_pair hd1
      have hpm := hok.2 pp (List.mem_of_getElem? hpp)
      refine ⟨pa, _, rfl, .inl (same_rd sm hpa), rfl, _, _, rfl, _, _, rfl, rfl, ?_⟩
      refine ⟨_, rfl, _, rfl, by show 2 ≤ sizeLine; decide, fun ta nta => ?_⟩
      refine ⟨_, rfl, _, rfl, by show 2 ≤ sizeLine; decide, fun tb ntb => ?_⟩
      refine ⟨by show 2 ≤ sizeLine; decide, fun tt ntt => ?_⟩
      have sa := same_new (o := .tup [.str pp.1, .str pp.2]) nta
      have sb := same_new (o := .tup [.str pp.2, .str pp.1]) ntb
      have st := same_new (o := .tup [.ref ta, .ref tb]) ntt
      have hta : Rd (upd (upd (upd H1 ta (.tup [.str pp.1, .str pp.2])) tb (.tup [.str pp.2, .str pp.1])) tt (.tup [.ref ta, .ref tb])) ta (.tup [.str pp.1, .str pp.2]) := same_rd (sb.trans st) (.inl upd_same)
      have htb : Rd (upd (upd (upd H1 ta (.tup [.str pp.1, .str pp.2])) tb (.tup [.str pp.2, .str pp.1])) tt (.tup [.ref ta, .ref tb])) tb (.tup [.str pp.2, .str pp.1]) := same_rd st (.inl upd_same)
      have htt : Rd (upd (upd (upd H1 ta (.tup [.str pp.1, .str pp.2])) tb (.tup [.str pp.2, .str pp.1])) tt (.tup [.ref ta, .ref tb])) tt (.tup [.ref ta, .ref tb]) := .inl upd_same
      have s3 := sa.trans (sb.trans st)
      have hpf := same_rd s3 hpf
      have sm := sm.trans s3
      generalize upd (upd (upd H1 ta (.tup [.str pp.1, .str pp.2])) tb (.tup [.str pp.2, .str pp.1])) tt (.tup [.ref ta, .ref tb]) = G at *
      refine ⟨tt, rfl, ⟨_, .inl htt⟩, ?_⟩
      refine for_tup (xs := [.ref ta, .ref tb]) (fun j σ H' => ∃ (first : Nat) (q : Pc) (pf : Addr), (∃ y6 y7 y8, σ = [some (.ref p), some (.str z), some (.int (first : Int)), some (.ref pf), some (.str pp.1), some (.str pp.2), y6, y7, y8]) ∧ Same G H' ∧ Rd H' pf (.tup [.str (mkS q.1), .str (mkS q.2)]) ∧ Best (sides (ps.take i) ++ (side2 pp).take j) (TL.tl z) first q) ⟨first, q, pf, ⟨_, _, _, rfl⟩, Same.refl G, hpf, by rw [List.take_zero, List.append_nil]; exact best⟩ (fun j σ H' _ h => by
        obtain ⟨_, _, _, _, sm2, _⟩ := h
        exact .inl (same_rd sm2 htt)) ?_ ?_
      · rintro j x σ H2 hx ⟨first, q, pf, ⟨y6, y7, y8, rfl⟩, sm2, hpf, best⟩
        obtain ⟨tx, x1, x2, rfl, htx, hsd, hne⟩ : ∃ (tx : Addr) (x1 x2 : Str), x = .ref tx ∧ Rd H2 tx (.tup [.str x1, .str x2]) ∧ (side2 pp)[j]? = some (TL.tl x1, TL.tl x2) ∧ TL.tl x1 ≠ [] := by
          have ne : ∀ x : Str, 1 ≤ x.length → TL.tl x ≠ [] := fun x h z => by
            rw [TL.len_tl, z] at h
            exact absurd h (by decide)
          match j, hx with
          | 0, hx =>
            cases hx
            exact ⟨ta, pp.1, pp.2, rfl, same_rd sm2 hta, rfl, ne _ hpm.2.2.1⟩
          | 1, hx =>
            cases hx
            exact ⟨tb, pp.2, pp.1, rfl, same_rd sm2 htb, rfl, ne _ (by rw [hpm.2.2.2.2]; exact hpm.2.2.1)⟩
        refine ⟨tx, _, rfl, .inl htx, rfl, _, _, rfl, _, _, rfl, rfl, ?_⟩
        refine ⟨_, rfl, rfl, _, rfl, z, x1, rfl, rfl, ?_⟩
        have e1 : sides (ps.take i) ++ (side2 pp).take (j + 1) = (sides (ps.take i) ++ (side2 pp).take j) ++ [(TL.tl x1, TL.tl x2)] := by
          rw [List.take_add_one, hsd, List.append_assoc]
          rfl
        have none : ∀ (y8 : Option V), (∀ i, i < first → TL.pre (TL.tl x1) ((TL.tl z).drop i) = false) → ∃ (first' : Nat) (q' : Pc) (pf' : Addr), (∃ y6 y7 y8', [some (V.ref p), some (.str z), some (.int (first : Int)), some (.ref pf), some (.str pp.1), some (.str pp.2), some (.str x1), some (.str x2), y8] = [some (V.ref p), some (.str z), some (.int (first' : Int)), some (.ref pf'), some (.str pp.1), some (.str pp.2), y6, y7, y8']) ∧ Same G H2 ∧ Rd H2 pf' (.tup [.str (mkS q'.1), .str (mkS q'.2)]) ∧ Best (sides (ps.take i) ++ (side2 pp).take (j + 1)) (TL.tl z) first' q' := fun y8 h => ⟨first, q, pf, ⟨_, _, _, rfl⟩, sm2, hpf, by
          rw [e1]
          exact best_keep best h⟩
        rcases find_of z x1 hne with ⟨ef, hn⟩ | ⟨kk, ef, h1, h2, h3⟩
        · rw [ef]
          refine ⟨_, rfl, 0, -1, rfl, rfl, _, rfl, ite2 (fun h => absurd (of_decide_eq_true h) (by decide)) (fun _ => ⟨_, rfl, ?_⟩)⟩
          exact none _ fun i _ => hn i
        · rw [ef]
          refine ⟨_, rfl, 0, (kk : Int), rfl, rfl, _, rfl, ite2 (fun _ => ?_) (fun h => absurd (decide_eq_true (by omega)) h)⟩
          refine ⟨_, rfl, (kk : Int), (first : Int), rfl, rfl, _, rfl, ite2 (fun h => ?_) (fun h => ?_)⟩
          · have hlt : kk < first := by
              have := of_decide_eq_true h
              omega
            refine ⟨_, rfl, _, rfl, _, rfl, by show 2 ≤ sizeLine; decide, fun pg npg => ?_⟩
            refine ⟨kk, (TL.tl x1, TL.tl x2), pg, ⟨_, _, _, rfl⟩, sm2.trans (same_new npg), .inl ?_, by rw [e1]; exact best_less best hlt h1 h2⟩
            show _ = some (HO.tup [V.str (mkS (TL.tl x1)), V.str (mkS (TL.tl x2))])
            rw [mkS_tl, mkS_tl, upd_same]
          · have hge : ¬ (kk < first) := fun q => h (decide_eq_true (by omega))
            exact none _ fun i hi => h2 i (by omega)
      · rintro σ H2 ⟨first, q, pf, ⟨y6, y7, y8, rfl⟩, sm2, hpf, best⟩
        exact ⟨first, q, pf, ⟨_, _, _, _, _, rfl⟩, sm.trans sm2, hpf, by rw [sides_snoc hpp]; exact best⟩
    · rintro σ H1 ⟨first, q, pf, ⟨y4, y5, y6, y7, y8, rfl⟩, sm, hpf, best⟩
      have e0 : pvs.length = ps.length := by rw [hlr, List.length_map]
      rw [e0, List.take_length] at best
      have hle : first + q.1.length ≤ (TL.tl z).length ∧ q.2.length = q.1.length := by
        rcases best.yes with ⟨hp, y⟩ | ⟨hp, rfl⟩
        · obtain ⟨pp, hpp, e⟩ := sides_mem (List.mem_of_find?_eq_some y)
          have hs := List.find?_some y
          have hl := pre_len hs
          rw [List.length_drop] at hl
          obtain ⟨l1, l2, _, _, l3⟩ := hok.2 pp hpp
          rw [TL.len_tl, TL.len_tl] at l3
          rcases e with rfl | rfl
          · exact ⟨by omega, l3⟩
          · exact ⟨by omega, l3.symm⟩
        · exact ⟨by rw [hp]; exact Nat.le_refl _, rfl⟩
      have res := k _ sm
      rw [show (Stp.swap ps).on (TL.tl z) = swapL (sides ps) (TL.tl z) from rfl, ← swap_best best] at res
      refine ⟨_, rfl, _, rfl, _, rfl, z, rfl, sz_of (by omega), ?_⟩
      rw [cutS_head]
      refine ⟨_, rfl, pf, _, 1, .str (mkS q.2), rfl, rfl, .inl hpf, atI_nat (j := 1) rfl, _, _, rfl, rfl, ?_, ?_⟩
      · rw [mkS_len, mkS_len, List.length_take]
        exact sz_of (by omega)
      · refine ⟨_, rfl, _, rfl, _, rfl, pf, _, 0, .str (mkS q.1), rfl, rfl, .inl hpf, atI_nat (j := 0) rfl, _, rfl, ?_, _, _, rfl, rfl, _, rfl, z, rfl, sz_of (by omega), ?_⟩
        · rw [mkS_len]
          exact sz_of (by omega)
        · rw [show (first : Int) + ((mkS q.1).length : Int) = ((first + q.1.length : Nat) : Int) by rw [mkS_len]; rfl, cutS_tail]
          refine ⟨_, _, rfl, rfl, ?_, ?_⟩
          · rw [mkS_add, mkS_len, mkS_len, List.length_append, List.length_take, List.length_drop]
            exact sz_of (by omega)
          · rw [mkS_add, mkS_add]
            exact res
end
section
variable {P : Program} {w : World} {K : PySem.W.Frag} {mg : Str → Option Value} {base : Heap}
theorem scStepped : FnScope ["step", "word"] ["step", "word"] (defScope sStepped) := ⟨rfl, rfl, rfl, by decide +kernel, rfl, by decide +kernel, by decide +kernel⟩
def spStepped (K : PySem.W.Frag) : Sp := fun vs H Q _ => ∃ (B : Addr → Prop) (v : V) (sp : Stp) (z : Str) (L : Int), vs = [v, .str z] ∧ Dt B K H v sp.dat ∧ sp.Ok L ∧ 1 ≤ L ∧ L ≤ 3 ∧ WOk L 1000 (TL.tl z) ∧ ∀ H', Same H H' → Q (.str (mkS (sp.on (TL.tl z)))) H'
theorem ok_stepped {f fC fPA fW : Addr} {fd fdC fdPA fdW : FuncData} (F : Fun K "stepped" "stepped" sStepped f fd) (C : FnOk P w K mg base CX0 1 fC fdC ["unit", "most", "word"] (spCut K)) (FC : Fun K "cut" "cut" sCut fC fdC) (bC : Binds K fdC ["unit", "most", "word"] []) (gC : mg "cut" = some (.ref fC))
    (PA : FnOk P w K mg base CX0 1 fPA fdPA ["rows", "outs", "word"] (spPassed K)) (FPA : Fun K "passed" "passed" sPassed fPA fdPA) (bPA : Binds K fdPA ["rows", "outs", "word"] []) (gPA : mg "passed" = some (.ref fPA))
    (W : FnOk P w K mg base CX0 1 fW fdW ["pairs", "word"] (spSwapped K)) (FW : Fun K "swapped" "swapped" sSwapped fW fdW) (bW : Binds K fdW ["pairs", "word"] []) (gW : mg "swapped" = some (.ref fW)) (T : Mg mg) : FnOk P w K mg base CX0 2 f fd ["step", "word"] (spStepped K) := by
  refine F.ok scStepped (fun vs H Q E h => ?_) (fun cdv A outer s H vs Q E hr h => ?_)
  · obtain ⟨B, v, sp, z, L, rfl, _⟩ := h
    rfl
  · obtain ⟨B, v, sp, z, L, rfl, hd, hok, L1, L3, hw, k⟩ := h
    have wl := hw.1
    have zl := TL.len_tl z
    refine ⟨_, (pss_cons (ps_if (pt_cmpR op_eq (pe_ix (r := rIxT K) ix_tup (pv 0) pe_int (fun _ _ => rfl)) pe_str (nomark _)) (pss_one (ps_ret (pe_call C (hr.mono (by decide)) (by rfl) gC FC.kp bC .nil pass0 (pa_cons (pe_ix (r := rIxT K) ix_tup (pv 0) pe_int (fun _ _ => rfl)) (pa_cons (pe_ix (r := rIxT K) ix_tup (pv 0) pe_int (fun _ _ => rfl)) (pa_cons (pv 1) pa_nil)))))) pss_nil)
      (pss_cons (ps_if (pt_cmpR op_eq (pe_ix (r := rIxT K) ix_tup (pv 0) pe_int (fun _ _ => rfl)) pe_str (nomark _)) (pss_one (ps_ret (pe_ix (r := rIxT K) ix_tup (pe_bm PySem.F.plainAttrs_str PySem.F.slot_str_partition PySem.F.type_str_partition mt_partition (pv 1) (pa_cons (pe_ix (r := rIxT K) ix_tup (pv 0) pe_int (fun _ _ => rfl)) pa_nil)) pe_int (fun _ _ => rfl)))) pss_nil)
      (pss_cons (ps_if (pt_cmpR op_eq (pe_ix (r := rIxT K) ix_tup (pv 0) pe_int (fun _ _ => rfl)) pe_str (nomark _)) (pss_one (ps_ret (pe_call PA (hr.mono (by decide)) (by rfl) gPA FPA.kp bPA .nil pass0 (pa_cons (pe_ix (r := rIxT K) ix_tup (pv 0) pe_int (fun _ _ => rfl)) (pa_cons (pe_ix (r := rIxT K) ix_tup (pv 0) pe_int (fun _ _ => rfl)) (pa_cons (pv 1) pa_nil)))))) pss_nil)
      (pss_one (ps_ret (pe_call W (hr.mono (by decide)) (by rfl) gW FW.kp bW .nil pass0 (pa_cons (pe_ix (r := rIxT K) ix_tup (pv 0) pe_int (fun _ _ => rfl)) (pa_cons (pv 1) pa_nil)))))))), ?_⟩
    cases sp with
    | cut u m =>
      obtain ⟨p, vs, rfl, nb, hp, ha, _⟩ := Dt.tup_rd hd
      cases ha with | cons h1 t => cases t with | cons h2 t => cases t with | cons h3 t =>
      cases t
      cases h1
      cases h3
      have hq : SqT K H p _ := .inl hp
      refine ⟨_, rfl, p, _, 0, _, rfl, rfl, hq, atI_nat (j := 0) rfl, rfl, _, rfl, ite2 (fun _ => ?_) (fun q => absurd (decide_eq_true rfl) q)⟩
      exact ⟨_, rfl, p, _, 1, _, rfl, rfl, hq, atI_nat (j := 1) rfl, _, rfl, p, _, 2, _, rfl, rfl, hq, atI_nat (j := 2) rfl, _, rfl, B, _, u, m, z, L, rfl, h2, hok, L1, L3, hw, k⟩
    | stop c =>
      obtain ⟨p, vs, rfl, nb, hp, ha, _⟩ := Dt.tup_rd hd
      cases ha with | cons h1 t => cases t with | cons h2 t =>
      cases t
      cases h1
      cases h2
      have hq : SqT K H p _ := .inl hp
      refine ⟨_, rfl, p, _, 0, _, rfl, rfl, hq, atI_nat (j := 0) rfl, rfl, _, rfl, ite2 (fun q => absurd (of_decide_eq_true q) (by decide +kernel)) (fun _ => ?_)⟩
      refine ⟨_, rfl, p, _, 0, _, rfl, rfl, hq, atI_nat (j := 0) rfl, rfl, _, rfl, ite2 (fun _ => ?_) (fun q => absurd (decide_eq_true rfl) q)⟩
      refine ⟨_, rfl, rfl, _, rfl, p, _, 1, _, rfl, rfl, hq, atI_nat (j := 1) rfl, z, chr1 c, rfl, rfl, rfl, sz_of (by omega), fun t nt => ?_⟩
      refine ⟨t, _, 0, _, rfl, rfl, SqT.of upd_same, atI_nat (j := 0) rfl, ?_⟩
      rw [partition_one]
      exact k _ (same_new nt)
    | pass rows outs =>
      obtain ⟨p, vs, rfl, nb, hp, ha, _⟩ := Dt.tup_rd hd
      cases ha with | cons h1 t => cases t with | cons h2 t => cases t with | cons h3 t =>
      cases t
      cases h1
      have hq : SqT K H p _ := .inl hp
      refine ⟨_, rfl, p, _, 0, _, rfl, rfl, hq, atI_nat (j := 0) rfl, rfl, _, rfl, ite2 (fun q => absurd (of_decide_eq_true q) (by decide +kernel)) (fun _ => ?_)⟩
      refine ⟨_, rfl, p, _, 0, _, rfl, rfl, hq, atI_nat (j := 0) rfl, rfl, _, rfl, ite2 (fun q => absurd (of_decide_eq_true q) (by decide +kernel)) (fun _ => ?_)⟩
      refine ⟨_, rfl, p, _, 0, _, rfl, rfl, hq, atI_nat (j := 0) rfl, rfl, _, rfl, ite2 (fun _ => ?_) (fun q => absurd (decide_eq_true rfl) q)⟩
      exact ⟨_, rfl, p, _, 1, _, rfl, rfl, hq, atI_nat (j := 1) rfl, _, rfl, p, _, 2, _, rfl, rfl, hq, atI_nat (j := 2) rfl, _, rfl, B, B, _, _, rows, outs, z, L, rfl, h2, h3, hok, L1, L3, hw, k⟩
    | swap ps =>
      obtain ⟨p, vs, rfl, nb, hp, ha, _⟩ := Dt.tup_rd hd
      cases ha with | cons h1 t => cases t with | cons h2 t =>
      cases t
      cases h1
      have hq : SqT K H p _ := .inl hp
      refine ⟨_, rfl, p, _, 0, _, rfl, rfl, hq, atI_nat (j := 0) rfl, rfl, _, rfl, ite2 (fun q => absurd (of_decide_eq_true q) (by decide +kernel)) (fun _ => ?_)⟩
      refine ⟨_, rfl, p, _, 0, _, rfl, rfl, hq, atI_nat (j := 0) rfl, rfl, _, rfl, ite2 (fun q => absurd (of_decide_eq_true q) (by decide +kernel)) (fun _ => ?_)⟩
      refine ⟨_, rfl, p, _, 0, _, rfl, rfl, hq, atI_nat (j := 0) rfl, rfl, _, rfl, ite2 (fun q => absurd (of_decide_eq_true q) (by decide +kernel)) (fun _ => ?_)⟩
      exact ⟨_, rfl, p, _, 1, _, rfl, rfl, hq, atI_nat (j := 1) rfl, _, rfl, B, _, ps, z, L, rfl, h2, hok, L1, L3, hw, k⟩
end
section
variable {P : Program} {w : World} {K : PySem.W.Frag} {mg : Str → Option Value} {base : Heap}
theorem scImage : FnScope ["line", "word", "step"] ["line", "word"] (defScope sImage) := ⟨rfl, rfl, rfl, by decide +kernel, rfl, by decide +kernel, by decide +kernel⟩
def spImage (K : PySem.W.Frag) : Sp := fun vs H Q _ => ∃ (B : Addr → Prop) (v : V) (ss : List Stp) (z : Str) (L : Int), vs = [v, .str z] ∧ Dt B K H v (.tuple (ss.map Stp.dat)) ∧ (∀ s ∈ ss, s.Ok L) ∧ 1 ≤ L ∧ L ≤ 3 ∧ WOk L 1000 (TL.tl z) ∧ ∀ H', Same H H' → Q (.str (mkS (img ss (TL.tl z)))) H'
theorem ok_image {f fS : Addr} {fd fdS : FuncData} (F : Fun K "image" "image" sImage f fd) (S : FnOk P w K mg base CX0 2 fS fdS ["step", "word"] (spStepped K)) (FS : Fun K "stepped" "stepped" sStepped fS fdS) (bS : Binds K fdS ["step", "word"] []) (gS : mg "stepped" = some (.ref fS)) (T : Mg mg) : FnOk P w K mg base CX0 3 f fd ["line", "word"] (spImage K) := by
  refine F.ok scImage (fun vs H Q E h => ?_) (fun cdv A outer s H vs Q E hr h => ?_)
  · obtain ⟨B, v, ss, z, L, rfl, _⟩ := h
    rfl
  · obtain ⟨B, v, ss, z, L, rfl, hd, hok, L1, L3, hw, k⟩ := h
    obtain ⟨p, pvs, rfl, nb, hp, ha, hlr⟩ := hd.tup_rd
    refine ⟨_, (pss_cons (ps_for PassesOwn.never rfl (pi_tup (pv 0)) (pg_name (i := 2) scImage.nd rfl (.inl rfl)) (pss_one (ps_set (i := 1) scImage.nd rfl (.inl rfl) (pe_call S (hr.mono (by decide)) (by rfl) gS FS.kp bS .nil pass0 (pa_cons (pv 2) (pa_cons (pv 1) pa_nil))))))
      (pss_one (ps_ret (pv 1)))), ?_⟩
    refine ⟨_, rfl, p, rfl, ⟨pvs, .inl hp⟩, ?_⟩
    refine for_tup (xs := pvs) (fun i σ H' => (∃ y2, σ = [some (.ref p), some (.str (mkS (img (ss.take i) (TL.tl z)))), y2]) ∧ Same H H') ⟨⟨none, by rw [List.take_zero, show img [] (TL.tl z) = TL.tl z from rfl, mkS_tl]; rfl⟩, Same.refl H⟩ (fun i σ H' _ h => .inl (same_rd h.2 hp)) ?_ ?_
    · rintro i x σ H1 hx ⟨⟨y2, rfl⟩, sm⟩
      obtain ⟨d, hdi, hd1⟩ := ha.getV hx
      rw [List.getElem?_map] at hdi
      obtain ⟨sp, hsp, rfl⟩ := Option.map_eq_some_iff.mp hdi
      refine ⟨_, rfl, _, rfl, B, _, sp, _, L, rfl, same_dt sm hd1, hok sp (List.mem_of_getElem? hsp), L1, L3, ?_, fun H2 s2 => ⟨⟨some x, ?_⟩, sm.trans s2⟩⟩
      · exact img_ok L1 L3 (fun t ht => hok t (List.mem_of_mem_take ht)) hw
      · rw [tl_mkS, List.take_add_one, hsp]
        show _ = [_, some (V.str (mkS (img (ss.take i ++ [sp]) _))), _]
        rw [img_snoc]
        rfl
    · rintro σ H1 ⟨⟨y2, rfl⟩, sm⟩
      refine ⟨_, rfl, ?_⟩
      have e0 : pvs.length = ss.length := by rw [hlr, List.length_map]
      rw [e0, List.take_length]
      exact k _ sm
end
section
variable {P : Program} {w : World} {K : PySem.W.Frag} {mg : Str → Option Value} {base : Heap}
theorem scSwappedL : FnScope ["_law_pairs", "_law_word_here", "_law_place", "_law_pair", "_law_side", "_law_piece"] ["_law_pairs", "_law_word_here"] (defScope sSwappedL) := ⟨rfl, rfl, rfl, by decide +kernel, rfl, by decide +kernel, by decide +kernel⟩
theorem at_hit {a b : List Pc} {q : Pc} {cs : List Nat} {p : Nat} (h1 : atP a cs p = none) (h2 : TL.pre q.1 (cs.drop p) = true) : atP (a ++ q :: b) cs p = some q := by
  unfold atP at h1 ⊢
  rw [List.find?_append, h1, List.find?_cons, h2]
  rfl
theorem at_miss {a : List Pc} {q : Pc} {cs : List Nat} {p : Nat} (h1 : atP a cs p = none) (h2 : TL.pre q.1 (cs.drop p) = false) : atP (a ++ [q]) cs p = none := by
  rw [atP_app, h1, h2]
  rfl
theorem ok_swappedL {f : Addr} {fd : FuncData} (F : Fun K "_law_swapped" "_law_swapped" sSwappedL f fd) (T : Mg mg) : FnOk P w K mg base CX0 1 f fd ["_law_pairs", "_law_word_here"] (spSwapped K) := by
  refine F.ok scSwappedL (fun vs H Q E h => ?_) (fun cdv A outer s H vs Q E hr h => ?_)
  · obtain ⟨B, v, ps, z, L, rfl, _⟩ := h
    rfl
  · obtain ⟨B, v, ps, z, L, rfl, hd, hok, L1, L3, ⟨wl, wc⟩, k⟩ := h
    obtain ⟨p, pvs, rfl, nb, hp, ha, hlr⟩ := hd.tup_rd
    have zl := TL.len_tl z
    refine ⟨_, (pss_cons (ps_for PassesOwn.never rfl (pi_range1 (by rfl) T.range (pa_cons (pe_callB call_len_str (by rfl) T.len PySem.boot_len (pa_cons (pv 1) pa_nil)) pa_nil)) (pg_name (i := 2) scSwappedL.nd rfl (.inl rfl)) (pss_one (ps_for PassesOwn.never rfl (pi_tup (pv 0)) (pg_name (i := 3) scSwappedL.nd rfl (.inl rfl)) (pss_one (ps_for PassesOwn.never rfl (pi_range1 (by rfl) T.range (pa_cons pe_int pa_nil)) (pg_name (i := 4) scSwappedL.nd rfl (.inl rfl)) (pss_cons (ps_set (i := 5) scSwappedL.nd rfl (.inl rfl) (pe_ix (r := rIxT K) ix_tup (pv 3) (pv 4) (fun _ _ => rfl)))
      (pss_one (ps_if (pt_cmpR op_eq (pe_slice sl_str (pv 1) (po_some (pv 2)) (po_some (pe_op op_add (pv 2) (pe_callB call_len_str (by rfl) T.len PySem.boot_len (pa_cons (pv 5) pa_nil))))) (pv 5) (nomark _)) (pss_one (ps_ret (pe_op op_add_str (pe_op op_add_str (pe_slice sl_str (pv 1) po_none (po_some (pv 2))) (pe_ix (r := rIxT K) ix_tup (pv 3) (pe_op op_sub pe_int (pv 4)) (fun _ _ => rfl))) (pe_slice sl_str (pv 1) (po_some (pe_op op_add (pv 2) (pe_callB call_len_str (by rfl) T.len PySem.boot_len (pa_cons (pv 5) pa_nil)))) po_none)))) pss_nil))))))))
      (pss_one (ps_ret (pv 1)))), ?_⟩
    refine ⟨_, rfl, z, rfl, sz_of (by omega), z.length, rfl, by omega, by omega, ?_⟩
    refine for_range (lo := 0) (n := (z.length : Int).toNat) (fun i σ H' => (∃ y2 y3 y4 y5, σ = [some (.ref p), some (.str z), y2, y3, y4, y5]) ∧ H' = H ∧ ∀ i', i' < i → atP (sides ps) (TL.tl z) i' = none) ⟨⟨none, none, none, none, rfl⟩, rfl, fun i hi => absurd hi (Nat.not_lt_zero i)⟩ ?_ ?_
    · rintro i σ H1 hi ⟨⟨y2, y3, y4, y5, rfl⟩, rfl, hn⟩
      refine ⟨_, rfl, p, rfl, ⟨pvs, .inl hp⟩, ?_⟩
      refine for_tup (xs := pvs) (fun j σ H' => (∃ y3 y4 y5, σ = [some (.ref p), some (.str z), some (.int (0 + (i : Int))), y3, y4, y5]) ∧ H' = H1 ∧ atP (sides (ps.take j)) (TL.tl z) i = none) ⟨⟨_, _, _, rfl⟩, rfl, rfl⟩ (fun j σ H' _ h => by rw [h.2.1]; exact .inl hp) ?_ ?_
      · rintro j x σ H2 hx ⟨⟨y3, y4, y5, rfl⟩, rfl, hj⟩
        obtain ⟨d, hdi, hd1⟩ := ha.getV hx
        rw [List.getElem?_map] at hdi
        obtain ⟨pp, hpp, rfl⟩ := Option.map_eq_some_iff.mp hdi
        obtain ⟨pa, rfl, _, hpa⟩ := dt_pair hd1
        have hpm := hok.2 pp (List.mem_of_getElem? hpp)
        refine ⟨2, rfl, by decide, by decide, ?_⟩
        refine for_range (lo := 0) (n := 2) (fun s σ H' => (∃ y4 y5, σ = [some (.ref p), some (.str z), some (.int (0 + (i : Int))), some (.ref pa), y4, y5]) ∧ H' = H2 ∧ atP (sides (ps.take j) ++ (side2 pp).take s) (TL.tl z) i = none) ⟨⟨_, _, rfl⟩, rfl, by rw [List.take_zero, List.append_nil]; exact hj⟩ ?_ ?_
        · rintro s σ H3 hs ⟨⟨y4, y5, rfl⟩, rfl, hq⟩
          obtain ⟨x1, x2, e1, e2, hsd, hll⟩ : ∃ (x1 x2 : Str), [V.str pp.1, .str pp.2][s]? = some (.str x1) ∧ atI [V.str pp.1, .str pp.2] (1 - (s : Int)) = some (.str x2) ∧ (side2 pp)[s]? = some (TL.tl x1, TL.tl x2) ∧ x1.length + x2.length ≤ 4 := by
            obtain ⟨_, _, l1, l2, l3⟩ := hpm
            have : s = 0 ∨ s = 1 := by omega
            rcases this with rfl | rfl
            · exact ⟨_, _, rfl, rfl, rfl, by omega⟩
            · exact ⟨_, _, rfl, rfl, rfl, by omega⟩
          have sdl : side2 pp = (side2 pp).take s ++ (TL.tl x1, TL.tl x2) :: (side2 pp).drop (s + 1) := by
            have hlt := (List.getElem?_eq_some_iff.mp hsd).1
            have h2 := List.drop_eq_getElem_cons hlt
            rw [(List.getElem?_eq_some_iff.mp hsd).2] at h2
            rw [← h2, List.take_append_drop]
          refine ⟨_, rfl, _, rfl, pa, _, _, .str x1, rfl, rfl, .inl hpa, by rw [Int.zero_add]; exact atI_nat e1, ?_⟩
          refine ⟨_, rfl, _, rfl, _, rfl, _, rfl, _, rfl, x1, rfl, sz_of (by omega), _, _, rfl, rfl, _, rfl, z, rfl, sz_of (by omega), _, rfl, rfl, _, rfl, ?_⟩
          rw [Int.zero_add, cutS_mid, cut_pre]
          refine ite2 (fun h1 => ?_) (fun h1 => ?_)
          · have best : Best (sides ps) (TL.tl z) i (TL.tl x1, TL.tl x2) := by
              refine ⟨hn, .inl ⟨by omega, ?_⟩⟩
              have e3 : sides ps = (sides (ps.take j) ++ (side2 pp).take s) ++ (TL.tl x1, TL.tl x2) :: ((side2 pp).drop (s + 1) ++ sides (ps.drop (j + 1))) := by
                have hlt := (List.getElem?_eq_some_iff.mp hpp).1
                have h2 := List.drop_eq_getElem_cons hlt
                rw [(List.getElem?_eq_some_iff.mp hpp).2] at h2
                have h3 : sides ps = sides (ps.take j) ++ sides (ps.drop j) := by
                  unfold sides
                  rw [← List.flatMap_append, List.take_append_drop]
                rw [h3, h2]
                show sides (ps.take j) ++ (side2 pp ++ sides (ps.drop (j + 1))) = _
                rw [List.append_assoc, ← List.cons_append, ← List.append_assoc ((side2 pp).take s), ← sdl]
              rw [e3]
              exact at_hit hq h1
            have res := k H3 (Same.refl H3)
            rw [show (Stp.swap ps).on (TL.tl z) = swapL (sides ps) (TL.tl z) from rfl, ← swap_best best] at res
            refine ⟨_, rfl, _, rfl, _, rfl, z, rfl, sz_of (by omega), ?_⟩
            rw [Int.zero_add, cutS_head]
            refine ⟨_, rfl, _, rfl, _, _, rfl, rfl, pa, _, _, .str x2, rfl, rfl, .inl hpa, e2, _, _, rfl, rfl, ?_, ?_⟩
            · rw [mkS_len, List.length_take]
              exact sz_of (by omega)
            · refine ⟨_, rfl, _, rfl, _, rfl, x1, rfl, sz_of (by omega), _, _, rfl, rfl, _, rfl, z, rfl, sz_of (by omega), ?_⟩
              rw [show (i : Int) + (x1.length : Int) = ((i + x1.length : Nat) : Int) from rfl, cutS_tail]
              have e5 : mkS ((TL.tl z).take i) ++ x2 ++ mkS ((TL.tl z).drop (i + x1.length)) = mkS (exch (TL.tl z) i (TL.tl x1, TL.tl x2)) := by
                unfold exch
                rw [← mkS_add, ← mkS_add, mkS_tl, TL.len_tl x1]
              refine ⟨_, _, rfl, rfl, ?_, ?_⟩
              · have e6 : (mkS ((TL.tl z).take i) ++ x2).length = (mkS ((TL.tl z).take i)).length + x2.length := strLen_append _ _
                rw [e6, mkS_len, mkS_len, List.length_take, List.length_drop]
                exact sz_of (by omega)
              · rw [e5]
                exact res
          · have h1 : TL.pre (TL.tl x1) ((TL.tl z).drop i) = false := by
              cases e : TL.pre (TL.tl x1) ((TL.tl z).drop i)
              · rfl
              · exact absurd e h1
            refine ⟨⟨_, _, rfl⟩, rfl, ?_⟩
            rw [List.take_add_one, hsd, ← List.append_assoc]
            exact at_miss hq h1
        · rintro σ H3 ⟨⟨y4, y5, rfl⟩, rfl, hq⟩
          exact ⟨⟨_, _, _, rfl⟩, rfl, by rw [sides_snoc hpp]; exact hq⟩
      · rintro σ H2 ⟨⟨y3, y4, y5, rfl⟩, rfl, hj⟩
        have e0 : pvs.length = ps.length := by rw [hlr, List.length_map]
        rw [e0, List.take_length] at hj
        refine ⟨⟨_, _, _, _, rfl⟩, rfl, fun i' hi' => ?_⟩
        by_cases q : i' = i
        · rw [q]
          exact hj
        · exact hn i' (by omega)
    · rintro σ H1 ⟨⟨y2, y3, y4, y5, rfl⟩, rfl, hn⟩
      have best : Best (sides ps) (TL.tl z) (TL.tl z).length ([], []) := ⟨fun i hi => hn i (by omega), .inr ⟨rfl, rfl⟩⟩
      have res := k H1 (Same.refl H1)
      rw [show (Stp.swap ps).on (TL.tl z) = swapL (sides ps) (TL.tl z) from rfl, ← swap_best best, exch_none, mkS_tl] at res
      exact ⟨_, rfl, res⟩
end
section
variable {P : Program} {w : World} {K : PySem.W.Frag} {mg : Str → Option Value} {base : Heap}
theorem scSteppedL : FnScope ["_law_step_here", "_law_word_here", "_law_counts", "_law_letter", "_law_extent", "_law_number", "_law_turn", "_law_found", "_law_at"] ["_law_step_here", "_law_word_here"] (defScope sSteppedL) := ⟨rfl, rfl, rfl, by decide +kernel, rfl, by decide +kernel, by decide +kernel⟩
theorem ok_steppedL {f fW : Addr} {fd fdW : FuncData} (F : Fun K "_law_stepped" "_law_stepped" sSteppedL f fd) (W : FnOk P w K mg base CX0 1 fW fdW ["_law_pairs", "_law_word_here"] (spSwapped K)) (FW : Fun K "_law_swapped" "_law_swapped" sSwappedL fW fdW) (bW : Binds K fdW ["_law_pairs", "_law_word_here"] []) (gW : mg "_law_swapped" = some (.ref fW)) (T : Mg mg) : FnOk P w K mg base CX0 2 f fd ["_law_step_here", "_law_word_here"] (spStepped K) := by
  refine F.ok scSteppedL (fun vs H Q E h => ?_) (fun cdv A outer s H vs Q E hr h => ?_)
  · obtain ⟨B, v, sp, z, L, rfl, _⟩ := h
    rfl
  · obtain ⟨B, v, sp, z, L, rfl, hd, hok, L1, L3, hw, k⟩ := h
    obtain ⟨wl, wc⟩ := id hw
    have zl := TL.len_tl z
    refine ⟨_, (pss_cons (ps_if (pt_cmpR op_eq (pe_ix (r := rIxT K) ix_tup (pv 0) pe_int (fun _ _ => rfl)) pe_str (nomark _)) (pss_cons (ps_setLc (i := 2) (own := [("_law_extent", 4)]) (g := gName 4) (tt := tYes) rfl scSteppedL.nd rfl rfl (sw_true rfl rfl rfl (by decide +kernel)) (pi_range1 (by rfl) T.range (pa_cons (pe_op op_add (pe_callB call_len_str (by rfl) T.len PySem.boot_len (pa_cons (pv 1) pa_nil)) pe_int) pa_nil)) (blkOk_by (N := ["_law_step_here", "_law_word_here", "_law_counts", "_law_letter", "_law_extent", "_law_number", "_law_turn", "_law_found", "_law_at"]) (sc := defScope sSteppedL) (by decide +kernel)) (fun _ _ _ _ _ => pg_name (i := 4) scSteppedL.nd rfl (Or.inl rfl)) (fun _ _ _ _ _ => pts_nil) (fun _ _ _ _ _ => (pe_callB (r := rSum K) (cr_sum rfl) (by rfl) T.sum (by decide +kernel) (pa_cons (pe_lc (own := [("_law_letter", 3)]) (g := gName 3) (tt := tYes) rfl scSteppedL.nd (pi_str (pe_slice sl_str (pv 1) po_none (po_some (pv 4)))) (blkOk_by (by kernel_rfl)) (fun _ _ _ _ _ => pg_name (i := 3) scSteppedL.nd rfl (Or.inl rfl)) (fun _ _ _ _ _ => pts_nil) (fun _ _ _ _ _ => (pe_ix (r := rIxT K) ix_tup (pe_ix (r := rIxT K) ix_tup (pv 0) pe_int (fun _ _ => rfl)) (pe_K (f := fun K => tBM K "str" _ _ _) rfl (pe_bm PySem.F.plainAttrs_str PySem.F.slot_str_index PySem.F.type_str_index mt_sindex pe_str (pa_cons (pv 3) pa_nil))) (fun _ _ => rfl)))) pa_nil))))
      (pss_one (ps_ret (pe_slice sl_str (pv 1) po_none (po_some (pe_op op_sub (pe_callB (r := rLen K) call_len_seq (by rfl) T.len PySem.boot_len (pa_cons (pe_lc (own := [("_law_number", 5)]) (g := gName 5) rfl scSteppedL.nd (pi_list (pv 2)) (blkOk_by (N := ["_law_step_here", "_law_word_here", "_law_counts", "_law_letter", "_law_extent", "_law_number", "_law_turn", "_law_found", "_law_at"]) (sc := defScope sSteppedL) (by decide +kernel)) (fun _ _ _ _ _ => pg_name (i := 5) scSteppedL.nd rfl (Or.inl rfl)) (fun _ _ _ _ _ => pts_one (pt_cmpR op_le (pv 5) (pe_ix (r := rIxT K) ix_tup (pv 0) pe_int (fun _ _ => rfl)) (nomark _))) (fun _ _ _ _ _ => (pv 5))) pa_nil)) pe_int)))))) pss_nil)
      (pss_cons (ps_if (pt_cmpR op_eq (pe_ix (r := rIxT K) ix_tup (pv 0) pe_int (fun _ _ => rfl)) pe_str (nomark _)) (pss_one (ps_ret (pe_ifExp (pt_cmpR op_in_sign (pe_ix (r := rIxT K) ix_tup (pv 0) pe_int (fun _ _ => rfl)) (pv 1) (by rfl)) (pe_slice sl_str (pv 1) po_none (po_some (pe_bm PySem.F.plainAttrs_str PySem.F.slot_str_index PySem.F.type_str_index mt_sindex (pv 1) (pa_cons (pe_ix (r := rIxT K) ix_tup (pv 0) pe_int (fun _ _ => rfl)) pa_nil)))) (pv 1)))) pss_nil)
      (pss_cons (ps_if (pt_cmpR op_eq (pe_ix (r := rIxT K) ix_tup (pv 0) pe_int (fun _ _ => rfl)) pe_str (nomark _)) (pss_one (ps_ret (pe_call W (hr.mono (by decide)) (by rfl) gW FW.kp bW .nil pass0 (pa_cons (pe_ix (r := rIxT K) ix_tup (pv 0) pe_int (fun _ _ => rfl)) (pa_cons (pv 1) pa_nil))))) pss_nil)
      (pss_cons (ps_asg (pe_tup (pa_cons pe_int (pa_cons pe_str pa_nil))) (pg_tup rfl (pgs_cons (pg_name (i := 6) scSteppedL.nd rfl (.inl rfl)) (pgs_cons (pg_name (i := 7) scSteppedL.nd rfl (.inl rfl)) pgs_nil))))
      (pss_cons (ps_for PassesOwn.never rfl (pi_str (pv 1)) (pg_name (i := 3) scSteppedL.nd rfl (.inl rfl)) (pss_cons (ps_set (i := 8) scSteppedL.nd rfl (.inl rfl) (pe_bm PySem.F.plainAttrs_str PySem.F.slot_str_index PySem.F.type_str_index mt_sindex pe_str (pa_cons (pv 3) pa_nil)))
      (pss_cons (ps_set (i := 7) scSteppedL.nd rfl (.inl rfl) (pe_op op_add_str (pv 7) (pe_ix (r := rIxT K) ix_tup (pe_ix (r := rIxT K) ix_tup (pe_ix (r := rIxT K) ix_tup (pv 0) pe_int (fun _ _ => rfl)) (pv 6) (fun _ _ => rfl)) (pv 8) (fun _ _ => rfl))))
      (pss_one (ps_set (i := 6) scSteppedL.nd rfl (.inl rfl) (pe_ix (r := rIxT K) ix_tup (pe_ix (r := rIxT K) ix_tup (pe_ix (r := rIxT K) ix_tup (pv 0) pe_int (fun _ _ => rfl)) (pv 6) (fun _ _ => rfl)) (pv 8) (fun _ _ => rfl)))))))
      (pss_one (ps_ret (pv 7)))))))), ?_⟩
    cases sp with
    | cut u m =>
      obtain ⟨p, vs, rfl, nb, hp, ha, _⟩ := Dt.tup_rd hd
      cases ha with | cons h1 t => cases t with | cons h2 t => cases t with | cons h3 t =>
      cases t
      cases h1
      cases h3
      have hq : SqT K H p _ := .inl hp
      obtain ⟨pu, rfl, nbu, hu⟩ := dt_flat (fV := V.int) i_sc h2
      obtain ⟨ul, u09, m0, m30⟩ := id hok
      refine ⟨_, rfl, p, _, 0, _, rfl, rfl, hq, atI_nat (j := 0) rfl, rfl, _, rfl, ite2 (fun _ => ?_) (fun q => absurd (decide_eq_true rfl) q)⟩
      refine ⟨_, rfl, z, rfl, sz_of (by omega), _, _, rfl, rfl, (z.length : Int) + 1, rfl, by omega, by omega, fun D1 hD1 => ?_⟩
      refine lc_range (lo := 0) (n := ((z.length : Int) + 1).toNat) (NInv (fun e => V.int (sums u ((TL.tl z).take e))) (List.range ((TL.tl z).length + 1)) H D1) (nstart hD1) ?_ ?_
      · rintro i H1 hi p1
        have sm := p1.1
        refine ⟨rfl, _, rfl, _, rfl, _, rfl, z, rfl, sz_of (by omega), ?_⟩
        rw [Int.zero_add, cutS_head]
        refine ⟨_, rfl, fun D2 hD2 => ?_⟩
        refine lc_it walk_str (NInv (fun c => V.int (wt u c)) ((TL.tl z).take i) H1 D2) (nstart hD2) (fun _ _ _ _ => True.intro) ?_ ?_
        · rintro j x H2 H3 hj p2 ⟨rfl, c, hcz, rfl⟩
          have hcz : ((TL.tl z).take i)[j]? = some c := by
            rw [← Array.getElem?_toList] at hcz
            exact hcz
          have hl := wc c (List.mem_of_mem_take (List.mem_of_getElem? hcz))
          have hx : c - 97 < u.length := by
            have := (ltr_mem L1 L3 c hl).2
            omega
          have sm2 := sm.trans p2.1
          refine ⟨rfl, _, rfl, p, _, 1, _, rfl, rfl, same_seqT sm2 hq, atI_nat (j := 1) rfl, rfl, _, rfl, "abc", _, c - 97, [], rfl, rfl, occ_ltr L1 L3 hl, pu, _, _, .int (wt u c), rfl, rfl, .inl (same_rd sm2 hu), atI_nat (by rw [List.getElem?_map, getD_of (d := 0) hx]; rfl), ?_⟩
          exact nturn (Nat.lt_of_le_of_lt (show _ ≤ 1000 by rw [List.length_take]; omega) (by decide)) hD2 hcz p2 (Same.refl _)
        · rintro H2 p2
          obtain ⟨sm2, hl2⟩ := nend (show (mkS ((TL.tl z).take i)).cps.size = _ from mkS_len _) p2
          refine ⟨D2, ((TL.tl z).take i).map (wt u), rfl, SqL.of (by rw [List.map_map]; exact hl2), ?_⟩
          exact nturn (f := fun e => V.int (sums u ((TL.tl z).take e))) (by rw [List.length_range]; exact Nat.lt_of_le_of_lt (show _ ≤ 1001 by omega) (by decide)) hD1 (range_at (by omega)) p1 sm2
      · rintro H1 p1
        obtain ⟨sm, hl1⟩ := nend (by rw [List.length_range]; omega) p1
        refine ⟨_, rfl, _, rfl, D1, rfl, ⟨_, SqL.of hl1⟩, fun D2 hD2 => ?_⟩
        refine lc_list (K := K) (a := D1) (xs := (List.range ((TL.tl z).length + 1)).map fun e => V.int (sums u ((TL.tl z).take e))) (KInv (fun e => decide (0 + sums u ((TL.tl z).take e) ≤ m)) (fun e => V.int (sums u ((TL.tl z).take e))) (List.range ((TL.tl z).length + 1)) H1 D2) (kstart hD2) (fun i H' _ q => same_seqL q.1 (SqL.of hl1)) ?_ ?_
        · rintro i x H2 hx p2
          rw [List.getElem?_map] at hx
          obtain ⟨e, he, rfl⟩ := Option.map_eq_some_iff.mp hx
          have sm2 := sm.trans p2.1
          refine ⟨rfl, _, rfl, _, rfl, p, _, 2, _, rfl, rfl, same_seqT sm2 hq, atI_nat (j := 2) rfl, _, _, rfl, rfl, _, rfl, ite2 (fun h1 => ?_) (fun h1 => ?_)⟩
          · exact ⟨_, rfl, kyes (f := fun e => V.int (sums u ((TL.tl z).take e))) (by rw [List.length_range]; exact Nat.lt_of_le_of_lt (show _ ≤ 1001 by omega) (by decide)) hD2 he (by rw [Int.zero_add]; exact h1) p2 (Same.refl _)⟩
          · refine kno he ?_ p2 (Same.refl _)
            rw [Int.zero_add]
            exact decide_eq_false fun q => h1 (decide_eq_true q)
        · rintro H2 p2
          obtain ⟨sm2, hl2⟩ := kend (List.length_map _) p2
          have cnt := cutN_count (u := u) (m := m) (fun x hx => (u09 x hx).1) (n := 0) (cs := TL.tl z) m0
          refine ⟨D2, _, rfl, .inl (SqL.of hl2), _, _, rfl, rfl, _, rfl, z, rfl, sz_of (by omega), ?_⟩
          have e7 : ((((List.range ((TL.tl z).length + 1)).filter fun e => decide (0 + sums u ((TL.tl z).take e) ≤ m)).map fun e => V.int (sums u ((TL.tl z).take e))).length : Int) - 1 = ((cutN u m 0 (TL.tl z) : Nat) : Int) := by
            rw [List.length_map, cnt]
            omega
          rw [e7, cutS_head]
          exact k H2 (sm.trans sm2)
    | stop c =>
      obtain ⟨p, vs, rfl, nb, hp, ha, _⟩ := Dt.tup_rd hd
      cases ha with | cons h1 t => cases t with | cons h2 t =>
      cases t
      cases h1
      cases h2
      have hq : SqT K H p _ := .inl hp
      refine ⟨_, rfl, p, _, 0, _, rfl, rfl, hq, atI_nat (j := 0) rfl, rfl, _, rfl, ite2 (fun q => absurd (of_decide_eq_true q) (by decide +kernel)) (fun _ => ?_)⟩
      refine ⟨_, rfl, p, _, 0, _, rfl, rfl, hq, atI_nat (j := 0) rfl, rfl, _, rfl, ite2 (fun _ => ?_) (fun q => absurd (decide_eq_true rfl) q)⟩
      refine ⟨_, rfl, p, _, 1, _, rfl, rfl, hq, atI_nat (j := 1) rfl, _, rfl, c, z, rfl, rfl, _, rfl, ite2 (fun h1 => ?_) (fun h1 => ?_)⟩
      · obtain ⟨kk, r, ho, et⟩ := occ_one (of_decide_eq_true h1)
        refine ⟨_, rfl, _, rfl, rfl, _, rfl, p, _, 1, _, rfl, rfl, hq, atI_nat (j := 1) rfl, z, chr1 c, kk, r, rfl, rfl, ho, _, rfl, z, rfl, sz_of (by omega), ?_⟩
        rw [cutS_head]
        have := k H (Same.refl H)
        rw [show (Stp.stop c).on (TL.tl z) = (TL.tl z).takeWhile fun x => !decide (x = c) from rfl, et] at this
        exact this
      · have := k H (Same.refl H)
        rw [show (Stp.stop c).on (TL.tl z) = (TL.tl z).takeWhile fun x => !decide (x = c) from rfl, takeWhile_all fun q => h1 (decide_eq_true q), mkS_tl] at this
        exact ⟨_, rfl, this⟩
    | swap ps =>
      obtain ⟨p, vs, rfl, nb, hp, ha, _⟩ := Dt.tup_rd hd
      cases ha with | cons h1 t => cases t with | cons h2 t =>
      cases t
      cases h1
      have hq : SqT K H p _ := .inl hp
      refine ⟨_, rfl, p, _, 0, _, rfl, rfl, hq, atI_nat (j := 0) rfl, rfl, _, rfl, ite2 (fun q => absurd (of_decide_eq_true q) (by decide +kernel)) (fun _ => ?_)⟩
      refine ⟨_, rfl, p, _, 0, _, rfl, rfl, hq, atI_nat (j := 0) rfl, rfl, _, rfl, ite2 (fun q => absurd (of_decide_eq_true q) (by decide +kernel)) (fun _ => ?_)⟩
      refine ⟨_, rfl, p, _, 0, _, rfl, rfl, hq, atI_nat (j := 0) rfl, rfl, _, rfl, ite2 (fun _ => ?_) (fun q => absurd (decide_eq_true rfl) q)⟩
      exact ⟨_, rfl, p, _, 1, _, rfl, rfl, hq, atI_nat (j := 1) rfl, _, rfl, B, _, ps, z, L, rfl, h2, hok, L1, L3, hw, k⟩
    | pass rows outs =>
      obtain ⟨p, vs, rfl, nb, hp, ha, _⟩ := Dt.tup_rd hd
      cases ha with | cons h1 t => cases t with | cons h2 t => cases t with | cons h3 t =>
      cases t
      cases h1
      have hq : SqT K H p _ := .inl hp
      refine ⟨_, rfl, p, _, 0, _, rfl, rfl, hq, atI_nat (j := 0) rfl, rfl, _, rfl, ite2 (fun q => absurd (of_decide_eq_true q) (by decide +kernel)) (fun _ => ?_)⟩
      refine ⟨_, rfl, p, _, 0, _, rfl, rfl, hq, atI_nat (j := 0) rfl, rfl, _, rfl, ite2 (fun q => absurd (of_decide_eq_true q) (by decide +kernel)) (fun _ => ?_)⟩
      refine ⟨_, rfl, p, _, 0, _, rfl, rfl, hq, atI_nat (j := 0) rfl, rfl, _, rfl, ite2 (fun q => absurd (of_decide_eq_true q) (by decide +kernel)) (fun _ => ?_)⟩
      obtain ⟨pr, rvs, rfl, nbr, hpr, ha, hlr⟩ := h2.tup_rd
      obtain ⟨po, ovs, rfl, nbo, hpo, ha2, hlo⟩ := h3.tup_rd
      obtain ⟨r1, r2, r3, r4, r5⟩ := id hok
      refine ⟨by show 2 ≤ sizeLine; decide, fun pt npt => ⟨pt, _, rfl, SqT.of upd_same, rfl, _, _, rfl, _, _, rfl, rfl, ?_⟩⟩
      have hq := same_seqT (same_new (o := .tup [.int 0, .str ""]) npt) hq
      have hpr := same_rd (same_new (o := .tup [.int 0, .str ""]) npt) hpr
      have hpo := same_rd (same_new (o := .tup [.int 0, .str ""]) npt) hpo
      have k : ∀ H', Same (upd H pt (.tup [.int 0, .str ""])) H' → Q (.str (mkS ((Stp.pass rows outs).on (TL.tl z)))) H' := fun H' s => k H' ((same_new npt).trans s)
      have ha := same_all (same_new (o := .tup [.int 0, .str ""]) npt) ha
      have ha2 := same_all (same_new (o := .tup [.int 0, .str ""]) npt) ha2
      generalize upd H pt (.tup [.int 0, .str ""]) = G at *
      refine ⟨_, rfl, z, rfl, ?_⟩
      refine for_it walk_str (fun i σ H' => ∃ (t : Nat) (out : List Nat), (∃ y2 y3 y4 y7 y8, σ = [some (.ref p), some (.str z), y2, y3, y4, y7, some (.int (t : Int)), some (.str (mkS out)), y8]) ∧ H' = G ∧ out.length = i ∧ t < rows.length ∧ passL rows outs 0 (TL.tl z) = out ++ passL rows outs t ((TL.tl z).drop i)) ⟨0, [], ⟨_, _, _, _, _, rfl⟩, rfl, rfl, r1, rfl⟩ (fun _ _ _ _ _ => True.intro) ?_ ?_
      · rintro i x σ H1 H2 hi ⟨t, out, ⟨y2, y3, y4, y7, y8, rfl⟩, rfl, hlen, ht, hpl⟩ ⟨rfl, c, hcz, rfl⟩
        have hcz : (TL.tl z)[i]? = some c := by
          rw [Array.getElem?_toList]
          exact hcz
        have hl := wc c (List.mem_of_getElem? hcz)
        have hiz := (List.getElem?_eq_some_iff.mp hcz).1
        have hx := (ltr_mem L1 L3 c hl).2
        obtain ⟨vr, er, dr⟩ := ha.get (by rw [List.getElem?_map, getD_of (d := []) ht]; rfl)
        obtain ⟨q, rfl, _, hqq⟩ := dt_flat n_sc dr
        obtain ⟨vo, eo, d2⟩ := ha2.get (by rw [List.getElem?_map, getD_of (d := []) (show t < outs.length by omega)]; rfl)
        obtain ⟨q2, rfl, _, hq2⟩ := dt_flat c_sc d2
        have lr := r4 _ (getD_mem (d := []) ht)
        have lo := r5 _ (getD_mem (d := []) (show t < outs.length by omega))
        refine ⟨rfl, _, rfl, "abc", _, c - 97, [], rfl, rfl, occ_ltr L1 L3 hl, ?_⟩
        refine ⟨_, rfl, _, rfl, p, _, 2, _, rfl, rfl, hq, atI_nat (j := 2) rfl, _, rfl, po, _, _, .ref q2, rfl, rfl, .inl hpo, atI_nat eo, _, rfl, q2, _, _, sgV ((outs.getD t []).getD (c - 97) 0), rfl, rfl, .inl hq2, atI_nat (by rw [List.getElem?_map, getD_of (d := 0) (by omega)]; rfl), ?_⟩
        refine ⟨_, _, rfl, rfl, ?_, ?_⟩
        · rw [mkS_len]
          exact sz_of (show out.length + 1 ≤ 100000 by omega)
        refine ⟨_, rfl, p, _, 1, _, rfl, rfl, hq, atI_nat (j := 1) rfl, _, rfl, pr, _, _, .ref q, rfl, rfl, .inl hpr, atI_nat er, _, rfl, q, _, _, natV ((rows.getD t []).getD (c - 97) 0), rfl, rfl, .inl hqq, atI_nat (by rw [List.getElem?_map, getD_of (d := 0) (by omega)]; rfl), ?_⟩
        refine ⟨(rows.getD t []).getD (c - 97) 0, out ++ [(outs.getD t []).getD (c - 97) 0], ⟨y2, some (.str ⟨#[c]⟩), y4, y7, some (.int ((c - 97 : Nat) : Int)), ?_⟩, rfl, ?_, lr.2 _ (getD_mem (by omega)), ?_⟩
        · rw [← mkS_add]
          rfl
        · rw [List.length_append, hlen]
          rfl
        · rw [hpl, List.drop_eq_getElem_cons hiz, (List.getElem?_eq_some_iff.mp hcz).2, passL, List.append_assoc]
          rfl
      · rintro σ H1 ⟨t, out, ⟨y2, y3, y4, y7, y8, rfl⟩, rfl, hlen, ht, hpl⟩
        have e : z.cps.size = (TL.tl z).length := zl
        rw [e, List.drop_length, passL, List.append_nil] at hpl
        have := k H1 (Same.refl H1)
        rw [show (Stp.pass rows outs).on (TL.tl z) = passL rows outs 0 (TL.tl z) from rfl, hpl] at this
        exact ⟨_, rfl, this⟩
end
section
variable {P : Program} {w : World} {K : PySem.W.Frag} {mg : Str → Option Value} {base : Heap}
theorem scImageL : FnScope ["_law_line_here", "_law_word_here", "_law_step_here"] ["_law_line_here", "_law_word_here"] (defScope sImageL) := ⟨rfl, rfl, rfl, by decide +kernel, rfl, by decide +kernel, by decide +kernel⟩
theorem ok_imageL {f fS : Addr} {fd fdS : FuncData} (F : Fun K "_law_image" "_law_image" sImageL f fd) (S : FnOk P w K mg base CX0 2 fS fdS ["_law_step_here", "_law_word_here"] (spStepped K)) (FS : Fun K "_law_stepped" "_law_stepped" sSteppedL fS fdS) (bS : Binds K fdS ["_law_step_here", "_law_word_here"] []) (gS : mg "_law_stepped" = some (.ref fS)) (T : Mg mg) : FnOk P w K mg base CX0 3 f fd ["_law_line_here", "_law_word_here"] (spImage K) := by
  refine F.ok scImageL (fun vs H Q E h => ?_) (fun cdv A outer s H vs Q E hr h => ?_)
  · obtain ⟨B, v, ss, z, L, rfl, _⟩ := h
    rfl
  · obtain ⟨B, v, ss, z, L, rfl, hd, hok, L1, L3, hw, k⟩ := h
    obtain ⟨p, pvs, rfl, nb, hp, ha, hlr⟩ := hd.tup_rd
    refine ⟨_, (pss_cons (ps_for PassesOwn.never rfl (pi_tup (pv 0)) (pg_name (i := 2) scImageL.nd rfl (.inl rfl)) (pss_one (ps_set (i := 1) scImageL.nd rfl (.inl rfl) (pe_call S (hr.mono (by decide)) (by rfl) gS FS.kp bS .nil pass0 (pa_cons (pv 2) (pa_cons (pv 1) pa_nil))))))
      (pss_one (ps_ret (pv 1)))), ?_⟩
    refine ⟨_, rfl, p, rfl, ⟨pvs, .inl hp⟩, ?_⟩
    refine for_tup (xs := pvs) (fun i σ H' => (∃ y2, σ = [some (.ref p), some (.str (mkS (img (ss.take i) (TL.tl z)))), y2]) ∧ Same H H') ⟨⟨none, by rw [List.take_zero, show img [] (TL.tl z) = TL.tl z from rfl, mkS_tl]; rfl⟩, Same.refl H⟩ (fun i σ H' _ h => .inl (same_rd h.2 hp)) ?_ ?_
    · rintro i x σ H1 hx ⟨⟨y2, rfl⟩, sm⟩
      obtain ⟨d, hdi, hd1⟩ := ha.getV hx
      rw [List.getElem?_map] at hdi
      obtain ⟨sp, hsp, rfl⟩ := Option.map_eq_some_iff.mp hdi
      refine ⟨_, rfl, _, rfl, B, _, sp, _, L, rfl, same_dt sm hd1, hok sp (List.mem_of_getElem? hsp), L1, L3, ?_, fun H2 s2 => ⟨⟨some x, ?_⟩, sm.trans s2⟩⟩
      · exact img_ok L1 L3 (fun t ht => hok t (List.mem_of_mem_take ht)) hw
      · rw [tl_mkS, List.take_add_one, hsp]
        show _ = [_, some (V.str (mkS (img (ss.take i ++ [sp]) _))), _]
        rw [img_snoc]
        rfl
    · rintro σ H1 ⟨⟨y2, rfl⟩, sm⟩
      refine ⟨_, rfl, ?_⟩
      have e0 : pvs.length = ss.length := by rw [hlr, List.length_map]
      rw [e0, List.take_length]
      exact k _ sm
end

/-! ### machines as data -/
abbrev Rows := List (List (Option Nat))
def oV : Option Nat → V
  | none => .non
  | some k => .int (k : Int)
def oD : Option Nat → PyData
  | none => .none
  | some k => .int (k : Int)
def rowDt (row : List (Option Nat)) : PyData := .tuple (row.map oD)
def machDt (L : Nat) (rs : Rows) (es : List Bool) : PyData := .tuple [.int (L : Int), .tuple (rs.map rowDt), .tuple (es.map .bool)]
structure MOk (L : Nat) (rs : Rows) (es : List Bool) : Prop where
  l1 : 1 ≤ rs.length
  l400 : rs.length ≤ 400
  row : ∀ row ∈ rs, row.length = L
  tgt : ∀ row ∈ rs, ∀ v, some v ∈ row → v < rs.length
  es : es.length = rs.length
  L1 : 1 ≤ L
  L3 : L ≤ 3
section
variable {B : Addr → Prop} {K : PySem.W.Frag} {H H' : Hp}
theorem o_sc (x : Option Nat) (v : V) (h : Dt B K H v (oD x)) : v = oV x := by
  cases x with
  | none => cases h; rfl
  | some k => cases h; rfl
theorem o_cs (x : Option Nat) : Dt B K H (oV x) (oD x) := by
  cases x with
  | none => exact .non
  | some k => exact .int _
/-- a machine as it lies -/
structure MA (H : Hp) (L : Nat) (rs : Rows) (es : List Bool) (m pr pe : Addr) (rvs : List V) : Prop where
  hm : Rd H m (.tup [.int (L : Int), .ref pr, .ref pe])
  hr : Rd H pr (.tup rvs)
  hl : rvs.length = rs.length
  row : ∀ (u : Nat) (row : List (Option Nat)), rs[u]? = some row → ∃ q, rvs[u]? = some (.ref q) ∧ Rd H q (.tup (row.map oV))
  he : Rd H pe (.tup (es.map V.bl))
theorem MA.same {L : Nat} {rs : Rows} {es : List Bool} {m pr pe : Addr} {rvs : List V} (s : Same H H') (M : MA H L rs es m pr pe rvs) : MA H' L rs es m pr pe rvs :=
  ⟨same_rd s M.hm, same_rd s M.hr, M.hl, fun u row h => let ⟨q, h1, h2⟩ := M.row u row h; ⟨q, h1, same_rd s h2⟩, same_rd s M.he⟩
theorem dt_mach {L : Nat} {rs : Rows} {es : List Bool} {v : V} (h : Dt B K H v (machDt L rs es)) : ∃ m pr pe rvs, v = .ref m ∧ ¬ B m ∧ MA H L rs es m pr pe rvs := by
  obtain ⟨m, xs, rfl, nm, hm, ha, _⟩ := h.tup_rd
  cases ha with
  | cons h1 ha =>
    cases ha with
    | cons h2 ha =>
      cases ha with
      | cons h3 ha =>
        cases ha
        cases h1
        obtain ⟨pr, rvs, rfl, _, hr, har, hl⟩ := h2.tup_rd
        obtain ⟨pe, evs, rfl, _, he, hae, _⟩ := h3.tup_rd
        rw [dt_sc b_sc hae] at he
        refine ⟨m, pr, pe, rvs, rfl, nm, hm, hr, by rw [hl, List.length_map], fun u row hu => ?_, he⟩
        obtain ⟨v, hv, hd⟩ := har.get (i := u) (d := rowDt row) (by rw [List.getElem?_map, hu]; rfl)
        obtain ⟨q, ys, rfl, _, hq, hay, _⟩ := hd.tup_rd
        rw [dt_sc o_sc hay] at hq
        exact ⟨q, hv, hq⟩
end
def goM (rs : Rows) (o : Option Nat) (c : Nat) : Option Nat := match o with
  | none => none
  | some u => (rs.getD u []).getD (c - 97) none
def endM (es : List Bool) : Option Nat → Bool
  | none => false
  | some u => es.getD u false
def hasM (rs : Rows) (es : List Bool) (cs : List Nat) : Bool := endM es (cs.foldl (goM rs) (some 0))
theorem go_none {rs : Rows} : ∀ cs : List Nat, cs.foldl (goM rs) none = none
  | [] => rfl
  | c :: cs => go_none cs
theorem go_snoc {rs : Rows} {o : Option Nat} {cs : List Nat} {i c : Nat} (h : cs[i]? = some c) : (cs.take (i + 1)).foldl (goM rs) o = goM rs ((cs.take i).foldl (goM rs) o) c := by
  rw [List.take_add_one, h, List.foldl_append]
  rfl
theorem go_stop {rs : Rows} {o : Option Nat} {cs : List Nat} {i : Nat} (h : (cs.take i).foldl (goM rs) o = none) : cs.foldl (goM rs) o = none := by
  have e : cs.foldl (goM rs) o = (cs.drop i).foldl (goM rs) ((cs.take i).foldl (goM rs) o) := by
    rw [← List.foldl_append, List.take_append_drop]
  rw [e, h, go_none]
theorem go_lt {L : Nat} {rs : Rows} {es : List Bool} (M : MOk L rs es) {u c v : Nat} (hu : u < rs.length) (h : goM rs (some u) c = some v) : v < rs.length := by
  have h : (rs.getD u []).getD (c - 97) none = some v := h
  have hm := getD_mem (d := []) hu
  by_cases q : c - 97 < (rs.getD u []).length
  · have := getD_mem (d := none) q
    rw [h] at this
    exact M.tgt _ hm _ this
  · rw [List.getD_eq_getElem?_getD, List.getElem?_eq_none (by omega)] at h
    cases h
def spIsOf (K : PySem.W.Frag) : Sp := fun vs H Q _ => ∃ (B : Addr → Prop) (v : V) (L : Nat) (rs : Rows) (es : List Bool) (z : Str), vs = [v, .str z] ∧ Dt B K H v (machDt L rs es) ∧ MOk L rs es ∧ WOk (L : Int) 1000 (TL.tl z) ∧ ∀ H', Same H H' → Q (.bl (hasM rs es (TL.tl z))) H'
section
variable {P : Program} {w : World} {K : PySem.W.Frag} {mg : Str → Option Value} {base : Heap}
theorem scIsOf : FnScope ["machine", "word", "_", "rows", "ends", "state", "sign"] ["machine", "word"] (defScope sIsOf) := ⟨rfl, rfl, rfl, by decide +kernel, rfl, by decide +kernel, by decide +kernel⟩
theorem ok_isOf {f : Addr} {fd : FuncData} (F : Fun K "is_of" "is_of" sIsOf f fd) (T : Mg mg) : FnOk P w K mg base CX0 1 f fd ["machine", "word"] (spIsOf K) := by
  refine F.ok scIsOf (fun vs H Q E h => ?_) (fun cdv A outer s H vs Q E hr h => ?_)
  · obtain ⟨B, v, L, rs, es, z, rfl, _⟩ := h
    rfl
  · obtain ⟨B, v, L, rs, es, z, rfl, hd, M, ⟨wl, wc⟩, k⟩ := h
    obtain ⟨tt, le⟩ := T.le
    obtain ⟨m, pr, pe, rvs, rfl, nb, ma⟩ := dt_mach hd
    have zl := TL.len_tl z
    have L1 : 1 ≤ (L : Int) := by have := M.L1; omega
    have L3 : (L : Int) ≤ 3 := by have := M.L3; omega
    refine ⟨_, (pss_cons (ps_asg (pv 0) (pg_tup rfl (pgs_cons (pg_name (i := 2) scIsOf.nd rfl (.inl rfl)) (pgs_cons (pg_name (i := 3) scIsOf.nd rfl (.inl rfl)) (pgs_cons (pg_name (i := 4) scIsOf.nd rfl (.inl rfl)) pgs_nil)))))
      (pss_cons (ps_set (i := 5) scIsOf.nd rfl (.inl rfl) pe_int)
      (pss_cons (ps_for PassesOwn.never rfl (pi_str (pv 1)) (pg_name (i := 6) scIsOf.nd rfl (.inl rfl)) (pss_cons (ps_set (i := 5) scIsOf.nd rfl (.inl rfl) (pe_ix (r := rIxT K) ix_tup (pe_ix (r := rIxT K) ix_tup (pv 3) (pv 5) (fun _ _ => rfl)) (pe_bm PySem.F.plainAttrs_str PySem.F.slot_str_index PySem.F.type_str_index mt_sindex (pe_glob (v := .str "abc") (by rfl) le ⟨_, rfl⟩) (pa_cons (pv 6) pa_nil)) (fun _ _ => rfl)))
      (pss_one (ps_if (pt_cmp (pc_isN (pv 5))) (pss_one (ps_ret pe_bl)) pss_nil))))
      (pss_one (ps_ret (pe_ix (r := rIxT K) ix_tup (pv 4) (pv 5) (fun _ _ => rfl))))))), ?_⟩
    refine ⟨_, rfl, m, _, rfl, .inl ma.hm, rfl, _, _, rfl, _, _, rfl, _, _, rfl, rfl, ?_⟩
    refine ⟨_, rfl, z, rfl, ?_⟩
    refine for_it walk_str (fun i σ H' => ∃ u : Nat, (∃ y6, σ = [some (.ref m), some (.str z), some (.int (L : Int)), some (.ref pr), some (.ref pe), some (.int (u : Int)), y6]) ∧ H' = H ∧ u < rs.length ∧ ((TL.tl z).take i).foldl (goM rs) (some 0) = some u) ⟨0, ⟨none, rfl⟩, rfl, M.l1, rfl⟩ (fun _ _ _ _ _ => True.intro) ?_ ?_
    · rintro i x σ H1 H2 hi ⟨u, ⟨y6, rfl⟩, rfl, hu, hg⟩ ⟨rfl, c, hcz, rfl⟩
      have hcz : (TL.tl z)[i]? = some c := by
        rw [Array.getElem?_toList]
        exact hcz
      have hl := wc c (List.mem_of_getElem? hcz)
      have hx := (ltr_mem L1 L3 c hl).2
      obtain ⟨q, e1, e2⟩ := ma.row u _ (getD_of (d := []) hu)
      have lr := M.row _ (getD_mem (d := []) hu)
      have e3 := getD_of (d := none) (show c - 97 < (rs.getD u []).length by omega)
      refine ⟨_, rfl, _, rfl, pr, _, _, .ref q, rfl, rfl, .inl ma.hr, atI_nat e1, rfl, _, rfl, "abc", _, c - 97, [], rfl, rfl, occ_ltr L1 L3 hl, q, _, _, oV ((rs.getD u []).getD (c - 97) none), rfl, rfl, .inl e2, atI_nat (by rw [List.getElem?_map, e3]; rfl), ?_⟩
      have hs := go_snoc (rs := rs) (o := some 0) hcz
      rw [hg] at hs
      have hs : ((TL.tl z).take (i + 1)).foldl (goM rs) (some 0) = (rs.getD u []).getD (c - 97) none := hs
      cases e4 : (rs.getD u []).getD (c - 97) none with
      | none =>
        rw [e4] at hs
        have := k H2 (Same.refl H2)
        rw [show hasM rs es (TL.tl z) = endM es ((TL.tl z).foldl (goM rs) (some 0)) from rfl, go_stop hs] at this
        exact ⟨_, rfl, _, rfl, ite2 (fun _ => this) (fun q => absurd (decide_eq_true rfl) q)⟩
      | some v =>
        rw [e4] at hs
        refine ⟨_, rfl, _, rfl, ite2 (fun q => ?_) (fun _ => ?_)⟩
        · cases of_decide_eq_true q
        exact ⟨v, ⟨_, rfl⟩, rfl, go_lt M hu e4, hs⟩
    · rintro σ H1 ⟨u, ⟨y6, rfl⟩, rfl, hu, hg⟩
      have e : z.cps.size = (TL.tl z).length := zl
      rw [e, List.take_length] at hg
      have := k H1 (Same.refl H1)
      rw [show hasM rs es (TL.tl z) = endM es ((TL.tl z).foldl (goM rs) (some 0)) from rfl, hg] at this
      have hue : u < es.length := by rw [M.es]; exact hu
      exact ⟨_, rfl, _, rfl, pe, _, _, .bl (es.getD u false), rfl, rfl, .inl ma.he, atI_nat (by rw [List.getElem?_map, getD_of (d := false) hue]; rfl), this⟩
end
section
variable {P : Program} {w : World} {K : PySem.W.Frag} {mg : Str → Option Value} {base : Heap}
theorem scStateL : FnScope ["_law_machine", "_law_word_here", "_law_state_here", "_law_letter"] ["_law_machine", "_law_word_here"] (defScope sStateL) := ⟨rfl, rfl, rfl, by decide +kernel, rfl, by decide +kernel, by decide +kernel⟩
def spState (K : PySem.W.Frag) : Sp := fun vs H Q _ => ∃ (B : Addr → Prop) (v : V) (L : Nat) (rs : Rows) (es : List Bool) (z : Str), vs = [v, .str z] ∧ Dt B K H v (machDt L rs es) ∧ MOk L rs es ∧ WOk (L : Int) 1000 (TL.tl z) ∧ ((∀ u, (TL.tl z).foldl (goM rs) (some 0) = some u → u < rs.length) → Q (oV ((TL.tl z).foldl (goM rs) (some 0))) H)
theorem ok_stateL {f : Addr} {fd : FuncData} (F : Fun K "_law_state" "_law_state" sStateL f fd) (T : Mg mg) : FnOk P w K mg base CX0 1 f fd ["_law_machine", "_law_word_here"] (spState K) := by
  refine F.ok scStateL (fun vs H Q E h => ?_) (fun cdv A outer s H vs Q E hr h => ?_)
  · obtain ⟨B, v, L, rs, es, z, rfl, _⟩ := h
    rfl
  · obtain ⟨B, v, L, rs, es, z, rfl, hd, M, ⟨wl, wc⟩, k⟩ := h
    obtain ⟨m, pr, pe, rvs, rfl, nb, ma⟩ := dt_mach hd
    have zl := TL.len_tl z
    have L1 : 1 ≤ (L : Int) := by have := M.L1; omega
    have L3 : (L : Int) ≤ 3 := by have := M.L3; omega
    refine ⟨_, (pss_cons (ps_set (i := 2) scStateL.nd rfl (.inl rfl) pe_int)
      (pss_cons (ps_for PassesOwn.never rfl (pi_str (pv 1)) (pg_name (i := 3) scStateL.nd rfl (.inl rfl)) (pss_one (ps_set (i := 2) scStateL.nd rfl (.inl rfl) (pe_ifExp (pt_cmp (pc_notN (pv 2))) (pe_ix (r := rIxT K) ix_tup (pe_ix (r := rIxT K) ix_tup (pe_ix (r := rIxT K) ix_tup (pv 0) pe_int (fun _ _ => rfl)) (pv 2) (fun _ _ => rfl)) (pe_bm PySem.F.plainAttrs_str PySem.F.slot_str_index PySem.F.type_str_index mt_sindex pe_str (pa_cons (pv 3) pa_nil)) (fun _ _ => rfl)) pe_non))))
      (pss_one (ps_ret (pv 2))))), ?_⟩
    refine ⟨_, rfl, z, rfl, ?_⟩
    refine for_it walk_str (fun i σ H' => (∃ y3, σ = [some (.ref m), some (.str z), some (oV (((TL.tl z).take i).foldl (goM rs) (some 0))), y3]) ∧ H' = H ∧ ∀ u, ((TL.tl z).take i).foldl (goM rs) (some 0) = some u → u < rs.length) ⟨⟨none, rfl⟩, rfl, fun u e => by cases e; exact M.l1⟩ (fun _ _ _ _ _ => True.intro) ?_ ?_
    · rintro i x σ H1 H2 hi ⟨⟨y3, rfl⟩, rfl, hg⟩ ⟨rfl, c, hcz, rfl⟩
      have hcz : (TL.tl z)[i]? = some c := by
        rw [Array.getElem?_toList]
        exact hcz
      have hl := wc c (List.mem_of_getElem? hcz)
      have hx := (ltr_mem L1 L3 c hl).2
      have hs := go_snoc (rs := rs) (o := some 0) hcz
      cases e4 : ((TL.tl z).take i).foldl (goM rs) (some 0) with
      | none =>
        rw [e4] at hs
        refine ⟨_, rfl, _, rfl, ite2 (fun q => ?_) (fun _ => ⟨⟨some (.str ⟨#[c]⟩), ?_⟩, rfl, fun u e => ?_⟩)⟩
        · cases q
        · rw [hs]
          rfl
        · rw [hs] at e
          cases e
      | some u =>
        rw [e4] at hs
        have hu := hg u e4
        obtain ⟨q, e1, e2⟩ := ma.row u _ (getD_of (d := []) hu)
        have lr := M.row _ (getD_mem (d := []) hu)
        have e3 := getD_of (d := none) (show c - 97 < (rs.getD u []).length by omega)
        refine ⟨_, rfl, _, rfl, ite2 (fun _ => ?_) (fun q => absurd rfl q)⟩
        refine ⟨_, rfl, m, _, 1, _, rfl, rfl, .inl ma.hm, atI_nat (j := 1) rfl, _, rfl, pr, _, _, .ref q, rfl, rfl, .inl ma.hr, atI_nat e1, rfl, _, rfl, "abc", _, c - 97, [], rfl, rfl, occ_ltr L1 L3 hl, q, _, _, oV ((rs.getD u []).getD (c - 97) none), rfl, rfl, .inl e2, atI_nat (by rw [List.getElem?_map, e3]; rfl), ⟨some (.str ⟨#[c]⟩), ?_⟩, rfl, fun v e => ?_⟩
        · rw [hs]
          rfl
        · rw [hs] at e
          exact go_lt M hu e
    · rintro σ H1 ⟨⟨y3, rfl⟩, rfl, hg⟩
      have e : z.cps.size = (TL.tl z).length := zl
      rw [e, List.take_length] at hg
      refine ⟨_, rfl, ?_⟩
      rw [e, List.take_length]
      exact k hg
theorem scIsOfL : FnScope ["_law_machine", "_law_word_here", "_law_state_here"] ["_law_machine", "_law_word_here"] (defScope sIsOfL) := ⟨rfl, rfl, rfl, by decide +kernel, rfl, by decide +kernel, by decide +kernel⟩
theorem ok_isOfL {f fS : Addr} {fd fdS : FuncData} (F : Fun K "_law_is_of" "_law_is_of" sIsOfL f fd) (S : FnOk P w K mg base CX0 1 fS fdS ["_law_machine", "_law_word_here"] (spState K)) (FS : Fun K "_law_state" "_law_state" sStateL fS fdS) (bS : Binds K fdS ["_law_machine", "_law_word_here"] []) (gS : mg "_law_state" = some (.ref fS)) (T : Mg mg) : FnOk P w K mg base CX0 2 f fd ["_law_machine", "_law_word_here"] (spIsOf K) := by
  refine F.ok scIsOfL (fun vs H Q E h => ?_) (fun cdv A outer s H vs Q E hr h => ?_)
  · obtain ⟨B, v, L, rs, es, z, rfl, _⟩ := h
    rfl
  · obtain ⟨B, v, L, rs, es, z, rfl, hd, M, hw, k⟩ := h
    obtain ⟨m, pr, pe, rvs, rfl, nb, ma⟩ := dt_mach hd
    refine ⟨_, (pss_cons (ps_set (i := 2) scIsOfL.nd rfl (.inl rfl) (pe_call S (hr.mono (by decide)) (by rfl) gS FS.kp bS .nil pass0 (pa_cons (pv 0) (pa_cons (pv 1) pa_nil))))
      (pss_one (ps_ret (pe_and (pe_cmp (pc_notN (pv 2))) (pe_one (pe_ix (r := rIxT K) ix_tup (pe_ix (r := rIxT K) ix_tup (pv 0) pe_int (fun _ _ => rfl)) (pv 2) (fun _ _ => rfl))))))), ?_⟩
    refine ⟨_, rfl, _, rfl, B, _, L, rs, es, z, rfl, hd, M, hw, fun hg => ?_⟩
    have res := k H (Same.refl H)
    unfold hasM at res
    cases e : (TL.tl z).foldl (goM rs) (some 0) with
    | none =>
      rw [e] at res
      exact ⟨_, rfl, _, rfl, ite2 (fun q => by cases q) (fun _ => res)⟩
    | some u =>
      rw [e] at res
      have hue : u < es.length := by rw [M.es]; exact hg u e
      exact ⟨_, rfl, _, rfl, ite2 (fun _ => ⟨_, rfl, m, _, 2, _, rfl, rfl, .inl ma.hm, atI_nat (j := 2) rfl, _, rfl, pe, _, _, .bl (es.getD u false), rfl, rfl, .inl ma.he, atI_nat (by rw [List.getElem?_map, getD_of (d := false) hue]; rfl), res⟩) (fun q => absurd rfl q)⟩
end
/-! ### queries as they are drawn -/
def cmpC (L : Int) (rws : List (List Int)) (vds : List Int) (z w : Str) : Int := vds.getD (goRow L rws z w (max z.length w.length)) 0
def VNm (nm : Str) (v : Int) : Prop := (nm = "below" ∧ v = -1) ∨ (nm = "like" ∧ v = 0) ∨ (nm = "above" ∧ v = 1)
def Stp.plain : Stp → Prop
  | .cut _ _ => True
  | .stop _ => True
  | _ => False
inductive Qn (L : Int) (C : Str → Str → Int) (p : Bool) : Nat → PyData → (Str → Bool) → Prop
  | rel {n : Nat} {nm w : Str} {v : Int} (h : VNm nm v) (hw : WOk L 20 (TL.tl w)) : Qn L C p (n + 1) (.tuple [.str nm, .str w]) (fun z => decide (V.int (C z w) = V.int v))
  | is {n : Nat} {w : Str} (hw : WOk L 20 (TL.tl w)) : Qn L C p (n + 1) (.tuple [.str "is", .str w]) (fun z => decide (V.str z = V.str w))
  | has {n : Nat} {w : Str} (hw : WOk L 20 (TL.tl w)) : Qn L C p (n + 1) (.tuple [.str "has", .str w]) (fun z => !(Builtin.Str.occurrences z w 0 z.length 1).isEmpty)
  | of {n : Nat} {rs : Rows} {es : List Bool} (M : MOk L.toNat rs es) : Qn L C p (n + 1) (.tuple [.str "of", machDt L.toNat rs es]) (fun z => hasM rs es (TL.tl z))
  | seen {n : Nat} {ss : List Stp} {q : PyData} {f : Str → Bool} (hs : ∀ s ∈ ss, s.Ok L) (hp : p = false → ∀ s ∈ ss, s.plain) (h : Qn L C p n q f) : Qn L C p (n + 1) (.tuple [.str "seen", .tuple (ss.map Stp.dat), q]) (fun z => f (mkS (img ss (TL.tl z))))
  | no {n : Nat} {q : PyData} {f : Str → Bool} (h : Qn L C p n q f) : Qn L C p (n + 1) (.tuple [.str "not", q]) (fun z => !(f z))
  | lot {n : Nat} {nm : Str} {b : Bool} {qs : List PyData} {fs : Nat → Str → Bool} (hn : (nm = "all" ∧ b = true) ∨ (nm = "some" ∧ b = false)) (hl : qs.length ≤ 100) (h : ∀ (i : Nat) (q : PyData), qs[i]? = some q → Qn L C p n q (fs i)) : Qn L C p (n + 1) (.tuple [.str nm, .tuple qs]) (fun z => if b = true then ((List.range qs.length).map fun i => fs i z).all id else ((List.range qs.length).map fun i => fs i z).any id)
/-- the dict of the module in which the verdicts stand -/
structure VDs (K : PySem.W.Frag) (w : World) (mg : Str → Option Value) (d : Addr) (es : Array DictEntry) (n : Nat) : Prop where
  gl : mg "VERDICTS" = some (.ref d)
  kd : KDict K w d es n
  below : ∃ t, PySem.W.nsIn K d "below" = some (some (.int (-1) t))
  like : ∃ t, PySem.W.nsIn K d "like" = some (some (.int 0 t))
  above : ∃ t, PySem.W.nsIn K d "above" = some (some (.int 1 t))
  is : PySem.W.nsIn K d "is" = some none
  has : PySem.W.nsIn K d "has" = some none
  of : PySem.W.nsIn K d "of" = some none
  seen : PySem.W.nsIn K d "seen" = some none
  no : PySem.W.nsIn K d "not" = some none
  xall : PySem.W.nsIn K d "all" = some none
  xsome : PySem.W.nsIn K d "some" = some none
theorem VDs.rel {K : PySem.W.Frag} {w : World} {mg : Str → Option Value} {d : Addr} {es : Array DictEntry} {n : Nat} (D : VDs K w mg d es n) {nm : Str} {v : Int} (h : VNm nm v) : ∃ t, PySem.W.nsIn K d nm = some (some (.int v t)) := by
  rcases h with ⟨rfl, rfl⟩ | ⟨rfl, rfl⟩ | ⟨rfl, rfl⟩
  · exact D.below
  · exact D.like
  · exact D.above
theorem wok_let {L : Int} {n : Nat} {z : Str} (h : WOk L n (TL.tl z)) (hn : n ≤ 1000) : LetS L z ∧ z.length ≤ 1000 := ⟨h.2, by rw [TL.len_tl]; exact Nat.le_trans h.1 hn⟩
theorem wok_up {L : Int} {n m : Nat} {cs : List Nat} (h : WOk L n cs) (hn : n ≤ m) : WOk L m cs := ⟨Nat.le_trans h.1 hn, h.2⟩
section
variable {P : Program} {w : World} {K : PySem.W.Frag} {mg : Str → Option Value} {base : Heap}
theorem scAnswers : FnScope ["comp", "query", "word", "name", "told", "held"] ["comp", "query", "word"] (defScope sAnswers) := ⟨rfl, rfl, rfl, by decide +kernel, rfl, by decide +kernel, by decide +kernel⟩
def spAns (K : PySem.W.Frag) (k : Nat) : Sp := fun vs H Q _ => ∃ (B B2 : Addr → Prop) (vc vq : V) (L : Int) (rws : List (List Int)) (vds : List Int) (d : PyData) (f : Str → Bool) (z : Str) (p : Bool), vs = [vc, vq, .str z] ∧ CAt B H vc L rws vds ∧ Dt B2 K H vq d ∧ Qn L (cmpC L rws vds) p k d f ∧ WOk L 1000 (TL.tl z) ∧ ∀ H', Same H H' → Q (.bl (f z)) H'
theorem dt2s {B : Addr → Prop} {K : PySem.W.Frag} {H : Hp} {v : V} {nm : Str} {y : PyData} (h : Dt B K H v (.tuple [.str nm, y])) : ∃ a vy, v = .ref a ∧ ¬ B a ∧ SqT K H a [.str nm, vy] ∧ Dt B K H vy y := by
  obtain ⟨a, xs, rfl, nb, hs, ha, _⟩ := h.tup_ref
  cases ha with
  | cons h1 t =>
    cases t with
    | cons h2 t =>
      cases t
      cases h1
      exact ⟨a, _, rfl, nb, hs, h2⟩
theorem dt3s {B : Addr → Prop} {K : PySem.W.Frag} {H : Hp} {v : V} {nm : Str} {y y2 : PyData} (h : Dt B K H v (.tuple [.str nm, y, y2])) : ∃ a vy vy2, v = .ref a ∧ ¬ B a ∧ SqT K H a [.str nm, vy, vy2] ∧ Dt B K H vy y ∧ Dt B K H vy2 y2 := by
  obtain ⟨a, xs, rfl, nb, hs, ha, _⟩ := h.tup_ref
  cases ha with
  | cons h1 t =>
    cases t with
    | cons h2 t =>
      cases t with
      | cons h3 t =>
        cases t
        cases h1
        exact ⟨a, _, _, rfl, nb, hs, h2, h3⟩
theorem lot_nn {b : Bool} {nm : Str} (h : (nm = "all" ∧ b = true) ∨ (nm = "some" ∧ b = false)) : nm ≠ "is" ∧ nm ≠ "has" ∧ nm ≠ "of" ∧ nm ≠ "seen" ∧ nm ≠ "not" := by
  rcases h with ⟨rfl, _⟩ | ⟨rfl, _⟩ <;> decide +kernel
theorem if_not {A B : Prop} {x y : Str} (h : x ≠ y) (b : B) : if decide (V.str x = V.str y) = true then A else B := by
  rw [decide_eq_false (fun e => h (V.str.inj e))]
  exact b
theorem if_is {A B : Prop} {x : Str} (a : A) : if decide (V.str x = V.str x) = true then A else B := by
  rw [decide_eq_true rfl]
  exact a
theorem answers_body {f fT fO fM : Addr} {fd fdT fdO fdM : FuncData} {n kk : Nat} {dV : Addr} {es : Array DictEntry} {nn : Nat} (F : Fun K "answers" "answers" sAnswers f fd) (gREC : mg "answers" = some (.ref f)) (bREC : Binds K fd ["comp", "query", "word"] [])
    (hk : 3 ≤ kk) (REC : FnOk P w K mg base CX0 kk f fd ["comp", "query", "word"] (spAns K n)) (TE : FnOk P w K mg base CX0 2 fT fdT ["comp", "one", "other"] (spTells K)) (FTE : Fun K "tells" "tells" sTells fT fdT) (bTE : Binds K fdT ["comp", "one", "other"] []) (gTE : mg "tells" = some (.ref fT))
    (IO : FnOk P w K mg base CX0 1 fO fdO ["machine", "word"] (spIsOf K)) (FIO : Fun K "is_of" "is_of" sIsOf fO fdO) (bIO : Binds K fdO ["machine", "word"] []) (gIO : mg "is_of" = some (.ref fO))
    (IM : FnOk P w K mg base CX0 3 fM fdM ["line", "word"] (spImage K)) (FIM : Fun K "image" "image" sImage fM fdM) (bIM : Binds K fdM ["line", "word"] []) (gIM : mg "image" = some (.ref fM)) (VD : VDs K w mg dV es nn) (T : Mg mg) : FnOk P w K mg base CX0 (kk + 1) f fd ["comp", "query", "word"] (spAns K (n + 1)) := by
  have FREC := F
  refine F.ok scAnswers (fun vs H Q E h => ?_) (fun cdv A outer s H vs Q E hr h => ?_)
  · obtain ⟨B, B2, vc, vq, L, rws, vds, d, f, z, p, rfl, _⟩ := h
    rfl
  · obtain ⟨B, B2, vc, vq, L, rws, vds, d, f, z, p, rfl, hc, hd, hq, hw, k⟩ := h
    have L1 := hc.L1
    have L3 := hc.L3
    have hw := wok_let hw (Nat.le_refl _)
    refine ⟨_, (pss_cons (ps_set (i := 3) scAnswers.nd rfl (.inl rfl) (pe_ix (r := rIxT K) ix_tup (pv 1) pe_int (fun _ _ => rfl)))
      (pss_cons (ps_if (pt_cmpR (op_in_kd VD.kd) (pv 3) (pe_glob (v := .ref dV) (by rfl) VD.gl rfl) (by rfl)) (pss_one (ps_ret (pe_cmpR op_eq (pe_call TE (hr.mono (by omega)) (by rfl) gTE FTE.kp bTE .nil pass0 (pa_cons (pv 0) (pa_cons (pv 2) (pa_cons (pe_ix (r := rIxT K) ix_tup (pv 1) pe_int (fun _ _ => rfl)) pa_nil)))) (pe_ix ix_kdict (pe_glob (v := .ref dV) (by rfl) VD.gl rfl) (pv 3) (fun _ _ => rfl)) (nomark _)))) pss_nil)
      (pss_cons (ps_if (pt_cmpR op_eq (pv 3) pe_str (nomark _)) (pss_one (ps_ret (pe_cmpR op_eq (pv 2) (pe_ix (r := rIxT K) ix_tup (pv 1) pe_int (fun _ _ => rfl)) (nomark _)))) pss_nil)
      (pss_cons (ps_if (pt_cmpR op_eq (pv 3) pe_str (nomark _)) (pss_one (ps_ret (pe_cmpR op_in_str (pe_ix (r := rIxT K) ix_tup (pv 1) pe_int (fun _ _ => rfl)) (pv 2) (by rfl)))) pss_nil)
      (pss_cons (ps_if (pt_cmpR op_eq (pv 3) pe_str (nomark _)) (pss_one (ps_ret (pe_call IO (hr.mono (by omega)) (by rfl) gIO FIO.kp bIO .nil pass0 (pa_cons (pe_ix (r := rIxT K) ix_tup (pv 1) pe_int (fun _ _ => rfl)) (pa_cons (pv 2) pa_nil))))) pss_nil)
      (pss_cons (ps_if (pt_cmpR op_eq (pv 3) pe_str (nomark _)) (pss_one (ps_ret (pe_call REC hr (by rfl) gREC FREC.kp bREC .nil pass0 (pa_cons (pv 0) (pa_cons (pe_ix (r := rIxT K) ix_tup (pv 1) pe_int (fun _ _ => rfl)) (pa_cons (pe_call IM (hr.mono (by omega)) (by rfl) gIM FIM.kp bIM .nil pass0 (pa_cons (pe_ix (r := rIxT K) ix_tup (pv 1) pe_int (fun _ _ => rfl)) (pa_cons (pv 2) pa_nil))) pa_nil)))))) pss_nil)
      (pss_cons (ps_if (pt_cmpR op_eq (pv 3) pe_str (nomark _)) (pss_one (ps_ret (pe_not (pe_call REC hr (by rfl) gREC FREC.kp bREC .nil pass0 (pa_cons (pv 0) (pa_cons (pe_ix (r := rIxT K) ix_tup (pv 1) pe_int (fun _ _ => rfl)) (pa_cons (pv 2) pa_nil))))))) pss_nil)
      (pss_cons (ps_setLc (i := 4) (own := [("held", 5)]) (g := gName 5) (tt := tYes) rfl scAnswers.nd rfl rfl (sw_true rfl rfl rfl (by decide +kernel)) (pi_tup (pe_ix (r := rIxT K) ix_tup (pv 1) pe_int (fun _ _ => rfl))) (blkOk_by (N := ["comp", "query", "word", "name", "told", "held"]) (sc := defScope sAnswers) (by decide +kernel)) (fun _ _ _ _ _ => pg_name (i := 5) scAnswers.nd rfl (Or.inl rfl)) (fun _ _ _ _ _ => pts_nil) (fun _ _ _ _ _ => (pe_call REC hr (by rfl) gREC FREC.kp bREC .nil pass0 (pa_cons (pv 0) (pa_cons (pv 5) (pa_cons (pv 2) pa_nil))))))
      (pss_one (ps_ret (pe_ifExp (pt_cmpR op_eq (pv 3) pe_str (nomark _)) (pe_callB (r := rAll K) (cr_all rfl) (by rfl) T.all (by decide +kernel) (pa_cons (pv 4) pa_nil)) (pe_callB (r := rAny K) (cr_any rfl) (by rfl) T.any (by decide +kernel) (pa_cons (pv 4) pa_nil))))))))))))), ?_⟩
    cases hq with
    | rel hn hww =>
      rename_i nm ww v
      obtain ⟨a, vy, rfl, nb, hs, hy⟩ := dt2s hd
      cases hy
      obtain ⟨t, hns⟩ := VD.rel hn
      have hww := wok_let hww (by decide)
      refine ⟨_, rfl, a, _, 0, _, rfl, rfl, hs, atI_nat (j := 0) rfl, ?_⟩
      refine ⟨_, rfl, nm, _, rfl, rfl, hns, _, rfl, ite2 (fun _ => ?_) (fun q => absurd rfl q)⟩
      refine ⟨_, rfl, _, rfl, _, rfl, a, _, 1, _, rfl, rfl, hs, atI_nat (j := 1) rfl, B, vc, z, ww, L, rws, vds, rfl, hc, hw.1, hww.1, hw.2, hww.2, fun H1 s1 => ?_⟩
      exact ⟨_, rfl, dV, nm, .int v, rfl, rfl, ⟨_, _, _, VD.kd.at_, VD.kd.lit, hns, ⟨t, rfl⟩⟩, rfl, k H1 s1⟩
    | is hww =>
      rename_i ww
      obtain ⟨a, vy, rfl, nb, hs, hy⟩ := dt2s hd
      cases hy
      refine ⟨_, rfl, a, _, 0, _, rfl, rfl, hs, atI_nat (j := 0) rfl, ?_⟩
      refine ⟨_, rfl, _, _, rfl, rfl, VD.is, _, rfl, ite2 (fun q => nomatch q) (fun _ => ?_)⟩
      refine ⟨_, rfl, rfl, _, rfl, if_is ?_⟩
      exact ⟨_, rfl, _, rfl, a, _, 1, _, rfl, rfl, hs, atI_nat (j := 1) rfl, rfl, k H (Same.refl H)⟩
    | has hww =>
      rename_i ww
      obtain ⟨a, vy, rfl, nb, hs, hy⟩ := dt2s hd
      cases hy
      refine ⟨_, rfl, a, _, 0, _, rfl, rfl, hs, atI_nat (j := 0) rfl, ?_⟩
      refine ⟨_, rfl, _, _, rfl, rfl, VD.has, _, rfl, ite2 (fun q => nomatch q) (fun _ => ?_)⟩
      refine ⟨_, rfl, rfl, _, rfl, if_not (by decide +kernel) ?_⟩
      refine ⟨_, rfl, rfl, _, rfl, if_is ?_⟩
      exact ⟨_, rfl, a, _, 1, _, rfl, rfl, hs, atI_nat (j := 1) rfl, _, rfl, ww, z, rfl, rfl, k H (Same.refl H)⟩
    | of M =>
      rename_i rs es2
      obtain ⟨a, vy, rfl, nb, hs, hy⟩ := dt2s hd
      refine ⟨_, rfl, a, _, 0, _, rfl, rfl, hs, atI_nat (j := 0) rfl, ?_⟩
      refine ⟨_, rfl, _, _, rfl, rfl, VD.of, _, rfl, ite2 (fun q => nomatch q) (fun _ => ?_)⟩
      refine ⟨_, rfl, rfl, _, rfl, if_not (by decide +kernel) ?_⟩
      refine ⟨_, rfl, rfl, _, rfl, if_not (by decide +kernel) ?_⟩
      refine ⟨_, rfl, rfl, _, rfl, if_is ?_⟩
      refine ⟨_, rfl, a, _, 1, _, rfl, rfl, hs, atI_nat (j := 1) rfl, _, rfl, B2, vy, L.toNat, rs, es2, z, rfl, hy, M, ⟨by rw [← TL.len_tl]; exact hw.2, ?_⟩, k⟩
      rw [Int.toNat_of_nonneg (by omega)]
      exact hw.1
    | seen hss hp hq2 =>
      rename_i ss q2 f2
      obtain ⟨a, vy, vy2, rfl, nb, hs, hy, hy2⟩ := dt3s hd
      refine ⟨_, rfl, a, _, 0, _, rfl, rfl, hs, atI_nat (j := 0) rfl, ?_⟩
      refine ⟨_, rfl, _, _, rfl, rfl, VD.seen, _, rfl, ite2 (fun q => nomatch q) (fun _ => ?_)⟩
      refine ⟨_, rfl, rfl, _, rfl, if_not (by decide +kernel) ?_⟩
      refine ⟨_, rfl, rfl, _, rfl, if_not (by decide +kernel) ?_⟩
      refine ⟨_, rfl, rfl, _, rfl, if_not (by decide +kernel) ?_⟩
      refine ⟨_, rfl, rfl, _, rfl, if_is ?_⟩
      have hwz : WOk L 1000 (TL.tl z) := ⟨by rw [← TL.len_tl]; exact hw.2, hw.1⟩
      refine ⟨_, rfl, _, rfl, a, _, 2, _, rfl, rfl, hs, atI_nat (j := 2) rfl, _, rfl, a, _, 1, _, rfl, rfl, hs, atI_nat (j := 1) rfl, _, rfl, B2, vy, ss, z, L, rfl, hy, hss, L1, L3, hwz, fun H1 s1 => ?_⟩
      exact ⟨B, B2, vc, vy2, L, rws, vds, q2, f2, _, p, rfl, hc.keep (Keep.same s1), same_dt s1 hy2, hq2, img_ok L1 L3 hss hwz, fun H2 s2 => k H2 (s1.trans s2)⟩
    | no hq2 =>
      rename_i q2 f2
      obtain ⟨a, vy, rfl, nb, hs, hy⟩ := dt2s hd
      refine ⟨_, rfl, a, _, 0, _, rfl, rfl, hs, atI_nat (j := 0) rfl, ?_⟩
      refine ⟨_, rfl, _, _, rfl, rfl, VD.no, _, rfl, ite2 (fun q => nomatch q) (fun _ => ?_)⟩
      refine ⟨_, rfl, rfl, _, rfl, if_not (by decide +kernel) ?_⟩
      refine ⟨_, rfl, rfl, _, rfl, if_not (by decide +kernel) ?_⟩
      refine ⟨_, rfl, rfl, _, rfl, if_not (by decide +kernel) ?_⟩
      refine ⟨_, rfl, rfl, _, rfl, if_not (by decide +kernel) ?_⟩
      refine ⟨_, rfl, rfl, _, rfl, if_is ?_⟩
      have hwz : WOk L 1000 (TL.tl z) := ⟨by rw [← TL.len_tl]; exact hw.2, hw.1⟩
      exact ⟨_, rfl, _, rfl, a, _, 1, _, rfl, rfl, hs, atI_nat (j := 1) rfl, _, rfl, B, B2, vc, vy, L, rws, vds, q2, f2, z, p, rfl, hc, hy, hq2, hwz, fun H2 s2 => ⟨_, rfl, k H2 s2⟩⟩
    | lot hn hl hqs =>
      rename_i nm b qs fs
      obtain ⟨a, vy, rfl, nb, hs, hy⟩ := dt2s hd
      obtain ⟨n1, n2, n3, n4, n5⟩ := lot_nn hn
      have hns : PySem.W.nsIn K dV nm = some none := by
        rcases hn with ⟨rfl, _⟩ | ⟨rfl, _⟩
        · exact VD.xall
        · exact VD.xsome
      have hwz : WOk L 1000 (TL.tl z) := ⟨by rw [← TL.len_tl]; exact hw.2, hw.1⟩
      refine ⟨_, rfl, a, _, 0, _, rfl, rfl, hs, atI_nat (j := 0) rfl, ?_⟩
      refine ⟨_, rfl, _, _, rfl, rfl, hns, _, rfl, ite2 (fun q => nomatch q) (fun _ => ?_)⟩
      refine ⟨_, rfl, rfl, _, rfl, if_not n1 ?_⟩
      refine ⟨_, rfl, rfl, _, rfl, if_not n2 ?_⟩
      refine ⟨_, rfl, rfl, _, rfl, if_not n3 ?_⟩
      refine ⟨_, rfl, rfl, _, rfl, if_not n4 ?_⟩
      refine ⟨_, rfl, rfl, _, rfl, if_not n5 ?_⟩
      obtain ⟨pq, qvs, rfl, nbq, hqs2, haq, hlq⟩ := hy.tup_ref
      refine ⟨_, rfl, a, _, 1, _, rfl, rfl, hs, atI_nat (j := 1) rfl, pq, rfl, ⟨qvs, hqs2⟩, fun D hD => ?_⟩
      refine lc_tup (K := K) (a := pq) (xs := qvs) (NInv (fun i => V.bl (fs i z)) (List.range qs.length) H D) (nstart hD) (fun i H' _ q => same_seqT q.1 hqs2) ?_ ?_
      · rintro i y H1 hy1 p1
        obtain ⟨d1, hd1, hdt⟩ := haq.getV hy1
        have hi := (List.getElem?_eq_some_iff.mp hd1).1
        refine ⟨rfl, _, rfl, _, rfl, _, rfl, B, B2, vc, y, L, rws, vds, d1, fs i, z, p, rfl, hc.keep (Keep.same p1.1), same_dt p1.1 hdt, hqs i d1 hd1, hwz, fun H2 s2 => ?_⟩
        exact nturn (f := fun i => V.bl (fs i z)) (by rw [List.length_range]; exact Nat.lt_of_le_of_lt hl (by decide)) hD (range_at hi) p1 s2
      · rintro H1 p1
        obtain ⟨sm, hl1⟩ := nend (by rw [List.length_range]; exact hlq) p1
        have hS : SqL K H1 D (((List.range qs.length).map fun i => fs i z).map V.bl) := by
          rw [List.map_map]
          exact SqL.of hl1
        rcases hn with ⟨rfl, rfl⟩ | ⟨rfl, rfl⟩
        · exact ⟨_, rfl, rfl, _, rfl, if_is ⟨_, rfl, D, _, rfl, hS, k H1 sm⟩⟩
        · exact ⟨_, rfl, rfl, _, rfl, if_not (by decide +kernel) ⟨_, rfl, D, _, rfl, hS, k H1 sm⟩⟩
theorem ok_answers {f fT fO fM : Addr} {fd fdT fdO fdM : FuncData} {dV : Addr} {es : Array DictEntry} {nn : Nat} (F : Fun K "answers" "answers" sAnswers f fd) (gREC : mg "answers" = some (.ref f)) (bREC : Binds K fd ["comp", "query", "word"] [])
    (TE : FnOk P w K mg base CX0 2 fT fdT ["comp", "one", "other"] (spTells K)) (FTE : Fun K "tells" "tells" sTells fT fdT) (bTE : Binds K fdT ["comp", "one", "other"] []) (gTE : mg "tells" = some (.ref fT))
    (IO : FnOk P w K mg base CX0 1 fO fdO ["machine", "word"] (spIsOf K)) (FIO : Fun K "is_of" "is_of" sIsOf fO fdO) (bIO : Binds K fdO ["machine", "word"] []) (gIO : mg "is_of" = some (.ref fO))
    (IM : FnOk P w K mg base CX0 3 fM fdM ["line", "word"] (spImage K)) (FIM : Fun K "image" "image" sImage fM fdM) (bIM : Binds K fdM ["line", "word"] []) (gIM : mg "image" = some (.ref fM)) (VD : VDs K w mg dV es nn) (T : Mg mg) : ∀ n : Nat, FnOk P w K mg base CX0 (3 + n) f fd ["comp", "query", "word"] (spAns K n)
  | 0 => by
    have no : ∀ {vs : List V} {H : Hp} {Q : VK} {E : XK}, spAns K 0 vs H Q E → False := fun h => by
      obtain ⟨_, _, _, _, _, _, _, _, _, _, _, _, _, _, hq, _⟩ := h
      cases hq
    exact ⟨fun _ _ _ _ h => (no h).elim, fun _ _ _ _ _ _ _ _ _ _ _ _ _ h => (no h).elim⟩
  | n + 1 => answers_body F gREC bREC (Nat.le_add_right 3 n) (ok_answers F gREC bREC TE FTE bTE gTE IO FIO bIO gIO IM FIM bIM gIM VD T n) TE FTE bTE gTE IO FIO bIO gIO IM FIM bIM gIM VD T
end
section
variable {P : Program} {w : World} {K : PySem.W.Frag} {mg : Str → Option Value} {base : Heap}
theorem scAnswersL : FnScope ["_law_comp_here", "_law_query_here", "_law_word_here", "_law_name", "_law_found", "_law_own"] ["_law_comp_here", "_law_query_here", "_law_word_here"] (defScope sAnswersL) := ⟨rfl, rfl, rfl, by decide +kernel, rfl, by decide +kernel, by decide +kernel⟩
theorem inV_not_bl {bs : List Bool} : (!inV (.bl false) (bs.map V.bl)) = bs.all id := by
  unfold inV
  rw [List.any_map, List.all_eq_not_any_not]
  congr 1
  congr 1
  funext b
  cases b <;> rfl
theorem inV_bl {bs : List Bool} : inV (.bl true) (bs.map V.bl) = bs.any id := by
  unfold inV
  rw [List.any_map]
  congr 1
  funext b
  cases b <;> rfl
theorem flat_bl {bs : List Bool} : (bs.map V.bl).all flatV = true := by
  rw [List.all_map]
  exact List.all_eq_true.mpr fun x _ => rfl
theorem in3 {nm : Str} {v : Int} (h : VNm nm v) : inV (.str nm) [.str "below", .str "above", .str "like"] = true := by
  rcases h with ⟨rfl, _⟩ | ⟨rfl, _⟩ | ⟨rfl, _⟩ <;> decide +kernel
theorem in3_not {nm : Str} (h : nm = "is" ∨ nm = "has" ∨ nm = "of" ∨ nm = "seen" ∨ nm = "not" ∨ nm = "all" ∨ nm = "some") : inV (.str nm) [.str "below", .str "above", .str "like"] = false := by
  rcases h with rfl | rfl | rfl | rfl | rfl | rfl | rfl <;> decide +kernel
theorem v3 {nm : Str} {v : Int} (h : VNm nm v) : valV (mergeK [] [((.inr "below" : Key), V.int (-1)), (.inr "like", .int 0), (.inr "above", .int 1)]) (.inr nm) = some (.int v) := by
  rcases h with ⟨rfl, rfl⟩ | ⟨rfl, rfl⟩ | ⟨rfl, rfl⟩ <;> decide +kernel
theorem answersL_body {f fT fO fM : Addr} {fd fdT fdO fdM : FuncData} {n kk : Nat} (F : Fun K "_law_answers" "_law_answers" sAnswersL f fd) (gREC : mg "_law_answers" = some (.ref f)) (bREC : Binds K fd ["_law_comp_here", "_law_query_here", "_law_word_here"] [])
    (hk : 3 ≤ kk) (REC : FnOk P w K mg base CX0 kk f fd ["_law_comp_here", "_law_query_here", "_law_word_here"] (spAns K n)) (TE : FnOk P w K mg base CX0 2 fT fdT ["_law_comp_here", "_law_one_here", "_law_other"] (spTells K)) (FTE : Fun K "_law_tells" "_law_tells" sTellsL fT fdT) (bTE : Binds K fdT ["_law_comp_here", "_law_one_here", "_law_other"] []) (gTE : mg "_law_tells" = some (.ref fT))
    (IO : FnOk P w K mg base CX0 2 fO fdO ["_law_machine", "_law_word_here"] (spIsOf K)) (FIO : Fun K "_law_is_of" "_law_is_of" sIsOfL fO fdO) (bIO : Binds K fdO ["_law_machine", "_law_word_here"] []) (gIO : mg "_law_is_of" = some (.ref fO))
    (IM : FnOk P w K mg base CX0 3 fM fdM ["_law_line_here", "_law_word_here"] (spImage K)) (FIM : Fun K "_law_image" "_law_image" sImageL fM fdM) (bIM : Binds K fdM ["_law_line_here", "_law_word_here"] []) (gIM : mg "_law_image" = some (.ref fM)) (T : Mg mg) : FnOk P w K mg base CX0 (kk + 1) f fd ["_law_comp_here", "_law_query_here", "_law_word_here"] (spAns K (n + 1)) := by
  have FREC := F
  refine F.ok scAnswersL (fun vs H Q E h => ?_) (fun cdv A outer s H vs Q E hr h => ?_)
  · obtain ⟨B, B2, vc, vq, L, rws, vds, d, f, z, p, rfl, _⟩ := h
    rfl
  · obtain ⟨B, B2, vc, vq, L, rws, vds, d, f, z, p, rfl, hc, hd, hq, hwz, k⟩ := h
    have L1 := hc.L1
    have L3 := hc.L3
    have hu1 := hu_of hr
    have hw := wok_let hwz (Nat.le_refl _)
    refine ⟨_, (pss_cons (ps_set (i := 3) scAnswersL.nd rfl (.inl rfl) (pe_ix (r := rIxT K) ix_tup (pv 1) pe_int (fun _ _ => rfl)))
      (pss_cons (ps_if (pt_cmpR op_in_seq (pv 3) (pe_tup (pa_cons pe_str (pa_cons pe_str (pa_cons pe_str pa_nil)))) (by rfl)) (pss_one (ps_ret (pe_cmpR op_eq (pe_call TE (hr.mono (by omega)) (by rfl) gTE FTE.kp bTE .nil pass0 (pa_cons (pv 0) (pa_cons (pv 2) (pa_cons (pe_ix (r := rIxT K) ix_tup (pv 1) pe_int (fun _ _ => rfl)) pa_nil)))) (pe_dget hu1 (pe_disp (pps_cons pe_str (pe_un un_neg pe_int) (pps_cons pe_str pe_int (pps_cons pe_str pe_int pps_nil))) (by rfl) (by rfl) (fun z => by cases z) (by decide)) (pv 3) (fun _ _ => rfl)) (nomark _)))) pss_nil)
      (pss_cons (ps_if (pt_cmpR op_eq (pv 3) pe_str (nomark _)) (pss_one (ps_ret (pe_cmpR op_eq (pv 2) (pe_ix (r := rIxT K) ix_tup (pv 1) pe_int (fun _ _ => rfl)) (nomark _)))) pss_nil)
      (pss_cons (ps_if (pt_cmpR op_eq (pv 3) pe_str (nomark _)) (pss_one (ps_ret (pe_cmpR op_in_str (pe_ix (r := rIxT K) ix_tup (pv 1) pe_int (fun _ _ => rfl)) (pv 2) (by rfl)))) pss_nil)
      (pss_cons (ps_if (pt_cmpR op_eq (pv 3) pe_str (nomark _)) (pss_one (ps_ret (pe_call IO (hr.mono (by omega)) (by rfl) gIO FIO.kp bIO .nil pass0 (pa_cons (pe_ix (r := rIxT K) ix_tup (pv 1) pe_int (fun _ _ => rfl)) (pa_cons (pv 2) pa_nil))))) pss_nil)
      (pss_cons (ps_if (pt_cmpR op_eq (pv 3) pe_str (nomark _)) (pss_one (ps_ret (pe_call REC hr (by rfl) gREC FREC.kp bREC .nil pass0 (pa_cons (pv 0) (pa_cons (pe_ix (r := rIxT K) ix_tup (pv 1) pe_int (fun _ _ => rfl)) (pa_cons (pe_call IM (hr.mono (by omega)) (by rfl) gIM FIM.kp bIM .nil pass0 (pa_cons (pe_ix (r := rIxT K) ix_tup (pv 1) pe_int (fun _ _ => rfl)) (pa_cons (pv 2) pa_nil))) pa_nil)))))) pss_nil)
      (pss_cons (ps_if (pt_cmpR op_eq (pv 3) pe_str (nomark _)) (pss_one (ps_ret (pe_not (pe_call REC hr (by rfl) gREC FREC.kp bREC .nil pass0 (pa_cons (pv 0) (pa_cons (pe_ix (r := rIxT K) ix_tup (pv 1) pe_int (fun _ _ => rfl)) (pa_cons (pv 2) pa_nil))))))) pss_nil)
      (pss_cons (ps_setLc (i := 4) (own := [("_law_own", 5)]) (g := gName 5) (tt := tYes) rfl scAnswersL.nd rfl rfl (sw_true rfl rfl rfl (by decide +kernel)) (pi_tup (pe_ix (r := rIxT K) ix_tup (pv 1) pe_int (fun _ _ => rfl))) (blkOk_by (N := ["_law_comp_here", "_law_query_here", "_law_word_here", "_law_name", "_law_found", "_law_own"]) (sc := defScope sAnswersL) (by decide +kernel)) (fun _ _ _ _ _ => pg_name (i := 5) scAnswersL.nd rfl (Or.inl rfl)) (fun _ _ _ _ _ => pts_nil) (fun _ _ _ _ _ => (pe_call REC hr (by rfl) gREC FREC.kp bREC .nil pass0 (pa_cons (pv 0) (pa_cons (pv 5) (pa_cons (pv 2) pa_nil))))))
      (pss_one (ps_ret (pe_ifExp (pt_cmpR op_eq (pv 3) pe_str (nomark _)) (pe_cmpR op_notIn_seq pe_bl (pv 4) (by rfl)) (pe_cmpR op_in_seq pe_bl (pv 4) (by rfl))))))))))))), ?_⟩
    have go : ∀ {a : Addr} {nm : Str} {rest : List V}, SqT K H a (.str nm :: rest) → (nm = "is" ∨ nm = "has" ∨ nm = "of" ∨ nm = "seen" ∨ nm = "not" ∨ nm = "all" ∨ nm = "some") → ∀ T0 : Addr, H T0 = none → Same H (upd H T0 (.tup [.str "below", .str "above", .str "like"])) := fun _ _ T0 n0 => same_new n0
    cases hq with
    | rel hn hww =>
      rename_i nm ww v
      obtain ⟨a, vy, rfl, nb, hs, hy⟩ := dt2s hd
      cases hy
      have hww := wok_let hww (by decide)
      refine ⟨_, rfl, a, _, 0, _, rfl, rfl, hs, atI_nat (j := 0) rfl, ?_⟩
      refine ⟨_, rfl, by show 3 ≤ sizeLine; decide, fun T0 n0 => ?_⟩
      have s0 := same_new (o := .tup [.str "below", .str "above", .str "like"]) n0
      refine ⟨T0, _, rfl, .inr (SqT.of upd_same), rfl, rfl, ?_⟩
      rw [show (if false = true then !inV (.str nm) [.str "below", .str "above", .str "like"] else inV (.str nm) [.str "below", .str "above", .str "like"]) = true from in3 hn]
      refine ⟨_, rfl, ite2 (fun _ => ?_) (fun q => absurd rfl q)⟩
      refine ⟨_, rfl, _, rfl, _, rfl, a, _, 1, _, rfl, rfl, same_seqT s0 hs, atI_nat (j := 1) rfl, B, vc, z, ww, L, rws, vds, rfl, hc.keep (Keep.same s0), hw.1, hww.1, hw.2, hww.2, fun H1 s1 => ?_⟩
      refine fun pd npd => ⟨_, rfl, upd_same, [(.inr "below", .int (-1)), (.inr "like", .int 0), (.inr "above", .int 1)], rfl, by decide, _, rfl, pd, .int v, rfl, .inl ⟨_, .inr nm, .inl upd_same, rfl, (v3 hn).symm⟩, rfl, ?_⟩
      have s2 : Same H1 (upd (upd H1 pd (.dK [])) pd (.dK (mergeK [] [((.inr "below" : Key), V.int (-1)), (.inr "like", .int 0), (.inr "above", .int 1)]))) := fun b o q => by
        have ne := ne_of_none q npd
        rw [upd_ne ne, upd_ne ne]
        exact q
      exact k _ (s0.trans (s1.trans s2))
    | is hww =>
      rename_i ww
      obtain ⟨a, vy, rfl, nb, hs, hy⟩ := dt2s hd
      cases hy
      refine ⟨_, rfl, a, _, 0, _, rfl, rfl, hs, atI_nat (j := 0) rfl, ?_⟩
      refine ⟨_, rfl, by show 3 ≤ sizeLine; decide, fun T0 n0 => ?_⟩
      have s0 := same_new (o := .tup [.str "below", .str "above", .str "like"]) n0
      refine ⟨T0, _, rfl, .inr (SqT.of upd_same), rfl, rfl, _, rfl, ite2 (fun q => absurd (show inV (.str "is") [.str "below", .str "above", .str "like"] = true from q) (by decide +kernel)) (fun _ => ?_)⟩
      have hs := same_seqT s0 hs
      refine ⟨_, rfl, rfl, _, rfl, if_is ?_⟩
      exact ⟨_, rfl, _, rfl, a, _, 1, _, rfl, rfl, hs, atI_nat (j := 1) rfl, rfl, k _ s0⟩
    | has hww =>
      rename_i ww
      obtain ⟨a, vy, rfl, nb, hs, hy⟩ := dt2s hd
      cases hy
      refine ⟨_, rfl, a, _, 0, _, rfl, rfl, hs, atI_nat (j := 0) rfl, ?_⟩
      refine ⟨_, rfl, by show 3 ≤ sizeLine; decide, fun T0 n0 => ?_⟩
      have s0 := same_new (o := .tup [.str "below", .str "above", .str "like"]) n0
      refine ⟨T0, _, rfl, .inr (SqT.of upd_same), rfl, rfl, _, rfl, ite2 (fun q => absurd (show inV (.str "has") [.str "below", .str "above", .str "like"] = true from q) (by decide +kernel)) (fun _ => ?_)⟩
      have hs := same_seqT s0 hs
      refine ⟨_, rfl, rfl, _, rfl, if_not (by decide +kernel) ?_⟩
      refine ⟨_, rfl, rfl, _, rfl, if_is ?_⟩
      exact ⟨_, rfl, a, _, 1, _, rfl, rfl, hs, atI_nat (j := 1) rfl, _, rfl, ww, z, rfl, rfl, k _ s0⟩
    | of M =>
      rename_i rs es2
      obtain ⟨a, vy, rfl, nb, hs, hy⟩ := dt2s hd
      refine ⟨_, rfl, a, _, 0, _, rfl, rfl, hs, atI_nat (j := 0) rfl, ?_⟩
      refine ⟨_, rfl, by show 3 ≤ sizeLine; decide, fun T0 n0 => ?_⟩
      have s0 := same_new (o := .tup [.str "below", .str "above", .str "like"]) n0
      refine ⟨T0, _, rfl, .inr (SqT.of upd_same), rfl, rfl, _, rfl, ite2 (fun q => absurd (show inV (.str "of") [.str "below", .str "above", .str "like"] = true from q) (by decide +kernel)) (fun _ => ?_)⟩
      have hs := same_seqT s0 hs
      refine ⟨_, rfl, rfl, _, rfl, if_not (by decide +kernel) ?_⟩
      refine ⟨_, rfl, rfl, _, rfl, if_not (by decide +kernel) ?_⟩
      refine ⟨_, rfl, rfl, _, rfl, if_is ?_⟩
      refine ⟨_, rfl, a, _, 1, _, rfl, rfl, hs, atI_nat (j := 1) rfl, _, rfl, B2, vy, L.toNat, rs, es2, z, rfl, same_dt s0 hy, M, ⟨hwz.1, ?_⟩, fun H' s' => k H' (s0.trans s')⟩
      rw [Int.toNat_of_nonneg (by omega)]
      exact hw.1
    | seen hss hp hq2 =>
      rename_i ss q2 f2
      obtain ⟨a, vy, vy2, rfl, nb, hs, hy, hy2⟩ := dt3s hd
      refine ⟨_, rfl, a, _, 0, _, rfl, rfl, hs, atI_nat (j := 0) rfl, ?_⟩
      refine ⟨_, rfl, by show 3 ≤ sizeLine; decide, fun T0 n0 => ?_⟩
      have s0 := same_new (o := .tup [.str "below", .str "above", .str "like"]) n0
      refine ⟨T0, _, rfl, .inr (SqT.of upd_same), rfl, rfl, _, rfl, ite2 (fun q => absurd (show inV (.str "seen") [.str "below", .str "above", .str "like"] = true from q) (by decide +kernel)) (fun _ => ?_)⟩
      have hs := same_seqT s0 hs
      refine ⟨_, rfl, rfl, _, rfl, if_not (by decide +kernel) ?_⟩
      refine ⟨_, rfl, rfl, _, rfl, if_not (by decide +kernel) ?_⟩
      refine ⟨_, rfl, rfl, _, rfl, if_not (by decide +kernel) ?_⟩
      refine ⟨_, rfl, rfl, _, rfl, if_is ?_⟩
      refine ⟨_, rfl, _, rfl, a, _, 2, _, rfl, rfl, hs, atI_nat (j := 2) rfl, _, rfl, a, _, 1, _, rfl, rfl, hs, atI_nat (j := 1) rfl, _, rfl, B2, vy, ss, z, L, rfl, same_dt s0 hy, hss, L1, L3, hwz, fun H1 s1 => ?_⟩
      exact ⟨B, B2, vc, vy2, L, rws, vds, q2, f2, _, p, rfl, hc.keep (Keep.same (s0.trans s1)), same_dt (s0.trans s1) hy2, hq2, img_ok L1 L3 hss hwz, fun H2 s2 => k H2 ((s0.trans s1).trans s2)⟩
    | no hq2 =>
      rename_i q2 f2
      obtain ⟨a, vy, rfl, nb, hs, hy⟩ := dt2s hd
      refine ⟨_, rfl, a, _, 0, _, rfl, rfl, hs, atI_nat (j := 0) rfl, ?_⟩
      refine ⟨_, rfl, by show 3 ≤ sizeLine; decide, fun T0 n0 => ?_⟩
      have s0 := same_new (o := .tup [.str "below", .str "above", .str "like"]) n0
      refine ⟨T0, _, rfl, .inr (SqT.of upd_same), rfl, rfl, _, rfl, ite2 (fun q => absurd (show inV (.str "not") [.str "below", .str "above", .str "like"] = true from q) (by decide +kernel)) (fun _ => ?_)⟩
      have hs := same_seqT s0 hs
      refine ⟨_, rfl, rfl, _, rfl, if_not (by decide +kernel) ?_⟩
      refine ⟨_, rfl, rfl, _, rfl, if_not (by decide +kernel) ?_⟩
      refine ⟨_, rfl, rfl, _, rfl, if_not (by decide +kernel) ?_⟩
      refine ⟨_, rfl, rfl, _, rfl, if_not (by decide +kernel) ?_⟩
      refine ⟨_, rfl, rfl, _, rfl, if_is ?_⟩
      exact ⟨_, rfl, _, rfl, a, _, 1, _, rfl, rfl, hs, atI_nat (j := 1) rfl, _, rfl, B, B2, vc, vy, L, rws, vds, q2, f2, z, p, rfl, hc.keep (Keep.same s0), same_dt s0 hy, hq2, hwz, fun H2 s2 => ⟨_, rfl, k H2 (s0.trans s2)⟩⟩
    | lot hn hl hqs =>
      rename_i nm b qs fs
      obtain ⟨a, vy, rfl, nb, hs, hy⟩ := dt2s hd
      obtain ⟨n1, n2, n3, n4, n5⟩ := lot_nn hn
      have hns : inV (.str nm) [.str "below", .str "above", .str "like"] = false := in3_not (by
        rcases hn with ⟨rfl, _⟩ | ⟨rfl, _⟩
        · exact .inr (.inr (.inr (.inr (.inr (.inl rfl)))))
        · exact .inr (.inr (.inr (.inr (.inr (.inr rfl))))))
      refine ⟨_, rfl, a, _, 0, _, rfl, rfl, hs, atI_nat (j := 0) rfl, ?_⟩
      refine ⟨_, rfl, by show 3 ≤ sizeLine; decide, fun T0 n0 => ?_⟩
      have s0 := same_new (o := .tup [.str "below", .str "above", .str "like"]) n0
      refine ⟨T0, _, rfl, .inr (SqT.of upd_same), rfl, rfl, _, rfl, ite2 (fun q => ?_) (fun _ => ?_)⟩
      · have q : inV (.str nm) [.str "below", .str "above", .str "like"] = true := q
        rw [hns] at q
        cases q
      have hs := same_seqT s0 hs
      have hc := hc.keep (Keep.same s0)
      have hy := same_dt s0 hy
      refine ⟨_, rfl, rfl, _, rfl, if_not n1 ?_⟩
      refine ⟨_, rfl, rfl, _, rfl, if_not n2 ?_⟩
      refine ⟨_, rfl, rfl, _, rfl, if_not n3 ?_⟩
      refine ⟨_, rfl, rfl, _, rfl, if_not n4 ?_⟩
      refine ⟨_, rfl, rfl, _, rfl, if_not n5 ?_⟩
      obtain ⟨pq, qvs, rfl, nbq, hqs2, haq, hlq⟩ := hy.tup_ref
      have k : ∀ H', Same (upd H T0 (.tup [.str "below", .str "above", .str "like"])) H' → _ := fun H' s' => k H' (s0.trans s')
      generalize upd H T0 (.tup [.str "below", .str "above", .str "like"]) = G at *
      refine ⟨_, rfl, a, _, 1, _, rfl, rfl, hs, atI_nat (j := 1) rfl, pq, rfl, ⟨qvs, hqs2⟩, fun D hD => ?_⟩
      refine lc_tup (K := K) (a := pq) (xs := qvs) (NInv (fun i => V.bl (fs i z)) (List.range qs.length) G D) (nstart hD) (fun i H' _ q => same_seqT q.1 hqs2) ?_ ?_
      · rintro i y H1 hy1 p1
        obtain ⟨d1, hd1, hdt⟩ := haq.getV hy1
        have hi := (List.getElem?_eq_some_iff.mp hd1).1
        refine ⟨rfl, _, rfl, _, rfl, _, rfl, B, B2, vc, y, L, rws, vds, d1, fs i, z, p, rfl, hc.keep (Keep.same p1.1), same_dt p1.1 hdt, hqs i d1 hd1, hwz, fun H2 s2 => ?_⟩
        exact nturn (f := fun i => V.bl (fs i z)) (by rw [List.length_range]; exact Nat.lt_of_le_of_lt hl (by decide)) hD (range_at hi) p1 s2
      · rintro H1 p1
        obtain ⟨sm, hl1⟩ := nend (by rw [List.length_range]; exact hlq) p1
        have hS : SqL K H1 D (((List.range qs.length).map fun i => fs i z).map V.bl) := by
          rw [List.map_map]
          exact SqL.of hl1
        have res := k H1 sm
        rcases hn with ⟨rfl, rfl⟩ | ⟨rfl, rfl⟩
        · refine ⟨_, rfl, rfl, _, rfl, if_is ⟨_, rfl, D, _, rfl, .inl hS, rfl, flat_bl, ?_⟩⟩
          show Q (.bl (!inV (.bl false) _)) _
          rw [inV_not_bl]
          exact res
        · refine ⟨_, rfl, rfl, _, rfl, if_not (by decide +kernel) ⟨_, rfl, D, _, rfl, .inl hS, rfl, flat_bl, ?_⟩⟩
          show Q (.bl (inV (.bl true) _)) _
          rw [inV_bl]
          exact res
theorem ok_answersL {f fT fO fM : Addr} {fd fdT fdO fdM : FuncData} (F : Fun K "_law_answers" "_law_answers" sAnswersL f fd) (gREC : mg "_law_answers" = some (.ref f)) (bREC : Binds K fd ["_law_comp_here", "_law_query_here", "_law_word_here"] [])
    (TE : FnOk P w K mg base CX0 2 fT fdT ["_law_comp_here", "_law_one_here", "_law_other"] (spTells K)) (FTE : Fun K "_law_tells" "_law_tells" sTellsL fT fdT) (bTE : Binds K fdT ["_law_comp_here", "_law_one_here", "_law_other"] []) (gTE : mg "_law_tells" = some (.ref fT))
    (IO : FnOk P w K mg base CX0 2 fO fdO ["_law_machine", "_law_word_here"] (spIsOf K)) (FIO : Fun K "_law_is_of" "_law_is_of" sIsOfL fO fdO) (bIO : Binds K fdO ["_law_machine", "_law_word_here"] []) (gIO : mg "_law_is_of" = some (.ref fO))
    (IM : FnOk P w K mg base CX0 3 fM fdM ["_law_line_here", "_law_word_here"] (spImage K)) (FIM : Fun K "_law_image" "_law_image" sImageL fM fdM) (bIM : Binds K fdM ["_law_line_here", "_law_word_here"] []) (gIM : mg "_law_image" = some (.ref fM)) (T : Mg mg) : ∀ n : Nat, FnOk P w K mg base CX0 (3 + n) f fd ["_law_comp_here", "_law_query_here", "_law_word_here"] (spAns K n)
  | 0 => by
    have no : ∀ {vs : List V} {H : Hp} {Q : VK} {E : XK}, spAns K 0 vs H Q E → False := fun h => by
      obtain ⟨_, _, _, _, _, _, _, _, _, _, _, _, _, _, hq, _⟩ := h
      cases hq
    exact ⟨fun _ _ _ _ h => (no h).elim, fun _ _ _ _ _ _ _ _ _ _ _ _ _ h => (no h).elim⟩
  | n + 1 => answersL_body F gREC bREC (Nat.le_add_right 3 n) (ok_answersL F gREC bREC TE FTE bTE gTE IO FIO bIO gIO IM FIM bIM gIM T n) TE FTE bTE gTE IO FIO bIO gIO IM FIM bIM gIM T
end
/-! ### data in a written tuple of texts -/
section
variable {X : Cx} {A : Around} {s : Shared}
theorem eq_str_dict {l : Addr} {es : Array DictEntry} {n : Nat} {y : Option Addr} {sl : Array (Option Value)} (b : Str) (u : Tok) (ho : s.heap.get? l = some { cls := .type "dict", dict := y, data := .dict es n, slots := sl }) (hu : A.units < cLine) : SeqAt.EqAt A s (.str b u) (.ref l) false := fun prog w E Q h => by
  unfold eqBool
  refine wpAny_holding ?_
  refine wpAny_ite_split (fun hab => absurd (eq_of_beq hab) nofun) (fun _ => ?_)
  refine wpAny_bind ?_
  exact SeqAt.rc_eq_decline_or (k := false) (typeIs_str s b u) ⟨_, ho, rfl⟩ (by decide) F.sub_dict_str F.slot_str_eq F.slot_dict_eq_refl
    (fun _ hq => call_meets F.slot_str_eq (typeIs_str s b u) F.entry_str_eq (F.args_str_eq_2 _ _) (str_eq_no b u l es n y sl) ⟨ho, hq⟩)
    (fun _ hq => call_meets F.slot_dict_eq_refl ⟨_, ho, rfl⟩ F.entry_dict_eq (F.args_dict_eq_2 _ _) (dct_eq_no l es n y sl b u) ⟨ho, hq⟩)
    (fun _ hq => wpAny_of_eq (rfl : isSame (.str b u) (.ref l) = pure false) hq) (.inr hu) (wpAny_truthy_bool h)
def strU (d : PyData) (u : Value) : Bool := match u with
  | .str z _ => strIs d z
  | _ => false
theorem eq_strs {B : Addr → Prop} {pins : List (Addr × Obj)} {σ : L2.St} {H : Hp} {x : V} {v : Value} {d : PyData} (I : Inv X pins σ H s) (hu : A.units < cLine) (hd : Dt B X.K H x d) (rx : RelV x v) : ∀ {zs : List Str} {us : List Value}, Vals (zs.map V.str) us → ∀ u ∈ us, SeqAt.EqAt A s u v (strU d u)
  | [], _, .nil => fun u hu => by cases hu
  | z :: zs, u :: us, .cons r t => fun u' hu' => by
    rcases List.mem_cons.mp hu' with rfl | hu'
    · obtain ⟨tk, rfl⟩ := r
      cases hd with
      | non =>
        cases rx
        exact SeqAt.EqAt.str_none z tk
      | bl b =>
        cases rx
        exact SeqAt.EqAt.str_bool z tk b
      | int i =>
        obtain ⟨t2, rfl⟩ := rx
        exact SeqAt.EqAt.str_int z tk i t2
      | str y =>
        obtain ⟨t2, rfl⟩ := rx
        have e : strU (.str y) (.str z tk) = (z == y) := by
          show decide (y = z) = (z == y)
          by_cases q : y = z
          · rw [q, decide_eq_true rfl, beq_self_eq_true]
          · rw [decide_eq_false q]
            exact (beq_eq_false_iff_ne.mpr (fun e => q e.symm)).symm
        rw [e]
        exact SeqAt.EqAt.str_str z tk y t2
      | lst nb ne hs ha =>
        cases rx
        obtain ⟨its, rv, pl, _⟩ := I.list (.inl hs)
        exact SeqAt.EqAt.str_list z tk pl.isList hu
      | tup nb hs ha =>
        cases rx
        obtain ⟨its, rv, pl, _⟩ := I.tuple (.inl hs)
        exact SeqAt.EqAt.str_tuple z tk pl hu
      | emp nb e =>
        cases rx
        obtain ⟨_, hm, vs, rel, ob, es, ep, ho, hx, hd, _, hp, _⟩ := dk_of I.hok e
        obtain ⟨cls, dd, data, sl⟩ := ob
        have h1 := hx.1
        simp only at h1 hd
        subst h1 hd
        exact eq_str_dict z tk ho hu
    · exact eq_strs I hu hd rx t u' hu'
theorem any_strU {d : PyData} : ∀ {zs : List Str} {us : List Value}, Vals (zs.map V.str) us → us.any (strU d) = inS d zs
  | [], _, .nil => rfl
  | z :: zs, u :: us, .cons r t => by
    obtain ⟨tk, rfl⟩ := r
    show (strIs d z || us.any (strU d)) = (strIs d z || zs.any fun z => strIs d z)
    rw [any_strU t]
    rfl
def rInStr (K : PySem.W.Frag) (neg : Bool) : R2 := fun x y H Q => ∃ (B : Addr → Prop) (d : PyData) (p : Addr) (zs : List Str), y = .ref p ∧ Dt B K H x d ∧ SqT K H p (zs.map V.str) ∧ Q (.bl (if neg = true then !(inS d zs) else inS d zs)) H
theorem op_inStr (hu : X.A.units + 1 < cLine) : OpR X (compareOp .In) (rInStr X.K false) := by
  intro pins s σ H x y v u Q I rx ry h
  obtain ⟨B, d, p, zs, rfl, hd, hq, q⟩ := h
  cases ry
  obtain ⟨its, r, pl, hz⟩ := I.tuple hq
  refine SeqAt.in_tupleAt (strU d) pl (fun w hw => eq_strs I hu hd rx r w (by simpa using hw)) ⟨.bl _, H, I, rfl, ?_⟩
  rw [show its.toArray.any (strU d) = its.any (strU d) by simp, any_strU r]
  exact q
theorem op_notInStr (hu : X.A.units + 1 < cLine) : OpR X (compareOp .NotIn) (rInStr X.K true) := by
  intro pins s σ H x y v u Q I rx ry h
  obtain ⟨B, d, p, zs, rfl, hd, hq, q⟩ := h
  cases ry
  obtain ⟨its, r, pl, hz⟩ := I.tuple hq
  refine SeqAt.notIn_tupleAt (strU d) pl (fun w hw => eq_strs I hu hd rx r w (by simpa using hw)) ⟨.bl _, H, I, rfl, ?_⟩
  rw [show its.toArray.any (strU d) = its.any (strU d) by simp, any_strU r]
  exact q
/-- data that is not a text, by != -/
def rNeStr (K : PySem.W.Frag) : R2 := fun x y H Q => ∃ z z2 : Str, x = .str z2 ∧ y = .str z ∧ Q (.bl (!(strIs (.str z2) z))) H
theorem op_neStrS : OpR X (compareOp .NotEq) (rNeStr X.K) := by
  intro pins s σ H x y v u Q I rx ry h
  obtain ⟨z, z2, rfl, rfl, q⟩ := h
  refine op_ne pins s σ H _ _ v u Q I rx ry ⟨rfl, ?_⟩
  have e : decide (V.str z2 = V.str z) = decide (z2 = z) := by
    by_cases e : z2 = z
    · rw [decide_eq_true e, decide_eq_true (by rw [e])]
    · rw [decide_eq_false e, decide_eq_false (fun h => e (V.str.inj h))]
  rw [e]
  exact q
end
section
variable {P : Program} {w : World} {K : PySem.W.Frag} {mg : Str → Option Value} {base : Heap}
theorem scQuery : FnScope ["letters", "value", "depth", "name", "held", "query"] ["letters", "value", "depth"] (defScope sQuery) := ⟨rfl, rfl, rfl, by decide +kernel, rfl, by decide +kernel, by decide +kernel⟩
def spQuery (K : PySem.W.Frag) (n : Nat) : Sp := fun vs H Q _ => ∃ (B : Addr → Prop) (x : V) (d : PyData) (L : Int), vs = [.int L, x, .int (n : Int)] ∧ Dt B K H x d ∧ nodes d ≤ 100000 ∧ 1 ≤ L ∧ L ≤ 3 ∧ ∀ H', Same H H' → Q (.bl (isQ L (fullLine L) n d)) H'
def lotQ (rec : PyData → Bool) (y : PyData) : Bool := match y with
  | .tuple ds => decide (ds.length ≤ 4) && ds.all rec
  | _ => false
theorem heldQ_eq {L : Int} {rec : PyData → Bool} {x y : PyData} : heldQ L rec x y = (if inS x ["below", "above", "like", "is"] = true then wordD L 20 y
  else if strIs x "has" = true then wordD L 4 y && !(strIs y "")
  else if strIs x "of" = true then kindD L y
  else if strIs x "not" = true then rec y
  else if inS x ["all", "some"] = true then lotQ rec y
  else false) := by
  cases y <;> rfl
theorem strIs_not {d : PyData} {z : Str} (h : ¬ strIs d z = true) : strIs d z = false := by
  cases e : strIs d z
  · rfl
  · exact absurd e h
theorem bool_not {b : Bool} (h : ¬ b = true) : b = false := by
  cases b
  · rfl
  · exact absurd rfl h
theorem err_non {B : Addr → Prop} {H : Hp} {v : V} {o : Option (Option Nat × Str)} (h : Dt B K H v (errE o)) : decide (v = .non) = o.isNone := by
  rcases o with _ | ⟨_ | _, _⟩
  · cases h
    rfl
  · obtain ⟨_, _, rfl, _⟩ := Dt.tup_ref h
    rfl
  · obtain ⟨_, _, rfl, _⟩ := Dt.tup_ref h
    rfl
theorem merr_none {d : PyData} (h : merr d = none) : ∃ (L : Int) (rs : List PyData) (e : PyData), d = .tuple [.int L, .tuple rs, e] := by
  match d, h with
  | .tuple [l, r, e], h =>
    have h : merr3 l r e = none := h
    unfold merr3 at h
    by_cases q : numD l 1 3 = true
    · rw [if_pos q] at h
      obtain ⟨L, rfl⟩ : ∃ L, l = .int L := by
        cases l with
        | int L => exact ⟨L, rfl⟩
        | _ => cases q
      cases r with
      | tuple rs => exact ⟨L, rs, e, rfl⟩
      | none => cases h
      | bool _ => cases h
      | int _ => cases h
      | str _ => cases h
      | list _ => cases h
      | dict _ => cases h
    · rw [if_neg q] at h
      cases h
theorem optV_non (o : Option Str) : decide (optV o = V.non) = decide (o = none) := by
  cases o with
  | none => rfl
  | some z =>
    show decide (V.str z = V.non) = _
    rfl
theorem query_body {f fL fW fM : Addr} {fd fdL fdW fdM : FuncData} {n kk : Nat} {sp : Sp} (F : Fun K "is_query" "is_query" sQuery f fd) (gREC : mg "is_query" = some (.ref f)) (bREC : Binds K fd ["letters", "value", "depth"] [])
    (hk : 5 ≤ kk) (REC : FnOk P w K mg base CX0 kk f fd ["letters", "value", "depth"] sp) (hsp : ∀ m, n = m + 1 → sp = spQuery K m) (LE : FnOk P w K mg base CX0 5 fL fdL ["letters", "value"] (spLErr K)) (FLE : Fun K "line_error" "line_error" sLErr fL fdL) (bLE : Binds K fdL ["letters", "value"] []) (gLE : mg "line_error" = some (.ref fL))
    (W : FnOk P w K mg base CX0 1 fW fdW ["value", "letters", "most"] (spWord K)) (FW : Fun K "is_word" "is_word" sWord fW fdW) (bW : Binds K fdW ["value", "letters", "most"] []) (gW : mg "is_word" = some (.ref fW))
    (ME : FnOk P w K mg base CX0 4 fM fdM ["value"] (spErr K)) (FME : Fun K "machine_error" "machine_error" sErr fM fdM) (bME : Binds K fdM ["value"] []) (gME : mg "machine_error" = some (.ref fM)) (T : Mg mg) : FnOk P w K mg base CX0 (kk + 1) f fd ["letters", "value", "depth"] (spQuery K n) := by
  have FREC := F
  refine F.ok scQuery (fun vs H Q E h => ?_) (fun cdv A outer s H vs Q E hr h => ?_)
  · obtain ⟨B, x, d, L, rfl, _⟩ := h
    rfl
  · obtain ⟨B, x, d, L, rfl, hd, hn, L1, L3, k⟩ := h
    have hu1 := hu_of hr
    have hu0 := hr.units0
    obtain ⟨tA, mA⟩ := T.masked
    obtain ⟨tP, mP⟩ := T.mlong
    obtain ⟨tS, mS⟩ := T.mstates
    obtain ⟨tM, mM⟩ := T.mmany
    refine ⟨_, (pss_cons (ps_if (PW.pt (pw_or (pt_cmpR op_lt (pv 2) pe_int (nomark _)) (pw_or (pt_not (pt_val (pe_callB (r := rIsi K) call_isi (by rfl) T.isi PyProof.Rows.boot_isinstance (pa_cons (pv 1) (pa_cons (pe_bltn (v := .ty "tuple") (by rfl) T.tuple PyProof.Rows.boot_tuple rfl) pa_nil))))) (pw_or1 (pt_cmpR op_lt (pe_callB (r := rLen K) call_len_seq (by rfl) T.len PySem.boot_len (pa_cons (pv 1) pa_nil)) pe_int (nomark _)))))) (pss_one (ps_ret pe_bl)) pss_nil)
      (pss_cons (ps_set (i := 3) scQuery.nd rfl (.inl rfl) (pe_ix (r := rIxT K) ix_tup (pv 1) pe_int (fun _ _ => rfl)))
      (pss_cons (ps_if (pt_cmpR (op_eqStr hu0) (pv 3) pe_str (nomark _)) (pss_one (ps_ret (pe_and (pe_cmpR op_eq (pe_callB (r := rLen K) call_len_seq (by rfl) T.len PySem.boot_len (pa_cons (pv 1) pa_nil)) pe_int (nomark _)) (pe_and (pe_cmp (pc_isN (pe_call LE (hr.mono (by omega)) (by rfl) gLE FLE.kp bLE .nil pass0 (pa_cons (pv 0) (pa_cons (pe_ix (r := rIxT K) ix_tup (pv 1) pe_int (fun _ _ => rfl)) pa_nil))))) (pe_one (pe_call REC hr (by rfl) gREC FREC.kp bREC .nil pass0 (pa_cons (pv 0) (pa_cons (pe_ix (r := rIxT K) ix_tup (pv 1) pe_int (fun _ _ => rfl)) (pa_cons (pe_op op_sub (pv 2) pe_int) pa_nil))))))))) pss_nil)
      (pss_cons (ps_if (pt_cmpR op_ne (pe_callB (r := rLen K) call_len_seq (by rfl) T.len PySem.boot_len (pa_cons (pv 1) pa_nil)) pe_int (nomark _)) (pss_one (ps_ret pe_bl)) pss_nil)
      (pss_cons (ps_set (i := 4) scQuery.nd rfl (.inl rfl) (pe_ix (r := rIxT K) ix_tup (pv 1) pe_int (fun _ _ => rfl)))
      (pss_cons (ps_if (pt_cmpR (op_inStr hu1) (pv 3) (pe_tup (pa_cons pe_str (pa_cons pe_str (pa_cons pe_str (pa_cons pe_str pa_nil))))) (by rfl)) (pss_one (ps_ret (pe_call W (hr.mono (by omega)) (by rfl) gW FW.kp bW .nil pass0 (pa_cons (pv 4) (pa_cons (pv 0) (pa_cons (pe_glob (v := .int 20) (by rfl) mA ⟨_, rfl⟩) pa_nil)))))) pss_nil)
      (pss_cons (ps_if (pt_cmpR (op_eqStr hu0) (pv 3) pe_str (nomark _)) (pss_one (ps_ret (pe_and (pe_call W (hr.mono (by omega)) (by rfl) gW FW.kp bW .nil pass0 (pa_cons (pv 4) (pa_cons (pv 0) (pa_cons (pe_glob (v := .int 4) (by rfl) mP ⟨_, rfl⟩) pa_nil)))) (pe_one (pe_cmpR op_ne (pv 4) pe_str (nomark _)))))) pss_nil)
      (pss_cons (ps_if (pt_cmpR (op_eqStr hu0) (pv 3) pe_str (nomark _)) (pss_one (ps_ret (pe_and (pe_cmp (pc_isN (pe_call ME (hr.mono (by omega)) (by rfl) gME FME.kp bME .nil pass0 (pa_cons (pv 4) pa_nil)))) (pe_and (pe_cmpR op_eq (pe_ix (r := rIxT K) ix_tup (pv 4) pe_int (fun _ _ => rfl)) (pv 0) (nomark _)) (pe_one (pe_cmpR op_le (pe_callB (r := rLen K) call_len_seq (by rfl) T.len PySem.boot_len (pa_cons (pe_ix (r := rIxT K) ix_tup (pv 4) pe_int (fun _ _ => rfl)) pa_nil)) (pe_glob (v := .int 6) (by rfl) mS ⟨_, rfl⟩) (nomark _))))))) pss_nil)
      (pss_cons (ps_if (pt_cmpR (op_eqStr hu0) (pv 3) pe_str (nomark _)) (pss_one (ps_ret (pe_call REC hr (by rfl) gREC FREC.kp bREC .nil pass0 (pa_cons (pv 0) (pa_cons (pv 4) (pa_cons (pe_op op_sub (pv 2) pe_int) pa_nil)))))) pss_nil)
      (pss_cons (ps_if (PW.pt (pw_or (pt_cmpR (op_notInStr hu1) (pv 3) (pe_tup (pa_cons pe_str (pa_cons pe_str pa_nil))) (by rfl)) (pw_or (pt_not (pt_val (pe_callB (r := rIsi K) call_isi (by rfl) T.isi PyProof.Rows.boot_isinstance (pa_cons (pv 4) (pa_cons (pe_bltn (v := .ty "tuple") (by rfl) T.tuple PyProof.Rows.boot_tuple rfl) pa_nil))))) (pw_or1 (pt_cmpR op_gt (pe_callB (r := rLen K) call_len_seq (by rfl) T.len PySem.boot_len (pa_cons (pv 4) pa_nil)) (pe_glob (v := .int 4) (by rfl) mM ⟨_, rfl⟩) (nomark _)))))) (pss_one (ps_ret pe_bl)) pss_nil)
      (pss_one (ps_ret (pe_callB (r := rAll K) (cr_all rfl) (by rfl) T.all (by decide +kernel) (pa_cons (pe_lc (own := [("query", 5)]) (g := gName 5) (tt := tYes) rfl scQuery.nd (pi_tup (pv 4)) (blkOk_by (N := ["letters", "value", "depth", "name", "held", "query"]) (sc := defScope sQuery) (by decide +kernel)) (fun _ _ _ _ _ => pg_name (i := 5) scQuery.nd rfl (Or.inl rfl)) (fun _ _ _ _ _ => pts_nil) (fun _ _ _ _ _ => (pe_call REC hr (by rfl) gREC FREC.kp bREC .nil pass0 (pa_cons (pv 0) (pa_cons (pv 5) (pa_cons (pe_op op_sub (pv 2) pe_int) pa_nil)))))) pa_nil)))))))))))))), ?_⟩
    refine ⟨_, rfl, _, _, rfl, rfl, _, rfl, ite2 (fun h0 => ?_) (fun h0 => ?_)⟩
    · have h0 := of_decide_eq_true h0
      obtain rfl : n = 0 := by omega
      exact k H (Same.refl H)
    have h0 : ¬ ((n : Int) < 1) := fun q => h0 (decide_eq_true q)
    obtain ⟨m, rfl⟩ : ∃ m, n = m + 1 := ⟨n - 1, by omega⟩
    have esp := hsp m rfl
    subst esp
    refine ⟨x, rfl, x, .ty "tuple", _, _, _, rfl, .ty _, tyD hd, kitT d, _, rfl, ?_⟩
    cases d with
    | none => exact k H (Same.refl H)
    | bool _ => exact k H (Same.refl H)
    | int _ => exact k H (Same.refl H)
    | str _ => exact k H (Same.refl H)
    | list _ => exact k H (Same.refl H)
    | dict _ => exact k H (Same.refl H)
    | tuple ds =>
      obtain ⟨a, xs, rfl, nb, hs, ha, hl⟩ := hd.tup_ref
      refine ⟨.ref a, rfl, a, xs, rfl, .inr hs, _, 2, rfl, rfl, _, rfl, ite2 (fun h1 => ?_) (fun h1 => ?_)⟩
      · have h1 := of_decide_eq_true h1
        have e : isQ L (fullLine L) (m + 1) (.tuple ds) = false := by
          match ds, hl with
          | [], _ => rfl
          | [_], _ => rfl
          | _ :: _ :: _, hl =>
            rw [List.length_cons, List.length_cons] at hl
            omega
        rw [e] at k
        exact k H (Same.refl H)
      have h1 : ¬ ((xs.length : Int) < 2) := fun q => h1 (decide_eq_true q)
      match ds, ha, hl, hn, k, hd with
      | [], _, hl, _, _, _ => exact absurd (show (xs.length : Int) < 2 by rw [hl]; decide) h1
      | [_], _, hl, _, _, _ => exact absurd (show (xs.length : Int) < 2 by rw [hl, List.length_singleton]; decide) h1
      | x :: y :: rest, ha, hl, hn, k, hd =>
        cases ha with | cons hx ha => cases ha with | cons hy ha =>
        rename_i vx vy vs _ _ _
        have hlr := ha.len
        rw [nodes_tup, nodesAll_cons, nodesAll_cons] at hn
        have kk : ∀ (H' : Hp) (b : Bool), Same H H' → isQ L (fullLine L) (m + 1) (.tuple (x :: y :: rest)) = b → Q (.bl b) H' := fun H' b sm e => by
          rw [← e]
          exact k H' sm
        refine ⟨_, rfl, a, _, 0, _, rfl, rfl, hs, atI_nat (j := 0) rfl, ?_⟩
        refine ⟨_, rfl, B, x, "seen", rfl, hx, _, rfl, ite2 (fun h2 => ?_) (fun h2 => ?_)⟩
        · refine ⟨_, rfl, a, _, rfl, .inr hs, rfl, _, rfl, ite2 (fun h3 => ?_) (fun h3 => ?_)⟩
          · have h3 : rest.length = 1 := by
              have := V.int.inj (of_decide_eq_true h3)
              rw [List.length_cons, List.length_cons] at this
              omega
            match rest, h3, ha, kk, hn with
            | [z], _, ha, kk, hn =>
              cases ha with | cons hz ha =>
              cases ha
              rw [nodesAll_cons] at hn
              have eq : isQ L (fullLine L) (m + 1) (.tuple [x, y, z]) = (fullLine L y && isQ L (fullLine L) m z) := by
                show (if strIs x "seen" = true then _ else _) = _
                rw [if_pos h2]
              refine ⟨_, rfl, _, rfl, a, _, 1, _, rfl, rfl, hs, atI_nat (j := 1) rfl, B, _, y, L, rfl, hy, by omega, L1, L3, fun H1 v1 s1 dv => ⟨_, rfl, ?_⟩⟩
              rw [err_non dv]
              refine ite2 (fun h4 => ?_) (fun h4 => ?_)
              · have h4 : fullLine L y = true := h4
                refine ⟨_, rfl, _, rfl, a, _, 2, _, rfl, rfl, same_seqT s1 hs, atI_nat (j := 2) rfl, _, rfl, _, _, rfl, rfl, B, _, z, L, congrArg (fun q : Int => [V.int L, _, V.int q]) (show ((m + 1 : Nat) : Int) - 1 = (m : Int) by omega), same_dt s1 hz, by omega, L1, L3, fun H2 s2 => kk H2 _ (s1.trans s2) ?_⟩
                rw [eq, h4, Bool.true_and]
              · have h4 : fullLine L y = false := bool_not h4
                refine kk H1 _ s1 ?_
                rw [eq, h4, Bool.false_and]
          · refine kk H _ (Same.refl H) ?_
            match rest, hlr, h3 with
            | [], _, _ =>
              show (if strIs x "seen" = true then _ else _) = _
              rw [if_pos h2]
            | [z], hlr, h3 =>
              exfalso
              apply h3
              refine decide_eq_true ?_
              rw [List.length_cons, List.length_cons, hlr]
              rfl
            | _ :: _ :: _, _, _ => rfl
        have h2 := bool_not h2
        refine ⟨_, rfl, a, _, rfl, .inr hs, rfl, _, rfl, ite2 (fun h3 => ?_) (fun h3 => ?_)⟩
        · refine kk H _ (Same.refl H) ?_
          match rest, hlr, h3 with
          | [], hlr, h3 =>
            exfalso
            have h3 : (!decide (V.int (((vx :: vy :: vs).length : Nat) : Int) = V.int 2)) = true := h3
            rw [List.length_cons, List.length_cons, hlr] at h3
            cases h3
          | [z], _, _ =>
            show (if strIs x "seen" = true then _ else _) = _
            rw [h2, if_neg Bool.false_ne_true]
          | _ :: _ :: _, _, _ => rfl
        have h3 : rest = [] := by
          have h3 : ¬ (!decide (V.int (((vx :: vy :: vs).length : Nat) : Int) = V.int 2)) = true := h3
          have h4 : decide (V.int (((vx :: vy :: vs).length : Nat) : Int) = V.int 2) = true := by
            cases e : decide (V.int (((vx :: vy :: vs).length : Nat) : Int) = V.int 2)
            · rw [e] at h3
              exact absurd rfl h3
            · rfl
          have h5 := V.int.inj (of_decide_eq_true h4)
          rw [List.length_cons, List.length_cons, hlr] at h5
          exact List.length_eq_zero_iff.mp (by omega)
        subst h3
        cases ha
        rw [nodesAll_nil] at hn
        have kk : ∀ (H' : Hp) (b : Bool), Same H H' → heldQ L (isQ L (fullLine L) m) x y = b → Q (.bl b) H' := fun H' b sm e => kk H' b sm (by
          show (if strIs x "seen" = true then _ else _) = _
          rw [h2, if_neg Bool.false_ne_true]
          exact e)
        refine ⟨_, rfl, a, _, 1, _, rfl, rfl, hs, atI_nat (j := 1) rfl, ?_⟩
        refine ⟨_, rfl, by show 4 ≤ sizeLine; decide, fun t4 n4 => ⟨B, x, t4, ["below", "above", "like", "is"], rfl, same_dt (same_new n4) hx, SqT.of upd_same, _, rfl, ?_⟩⟩
        have s4 := same_new (o := .tup [.str "below", .str "above", .str "like", .str "is"]) n4
        have s4' : Same H (upd H t4 (.tup ((["below", "above", "like", "is"] : List Str).map V.str))) := s4
        refine ite2 (fun h5 => ?_) (fun h5 => ?_)
        · have h5 : inS x ["below", "above", "like", "is"] = true := h5
          refine ⟨_, rfl, _, rfl, B, _, y, L, 20, rfl, same_dt s4 hy, by omega, L1, L3, fun H1 s1 => kk H1 _ (s4.trans s1) ?_⟩
          rw [heldQ_eq, if_pos h5]
        have h5 : inS x ["below", "above", "like", "is"] = false := bool_not h5
        have hx := same_dt s4 hx
        have hy := same_dt s4 hy
        have hs := same_seqT s4 hs
        generalize upd H t4 (.tup [.str "below", .str "above", .str "like", .str "is"]) = G at *
        refine ⟨_, rfl, B, x, "has", rfl, hx, _, rfl, ite2 (fun h6 => ?_) (fun h6 => ?_)⟩
        · have eq : heldQ L (isQ L (fullLine L) m) x y = (wordD L 4 y && !(strIs y "")) := by
            rw [heldQ_eq, h5, if_neg Bool.false_ne_true, if_pos h6]
          refine ⟨_, rfl, _, rfl, B, _, y, L, 4, rfl, hy, by omega, L1, L3, fun H1 s1 => ⟨_, rfl, ite2 (fun h7 => ?_) (fun h7 => ?_)⟩⟩
          · obtain ⟨z, rfl⟩ : ∃ z, y = .str z := by
              cases y with
              | str z => exact ⟨z, rfl⟩
              | _ => cases h7
            cases hy
            refine ⟨_, rfl, rfl, kk H1 _ (s4.trans s1) ?_⟩
            rw [eq, h7, Bool.true_and]
            show (!(decide (z = ""))) = !(decide (V.str z = V.str ""))
            congr 1
            by_cases q : z = ""
            · rw [decide_eq_true q, decide_eq_true (by rw [q])]
            · rw [decide_eq_false q, decide_eq_false (fun e => q (V.str.inj e))]
          · refine kk H1 _ (s4.trans s1) ?_
            rw [eq, bool_not h7, Bool.false_and]
        have h6 := bool_not h6
        refine ⟨_, rfl, B, x, "of", rfl, hx, _, rfl, ite2 (fun h7 => ?_) (fun h7 => ?_)⟩
        · have eq : heldQ L (isQ L (fullLine L) m) x y = kindD L y := by
            rw [heldQ_eq, h5, if_neg Bool.false_ne_true, h6, if_neg Bool.false_ne_true, if_pos h7]
          refine ⟨_, rfl, B, _, y, rfl, hy, by omega, fun H1 s1 => ⟨_, rfl, ?_⟩⟩
          rw [optV_non]
          refine ite2 (fun h8 => ?_) (fun h8 => ?_)
          · have h8 := of_decide_eq_true h8
            obtain ⟨L2, rs, e, rfl⟩ := merr_none h8
            have hy1 := same_dt s1 hy
            obtain ⟨b, ys, rfl, _, hsb, hab, _⟩ := hy1.tup_ref
            cases hab with | cons q1 hab => cases hab with | cons q2 hab => cases hab with | cons q3 hab =>
            cases hab
            cases q1
            obtain ⟨c, zs, rfl, _, hsc, hac, hlc⟩ := q2.tup_ref
            refine ⟨_, rfl, b, _, 0, _, rfl, rfl, hsb, atI_nat (j := 0) rfl, _, rfl, rfl, _, rfl, ?_⟩
            have ek : kindD L (.tuple [.int L2, .tuple rs, e]) = (decide (L2 = L) && decide (rs.length ≤ 6)) := by
              show ((decide (merr _ = none) && decide (L2 = L)) && decide (rs.length ≤ 6)) = _
              rw [h8, decide_eq_true rfl, Bool.true_and]
            have e2 : decide (V.int L2 = V.int L) = decide (L2 = L) := by
              by_cases q : L2 = L
              · rw [decide_eq_true q, decide_eq_true (by rw [q])]
              · rw [decide_eq_false q, decide_eq_false (fun z => q (V.int.inj z))]
            rw [e2]
            refine ite2 (fun h9 => ?_) (fun h9 => ?_)
            · refine ⟨_, rfl, b, _, 1, _, rfl, rfl, hsb, atI_nat (j := 1) rfl, c, _, rfl, .inr hsc, _, 6, rfl, rfl, kk H1 _ (s4.trans s1) ?_⟩
              rw [eq, ek, h9, Bool.true_and, hlc]
              by_cases q : rs.length ≤ 6
              · rw [decide_eq_true q, decide_eq_true (by omega)]
              · rw [decide_eq_false q, decide_eq_false (by omega)]
            · refine kk H1 _ (s4.trans s1) ?_
              rw [eq, ek, bool_not h9, Bool.false_and]
          · have h8 : merr y ≠ none := fun q => h8 (decide_eq_true q)
            refine kk H1 _ (s4.trans s1) ?_
            rw [eq]
            unfold kindD
            split
            · rename_i l r e
              rw [decide_eq_false h8]
              rfl
            · rfl
        have h7 := bool_not h7
        refine ⟨_, rfl, B, x, "not", rfl, hx, _, rfl, ite2 (fun h8 => ?_) (fun h8 => ?_)⟩
        · have eq : heldQ L (isQ L (fullLine L) m) x y = isQ L (fullLine L) m y := by
            rw [heldQ_eq, h5, if_neg Bool.false_ne_true, h6, if_neg Bool.false_ne_true, h7, if_neg Bool.false_ne_true, if_pos h8]
          exact ⟨_, rfl, _, rfl, _, rfl, _, _, rfl, rfl, B, _, y, L, congrArg (fun q : Int => [V.int L, _, V.int q]) (show ((m + 1 : Nat) : Int) - 1 = (m : Int) by omega), hy, by omega, L1, L3, fun H2 s2 => kk H2 _ (s4.trans s2) eq⟩
        have h8 := bool_not h8
        have eq : heldQ L (isQ L (fullLine L) m) x y = (if inS x ["all", "some"] = true then lotQ (isQ L (fullLine L) m) y else false) := by
          rw [heldQ_eq, h5, if_neg Bool.false_ne_true, h6, if_neg Bool.false_ne_true, h7, if_neg Bool.false_ne_true, h8, if_neg Bool.false_ne_true]
        refine ⟨_, rfl, by show 2 ≤ sizeLine; decide, fun t5 n5 => ⟨B, x, t5, ["all", "some"], rfl, same_dt (same_new n5) hx, SqT.of upd_same, _, rfl, ?_⟩⟩
        have s5 := s4.trans (same_new (o := .tup [.str "all", .str "some"]) n5)
        have hy := same_dt (same_new (o := .tup [.str "all", .str "some"]) n5) hy
        have hs := same_seqT (same_new (o := .tup [.str "all", .str "some"]) n5) hs
        generalize upd G t5 (.tup [.str "all", .str "some"]) = G2 at *
        refine ite2 (fun h9 => ?_) (fun h9 => ?_)
        · have h9 : (!inS x ["all", "some"]) = true := h9
          refine kk _ _ s5 ?_
          rw [eq, not_cases h9, if_neg Bool.false_ne_true]
        have h9 : inS x ["all", "some"] = true := not_cases' h9
        rw [h9, if_pos rfl] at eq
        refine ⟨vy, rfl, vy, .ty "tuple", _, _, _, rfl, .ty _, tyD hy, kitT y, _, rfl, ?_⟩
        cases y with
        | none => exact kk _ _ s5 eq
        | bool _ => exact kk _ _ s5 eq
        | int _ => exact kk _ _ s5 eq
        | str _ => exact kk _ _ s5 eq
        | list _ => exact kk _ _ s5 eq
        | dict _ => exact kk _ _ s5 eq
        | tuple es =>
          have eq : heldQ L (isQ L (fullLine L) m) x (.tuple es) = (decide (es.length ≤ 4) && es.all (isQ L (fullLine L) m)) := eq
          obtain ⟨b, ys, rfl, nb2, hsb, hab, hlb⟩ := hy.tup_ref
          rw [nodes_tup] at hn
          refine ⟨_, rfl, b, ys, rfl, .inr hsb, _, 4, rfl, rfl, _, rfl, ite2 (fun h10 => ?_) (fun h10 => ?_)⟩
          · have h10 := of_decide_eq_true h10
            refine kk _ _ s5 ?_
            rw [eq, decide_eq_false (by omega)]
            rfl
          have h10 : ¬ ((ys.length : Int) > 4) := fun q => h10 (decide_eq_true q)
          have les := len_nodes es
          refine ⟨_, rfl, b, rfl, ⟨ys, hsb⟩, fun D hD => ?_⟩
          refine lc_tup (K := K) (a := b) (xs := ys) (BInv (isQ L (fullLine L) m) es G2 D) ⟨same_new hD, upd_same⟩ (fun i H' _ q => same_seqT q.1 hsb) ?_ ?_
          · rintro i y1 H' hy1 p
            obtain ⟨d1, hm, hd', fin⟩ := bturn hab (Nat.lt_of_le_of_lt (show es.length ≤ 100000 by omega) (by decide)) hD hy1 p
            have hmn := mem_nodes hm
            exact ⟨rfl, _, rfl, _, rfl, _, rfl, _, _, rfl, rfl, B, y1, d1, L, congrArg (fun q : Int => [V.int L, _, V.int q]) (show ((m + 1 : Nat) : Int) - 1 = (m : Int) by omega), hd', by omega, L1, L3, fun H'' sm => fin H'' sm _ rfl⟩
          · rintro H1 p
            obtain ⟨sm, hS⟩ := bend (K := K) hlb p
            refine ⟨D, _, rfl, hS, kk H1 _ (s5.trans sm) ?_⟩
            rw [eq, decide_eq_true (by omega), Bool.true_and, all_take]
theorem ok_query {f fL fW fM : Addr} {fd fdL fdW fdM : FuncData} (F : Fun K "is_query" "is_query" sQuery f fd) (gREC : mg "is_query" = some (.ref f)) (bREC : Binds K fd ["letters", "value", "depth"] [])
    (LE : FnOk P w K mg base CX0 5 fL fdL ["letters", "value"] (spLErr K)) (FLE : Fun K "line_error" "line_error" sLErr fL fdL) (bLE : Binds K fdL ["letters", "value"] []) (gLE : mg "line_error" = some (.ref fL))
    (W : FnOk P w K mg base CX0 1 fW fdW ["value", "letters", "most"] (spWord K)) (FW : Fun K "is_word" "is_word" sWord fW fdW) (bW : Binds K fdW ["value", "letters", "most"] []) (gW : mg "is_word" = some (.ref fW))
    (ME : FnOk P w K mg base CX0 4 fM fdM ["value"] (spErr K)) (FME : Fun K "machine_error" "machine_error" sErr fM fdM) (bME : Binds K fdM ["value"] []) (gME : mg "machine_error" = some (.ref fM)) (T : Mg mg) : ∀ n : Nat, FnOk P w K mg base CX0 (6 + n) f fd ["letters", "value", "depth"] (spQuery K n)
  | 0 => query_body (kk := 5) F gREC bREC (Nat.le_refl _) no_fn (fun t' e => nomatch e) LE FLE bLE gLE W FW bW gW ME FME bME gME T
  | n + 1 => query_body (kk := 6 + n) F gREC bREC (Nat.le_trans (by decide) (Nat.le_add_right 6 n)) (ok_query F gREC bREC LE FLE bLE gLE W FW bW gW ME FME bME gME T n) (fun t' e => by rw [Nat.succ.inj e]) LE FLE bLE gLE W FW bW gW ME FME bME gME T
end
section
variable {P : Program} {w : World} {K : PySem.W.Frag} {mg : Str → Option Value} {base : Heap}
theorem scQErr : FnScope ["letters", "value"] ["letters", "value"] (defScope sQErr) := ⟨rfl, rfl, rfl, by decide +kernel, rfl, by decide +kernel, by decide +kernel⟩
def spQErr (K : PySem.W.Frag) : Sp := fun vs H Q _ => ∃ (B : Addr → Prop) (x : V) (d : PyData) (L : Int), vs = [.int L, x] ∧ Dt B K H x d ∧ nodes d ≤ 100000 ∧ 1 ≤ L ∧ L ≤ 3 ∧ ∀ H', Same H H' → Q (if isQ L (fullLine L) 4 d = true then .non else .str "query") H'
theorem ok_qErr {f fIQ : Addr} {fd fdIQ : FuncData} (F : Fun K "query_error" "query_error" sQErr f fd) (IQ : FnOk P w K mg base CX0 10 fIQ fdIQ ["letters", "value", "depth"] (spQuery K 4)) (FIQ : Fun K "is_query" "is_query" sQuery fIQ fdIQ) (bIQ : Binds K fdIQ ["letters", "value", "depth"] []) (gIQ : mg "is_query" = some (.ref fIQ)) (T : Mg mg) : FnOk P w K mg base CX0 11 f fd ["letters", "value"] (spQErr K) := by
  refine F.ok scQErr (fun vs H Q E h => ?_) (fun cdv A outer s H vs Q E hr h => ?_)
  · obtain ⟨B, x, d, L, rfl, _⟩ := h
    rfl
  · obtain ⟨B, x, d, L, rfl, hd, hn, L1, L3, k⟩ := h
    obtain ⟨tD, mD⟩ := T.mdepth
    refine ⟨_, (pss_one (ps_ret (pe_ifExp (pt_val (pe_call IQ (hr.mono (by decide)) (by rfl) gIQ FIQ.kp bIQ .nil pass0 (pa_cons (pv 0) (pa_cons (pv 1) (pa_cons (pe_glob (v := .int 4) (by rfl) mD ⟨_, rfl⟩) pa_nil))))) pe_non pe_str))), ?_⟩
    refine ⟨_, rfl, _, rfl, B, x, d, L, rfl, hd, hn, L1, L3, fun H1 s1 => ⟨_, rfl, ite2 (fun h => ?_) (fun h => ?_)⟩⟩
    · have := k H1 s1
      rw [if_pos h] at this
      exact this
    · have := k H1 s1
      rw [if_neg h] at this
      exact this
end
/-! ### list(text) -/
section
variable {X : Cx}
def rListS : List V → Hp → VK → Prop := fun xs H Q => ∃ z : Str, xs = [.str z] ∧ z.length ≤ sizeLine ∧ ∀ p H', Same H H' → H p = none → H' p = some (.lst (z.cps.toList.map sgV)) → Q (.ref p) H'
theorem call_listS (hc : X.calm = true) : CallR X (.type "list") rListS := by
  intro pins s σ H xs us Q I r h
  obtain ⟨z, rfl, hz, q⟩ := h
  obtain ⟨u, rfl, rx⟩ := vals1 r
  obtain ⟨t, rfl⟩ := rx
  refine call_list_str (I.ok.hd hc) z t (fun h' tk acc c hk hS ha => ?_) hz
  have hv : Vals (z.cps.toList.map sgV) acc.toList := by
    have q1 := vals_signs (z := z) z.cps.toList.length acc.toList (by rw [Array.length_toList, ha.1, Array.length_toList]) (fun j v hv => ?_) (Nat.le_refl _)
    · rw [List.take_length] at q1
      exact q1
    · obtain ⟨c, u, h1, h2⟩ := ha.2 j v (by rw [← Array.getElem?_toList]; exact hv)
      exact ⟨c, u, by rw [List.take_length, Array.getElem?_toList]; exact h1, h2⟩
  have np := I.fresh
  refine ⟨.ref s.heap.objs.size, _, I.laid (o := .lst (z.cps.toList.map sgV)) (t' := tk) hk (Nat.le_refl _) ⟨?_, acc.toList, c, hv, by simpa using hS⟩, rfl, q _ _ (same_new np) np upd_same⟩
  rw [List.length_map, Array.length_toList]
  exact hz
end
/-! ### the law's look at kinds -/
def kindE3 (L : Int) (l r e : PyData) : Bool := match r, e with
  | .tuple rs, .tuple es => numD l L L && ((decide (1 ≤ rs.length) && decide (rs.length ≤ 6)) && (decide (es.length = rs.length) && (rs.all (rowD L rs.length) && es.all isBool)))
  | _, _ => false
def kindE (L : Int) (d : PyData) : Bool := match d with
  | .tuple [l, r, e] => kindE3 L l r e
  | _ => false
theorem kind_eq {L : Int} (L1 : 1 ≤ L) (L3 : L ≤ 3) (d : PyData) : kindD L d = kindE L d := by
  unfold kindD
  split
  · rename_i l r e
    have hl : ∀ M : Int, l = .int M → M ≠ L → kindE L (.tuple [l, r, e]) = false := fun M hM hne => by
      subst hM
      show kindE3 L (.int M) r e = false
      unfold kindE3
      split
      · have : numD (.int M) L L = false := by
          show (decide (L ≤ M) && decide (M ≤ L)) = false
          by_cases q : L ≤ M
          · rw [decide_eq_false (show ¬ M ≤ L by omega), Bool.and_false]
          · rw [decide_eq_false q]
            rfl
        rw [this]
        rfl
      · rfl
    cases l with
    | int M =>
      by_cases hM : M = L
      · subst hM
        have n1 : numD (.int M) 1 3 = true := by
          show (decide (1 ≤ M) && decide (M ≤ 3)) = true
          rw [decide_eq_true L1, decide_eq_true L3]
          rfl
        have n2 : numD (.int M) M M = true := by
          show (decide (M ≤ M) && decide (M ≤ M)) = true
          rw [decide_eq_true (Int.le_refl M)]
          rfl
        show ((decide (merr3 (.int M) r e = none) && decide (M = M)) && decide (tlen r ≤ 6)) = _
        rw [merr3_yes n1, decide_eq_true (rfl : M = M), Bool.and_true]
        cases r with
        | tuple rs =>
          show (decide (merr5 M rs e = none) && decide (rs.length ≤ 6)) = _
          unfold merr5
          by_cases h1 : 1 ≤ rs.length ∧ rs.length ≤ 400
          · rw [if_pos h1]
            cases h2 : rs.all (rowD M rs.length)
            · rw [if_neg Bool.false_ne_true]
              cases e with
              | tuple es =>
                show _ = (numD (.int M) M M && ((decide (1 ≤ rs.length) && decide (rs.length ≤ 6)) && (decide (es.length = rs.length) && (rs.all (rowD M rs.length) && es.all isBool))))
                rw [h2]
                simp
              | _ => simp [kindE, kindE3]
            · rw [if_pos rfl]
              cases e with
              | tuple es =>
                show _ = (numD (.int M) M M && ((decide (1 ≤ rs.length) && decide (rs.length ≤ 6)) && (decide (es.length = rs.length) && (rs.all (rowD M rs.length) && es.all isBool))))
                rw [h2, n2, decide_eq_true h1.1]
                show (decide ((if es.length = rs.length then (if es.all isBool = true then none else some ("ends" : Str)) else some "ends") = none) && decide (rs.length ≤ 6)) = _
                by_cases h3 : es.length = rs.length
                · rw [if_pos h3, decide_eq_true h3]
                  cases es.all isBool <;> simp
                · rw [if_neg h3, decide_eq_false h3]
                  simp
              | _ => simp [kindE, kindE3, mends]
          · rw [if_neg h1]
            cases e with
            | tuple es =>
              show _ = (numD (.int M) M M && ((decide (1 ≤ rs.length) && decide (rs.length ≤ 6)) && (decide (es.length = rs.length) && (rs.all (rowD M rs.length) && es.all isBool))))
              have : (decide (1 ≤ rs.length) && decide (rs.length ≤ 6)) = false := by
                by_cases q : 1 ≤ rs.length
                · rw [decide_eq_false (show ¬ rs.length ≤ 6 by omega), Bool.and_false]
                · rw [decide_eq_false q]
                  rfl
              rw [this]
              simp
            | _ => simp [kindE, kindE3]
        | _ => simp [kindE, kindE3, merr4]
      · rw [hl M rfl hM]
        show ((_ && decide (M = L)) && _) = false
        rw [decide_eq_false hM, Bool.and_false]
        rfl
    | _ =>
      have e0 : ∀ l : PyData, numD l 1 3 = false → (decide (merr (.tuple [l, r, e]) = none)) = false := fun l h => by
        show decide (merr3 l r e = none) = false
        rw [merr3_no h]
        rfl
      rw [e0 _ rfl]
      cases r <;> cases e <;> simp [kindE, kindE3, numD]
  · rename_i h
    match d, h with
    | .tuple [l, r, e], h => exact absurd rfl (h l r e)
    | .tuple [], _ => rfl
    | .tuple [_], _ => rfl
    | .tuple [_, _], _ => rfl
    | .tuple (_ :: _ :: _ :: _ :: _), _ => rfl
    | .none, _ => rfl
    | .bool _, _ => rfl
    | .int _, _ => rfl
    | .str _, _ => rfl
    | .list _, _ => rfl
    | .dict _, _ => rfl
section
variable {P : Program} {w : World} {K : PySem.W.Frag} {mg : Str → Option Value} {base : Heap}
theorem scIsKind : FnScope ["_law_letters", "_law_value", "_law_rows", "_law_ends", "_law_row", "_law_item", "_law_end"] ["_law_letters", "_law_value"] (defScope sIsKindL) := ⟨rfl, rfl, rfl, by decide +kernel, rfl, by decide +kernel, by decide +kernel⟩
def spIsKind (K : PySem.W.Frag) : Sp := fun vs H Q _ => ∃ (B : Addr → Prop) (x : V) (d : PyData) (L : Int), vs = [.int L, x] ∧ Dt B K H x d ∧ nodes d ≤ 100000 ∧ 1 ≤ L ∧ L ≤ 3 ∧ ∀ H', Same H H' → Q (.bl (kindD L d)) H'
theorem ok_isKindL {f fW : Addr} {fd fdW : FuncData} (F : Fun K "_law_is_kind" "_law_is_kind" sIsKindL f fd) (W : FnOk P w K mg base CX0 1 fW fdW ["_law_value", "_law_least", "_law_most"] (spNum K)) (FW : Fun K "_law_whole" "_law_whole" sWhole fW fdW) (bW : Binds K fdW ["_law_value", "_law_least", "_law_most"] []) (gW : mg "_law_whole" = some (.ref fW)) (T : Mg mg) : FnOk P w K mg base CX0 2 f fd ["_law_letters", "_law_value"] (spIsKind K) := by
  refine F.ok scIsKind (fun vs H Q E h => ?_) (fun cdv A outer s H vs Q E hr h => ?_)
  · obtain ⟨B, x, d, L, rfl, _⟩ := h
    rfl
  · obtain ⟨B, x, d, L, rfl, hd, hn, L1, L3, k⟩ := h
    rw [kind_eq L1 L3] at k
    have hu0 := hr.units0
    refine ⟨_, (pss_cons (ps_if (PW.pt (pw_or (pt_not (pt_val (pe_callB (r := rIsi K) call_isi (by rfl) T.isi PyProof.Rows.boot_isinstance (pa_cons (pv 1) (pa_cons (pe_bltn (v := .ty "tuple") (by rfl) T.tuple PyProof.Rows.boot_tuple rfl) pa_nil))))) (pw_or (pt_cmpR op_ne (pe_callB (r := rLen K) call_len_seq (by rfl) T.len PySem.boot_len (pa_cons (pv 1) pa_nil)) pe_int (nomark _)) (pw_or1 (pt_not (pt_val (pe_call W (hr.mono (by decide)) (by rfl) gW FW.kp bW .nil pass0 (pa_cons (pe_ix (r := rIxT K) ix_tup (pv 1) pe_int (fun _ _ => rfl)) (pa_cons (pv 0) (pa_cons (pv 0) pa_nil)))))))))) (pss_one (ps_ret pe_bl)) pss_nil)
      (pss_cons (ps_asg (pe_tup (pa_cons (pe_ix (r := rIxT K) ix_tup (pv 1) pe_int (fun _ _ => rfl)) (pa_cons (pe_ix (r := rIxT K) ix_tup (pv 1) pe_int (fun _ _ => rfl)) pa_nil))) (pg_tup rfl (pgs_cons (pg_name (i := 2) scIsKind.nd rfl (.inr rfl)) (pgs_cons (pg_name (i := 3) scIsKind.nd rfl (.inl rfl)) pgs_nil))))
      (pss_cons (ps_if (PW.pt (pw_or (pt_not (pt_val (pe_callB (r := rIsi K) call_isi (by rfl) T.isi PyProof.Rows.boot_isinstance (pa_cons (pv 2) (pa_cons (pe_bltn (v := .ty "tuple") (by rfl) T.tuple PyProof.Rows.boot_tuple rfl) pa_nil))))) (pw_or (pt_not (pt_chain op_le op_le pe_int (pe_callB (r := rLen K) call_len_seq (by rfl) T.len PySem.boot_len (pa_cons (pv 2) pa_nil)) pe_int)) (pw_or (pt_not (pt_val (pe_callB (r := rIsi K) call_isi (by rfl) T.isi PyProof.Rows.boot_isinstance (pa_cons (pv 3) (pa_cons (pe_bltn (v := .ty "tuple") (by rfl) T.tuple PyProof.Rows.boot_tuple rfl) pa_nil))))) (pw_or1 (pt_cmpR op_ne (pe_callB (r := rLen K) call_len_seq (by rfl) T.len PySem.boot_len (pa_cons (pv 3) pa_nil)) (pe_callB (r := rLen K) call_len_seq (by rfl) T.len PySem.boot_len (pa_cons (pv 2) pa_nil)) (nomark _))))))) (pss_one (ps_ret pe_bl)) pss_nil)
      (pss_cons (ps_for PassesOwn.never rfl (pi_tup (pv 2)) (pg_name (i := 4) scIsKind.nd rfl (.inl rfl)) (pss_cons (ps_if (PW.pt (pw_or (pt_not (pt_val (pe_callB (r := rIsi K) call_isi (by rfl) T.isi PyProof.Rows.boot_isinstance (pa_cons (pv 4) (pa_cons (pe_bltn (v := .ty "tuple") (by rfl) T.tuple PyProof.Rows.boot_tuple rfl) pa_nil))))) (pw_or1 (pt_cmpR op_ne (pe_callB (r := rLen K) call_len_seq (by rfl) T.len PySem.boot_len (pa_cons (pv 4) pa_nil)) (pv 0) (nomark _))))) (pss_one (ps_ret pe_bl)) pss_nil)
      (pss_one (ps_if (pt_cmpR (op_neNilL hu0) (pe_lc (own := [("_law_item", 5)]) (g := gName 5) rfl scIsKind.nd (pi_tup (pv 4)) (blkOk_by (N := ["_law_letters", "_law_value", "_law_rows", "_law_ends", "_law_row", "_law_item", "_law_end"]) (sc := defScope sIsKindL) (by decide +kernel)) (fun _ _ _ _ _ => pg_name (i := 5) scIsKind.nd rfl (Or.inl rfl)) (fun _ _ _ _ _ => pts_one (PW.pt (pw_and (pt_cmp (pc_notN (pv 5))) (pw_and1 (pt_not (pt_val (pe_call W (hr.mono (by decide)) (by rfl) gW FW.kp bW .nil pass0 (pa_cons (pv 5) (pa_cons pe_int (pa_cons (pe_op op_sub (pe_callB (r := rLen K) call_len_seq (by rfl) T.len PySem.boot_len (pa_cons (pv 2) pa_nil)) pe_int) pa_nil)))))))))) (fun _ _ _ _ _ => (pv 5))) (pe_lstA pa_nil) (nomark _)) (pss_one (ps_ret pe_bl)) pss_nil))))
      (pss_one (ps_ret (pe_cmpR (op_eqNilL hu0) (pe_lc (own := [("_law_end", 6)]) (g := gName 6) rfl scIsKind.nd (pi_tup (pv 3)) (blkOk_by (N := ["_law_letters", "_law_value", "_law_rows", "_law_ends", "_law_row", "_law_item", "_law_end"]) (sc := defScope sIsKindL) (by decide +kernel)) (fun _ _ _ _ _ => pg_name (i := 6) scIsKind.nd rfl (Or.inl rfl)) (fun _ _ _ _ _ => pts_one (pt_not (pt_val (pe_callB (r := rIsi K) call_isi (by rfl) T.isi PyProof.Rows.boot_isinstance (pa_cons (pv 6) (pa_cons (pe_bltn (v := .ty "bool") (by rfl) T.bool PyProof.Rows.boot_bool rfl) pa_nil)))))) (fun _ _ _ _ _ => (pv 6))) (pe_lstA pa_nil) (nomark _)))))))), ?_⟩
    refine ⟨x, rfl, x, .ty "tuple", _, _, _, rfl, .ty _, tyD hd, kitT d, _, rfl, ?_⟩
    cases d with
    | none => exact k H (Same.refl H)
    | bool _ => exact k H (Same.refl H)
    | int _ => exact k H (Same.refl H)
    | str _ => exact k H (Same.refl H)
    | list _ => exact k H (Same.refl H)
    | dict _ => exact k H (Same.refl H)
    | tuple ds =>
      obtain ⟨a, xs, rfl, nb, hs, ha, hl⟩ := hd.tup_ref
      refine ⟨.ref a, rfl, a, xs, rfl, .inr hs, rfl, _, rfl, ite2 (fun h1 => ?_) (fun h1 => ?_)⟩
      · have e : kindE L (.tuple ds) = false := by
          match ds, hl, h1 with
          | [], _, _ => rfl
          | [_], _, _ => rfl
          | [_, _], _, _ => rfl
          | [x1, x2, x3], hl, h1 =>
            rw [show ([x1, x2, x3] : List PyData).length = 3 from rfl] at hl
            rw [hl] at h1
            exact absurd h1 (by decide)
          | _ :: _ :: _ :: _ :: _, _, _ => rfl
        rw [e] at k
        exact k H (Same.refl H)
      have h2 : ds.length = 3 := by
        rw [← hl]
        by_cases z : xs.length = 3
        · exact z
        · exfalso
          apply h1
          have z2 : ¬ (V.int (xs.length : Int) = V.int 3) := fun q => z (by have := V.int.inj q; omega)
          rw [decide_eq_false z2]
          rfl
      obtain ⟨l, r, e, rfl⟩ := three_of h2
      obtain ⟨vl, vr, ve, rfl, hdl, hdr, hde⟩ := dt_three ha
      have kk : ∀ (H' : Hp) (b : Bool), Same H H' → kindE L (.tuple [l, r, e]) = b → Q (.bl b) H' := fun H' b sm e => by
        rw [← e]
        exact k H' sm
      rw [nodes_tup, nodesAll_cons, nodesAll_cons, nodesAll_cons] at hn
      refine ⟨_, rfl, a, _, 0, _, rfl, rfl, hs, atI_nat (j := 0) rfl, _, rfl, _, rfl, B, vl, l, L, L, rfl, hdl, _, rfl, ite2 (fun h3 => ?_) (fun h3 => ?_)⟩
      · refine kk H _ (Same.refl H) ?_
        show kindE3 L l r e = false
        unfold kindE3
        split
        · rw [not_cases h3]
          rfl
        · rfl
      have h3 := not_cases' h3
      refine ⟨_, rfl, a, _, 1, _, rfl, rfl, hs, atI_nat (j := 1) rfl, _, rfl, a, _, 2, _, rfl, rfl, hs, atI_nat (j := 2) rfl, by show 2 ≤ sizeLine; decide, fun tp ntp => ⟨tp, _, rfl, SqT.of upd_same, rfl, _, _, rfl, _, _, rfl, rfl, ?_⟩⟩
      have s1 := same_new (o := .tup [vr, ve]) ntp
      have hdr := same_dt s1 hdr
      have hde := same_dt s1 hde
      have hs := same_seqT s1 hs
      have kk : ∀ (H' : Hp) (b : Bool), Same (upd H tp (.tup [vr, ve])) H' → kindE L (.tuple [l, r, e]) = b → Q (.bl b) H' := fun H' b sm e => kk H' b (s1.trans sm) e
      generalize upd H tp (.tup [vr, ve]) = G at *
      refine ⟨_, rfl, vr, .ty "tuple", _, _, _, rfl, .ty _, tyD hdr, kitT r, _, rfl, ?_⟩
      cases r with
      | none => exact kk G _ (Same.refl G) rfl
      | bool _ => exact kk G _ (Same.refl G) rfl
      | int _ => exact kk G _ (Same.refl G) rfl
      | str _ => exact kk G _ (Same.refl G) rfl
      | list _ => exact kk G _ (Same.refl G) rfl
      | dict _ => exact kk G _ (Same.refl G) rfl
      | tuple rs =>
        obtain ⟨b, ys, rfl, nb2, hsb, hab, hlb⟩ := hdr.tup_ref
        have lrs := len_nodes rs
        rw [nodes_tup] at hn
        have no6 : ¬ (1 ≤ rs.length ∧ rs.length ≤ 6) → Q (.bl false) G := fun q => by
          refine kk G _ (Same.refl G) ?_
          show kindE3 L l (.tuple rs) e = false
          have : (decide (1 ≤ rs.length) && decide (rs.length ≤ 6)) = false := by
            by_cases q1 : 1 ≤ rs.length
            · rw [decide_eq_false (show ¬ rs.length ≤ 6 by omega), Bool.and_false]
            · rw [decide_eq_false q1]
              rfl
          cases e with
          | tuple es =>
            show (numD l L L && ((decide (1 ≤ rs.length) && decide (rs.length ≤ 6)) && _)) = false
            rw [this]
            simp
          | _ => rfl
        refine ⟨_, rfl, b, ys, rfl, .inr hsb, 1, _, rfl, rfl, _, rfl, ite2 (fun h5 => ?_) (fun h5 => ?_)⟩
        rotate_left
        · refine ⟨_, rfl, no6 fun q => h5 (decide_eq_true ?_)⟩
          omega
        have h5 := of_decide_eq_true h5
        refine ⟨_, 6, rfl, rfl, _, rfl, ite2 (fun h6 => ?_) (fun h6 => ?_)⟩
        · refine no6 fun q => ?_
          have h7 : decide ((ys.length : Int) ≤ 6) = true := decide_eq_true (by omega)
          rw [h7] at h6
          cases h6
        have h7 : (ys.length : Int) ≤ 6 := by
          cases z : decide ((ys.length : Int) ≤ 6)
          · rw [z] at h6
            exact absurd rfl h6
          · exact of_decide_eq_true z
        have h8 : (decide (1 ≤ rs.length) && decide (rs.length ≤ 6)) = true := by
          rw [decide_eq_true (show 1 ≤ rs.length by omega), decide_eq_true (show rs.length ≤ 6 by omega)]
          rfl
        refine ⟨_, rfl, ve, .ty "tuple", _, _, _, rfl, .ty _, tyD hde, kitT e, _, rfl, ?_⟩
        cases e with
        | none => exact kk G _ (Same.refl G) rfl
        | bool _ => exact kk G _ (Same.refl G) rfl
        | int _ => exact kk G _ (Same.refl G) rfl
        | str _ => exact kk G _ (Same.refl G) rfl
        | list _ => exact kk G _ (Same.refl G) rfl
        | dict _ => exact kk G _ (Same.refl G) rfl
        | tuple es =>
          obtain ⟨c, us, rfl, nb3, hsc, hac, hlc⟩ := hde.tup_ref
          have les := len_nodes es
          rw [nodes_tup es] at hn
          have kk : ∀ (H' : Hp) (b : Bool), Same G H' → (decide (es.length = rs.length) && (rs.all (rowD L rs.length) && es.all isBool)) = b → Q (.bl b) H' := fun H' b sm e => kk H' b sm (by
            show (numD l L L && ((decide (1 ≤ rs.length) && decide (rs.length ≤ 6)) && _)) = b
            rw [h3, h8, Bool.true_and, Bool.true_and]
            exact e)
          refine ⟨_, rfl, c, us, rfl, .inr hsc, _, rfl, b, ys, rfl, .inr hsb, rfl, _, rfl, ite2 (fun h9 => ?_) (fun h9 => ?_)⟩
          · refine kk G _ (Same.refl G) ?_
            have : ¬ es.length = rs.length := fun q => by
              rw [hlc, hlb, q, decide_eq_true rfl] at h9
              cases h9
            rw [decide_eq_false this]
            rfl
          have h9 : es.length = rs.length := by
            rw [← hlc, ← hlb]
            by_cases z : us.length = ys.length
            · exact z
            · exfalso
              apply h9
              have z2 : ¬ (V.int (us.length : Int) = V.int (ys.length : Int)) := fun q => z (by have := V.int.inj q; omega)
              rw [decide_eq_false z2]
              rfl
          rw [decide_eq_true h9, Bool.true_and] at kk
          refine ⟨_, rfl, b, rfl, ⟨ys, hsb⟩, ?_⟩
          refine for_tup (xs := ys) (fun i σ H' => (∃ y4 y5 y6, σ = [some (.int L), some (.ref a), some (.ref b), some (.ref c), y4, y5, y6]) ∧ Same G H' ∧ (rs.take i).all (rowD L rs.length) = true) ⟨⟨none, none, none, rfl⟩, Same.refl G, rfl⟩ (fun i σ H' _ q => same_seqT q.2.1 hsb) ?_ ?_
          · rintro i y σ H1 hy ⟨⟨y4, y5, y6, rfl⟩, sm, hall⟩
            obtain ⟨d, hdi, hd1⟩ := hab.getV hy
            have hd1 := same_dt sm hd1
            have hmn := mem_nodes (List.mem_of_getElem? hdi)
            have bad : ∀ (H' : Hp), Same H1 H' → rowD L rs.length d = false → Q (.bl false) H' := fun H' s' hf => kk H' _ (sm.trans s') (by
              rw [all_no hdi hf]
              rfl)
            refine ⟨_, rfl, y, .ty "tuple", _, _, _, rfl, .ty _, tyD hd1, kitT d, _, rfl, ?_⟩
            cases d with
            | none => exact bad H1 (Same.refl H1) rfl
            | bool _ => exact bad H1 (Same.refl H1) rfl
            | int _ => exact bad H1 (Same.refl H1) rfl
            | str _ => exact bad H1 (Same.refl H1) rfl
            | list _ => exact bad H1 (Same.refl H1) rfl
            | dict _ => exact bad H1 (Same.refl H1) rfl
            | tuple zs =>
              obtain ⟨u, ws, rfl, nbu, hsu, hau, hlu⟩ := hd1.tup_ref
              rw [nodes_tup] at hmn
              have lzs := len_nodes zs
              refine ⟨_, rfl, u, ws, rfl, .inr hsu, _, rfl, rfl, _, rfl, ite2 (fun q1 => ?_) (fun q1 => ?_)⟩
              · refine bad H1 (Same.refl H1) ?_
                have : ¬ ((zs.length : Int) = L) := by rw [← hlu]; exact ne_int q1
                show (decide ((zs.length : Int) = L) && _) = false
                rw [decide_eq_false this]
                rfl
              have er : rowD L rs.length (.tuple zs) = zs.all (itemOk rs.length) := by
                have : (zs.length : Int) = L := by rw [← hlu]; exact ne_int' q1
                show (decide ((zs.length : Int) = L) && _) = _
                rw [decide_eq_true this]
                rfl
              refine ⟨_, rfl, u, rfl, ⟨ws, hsu⟩, fun D hD => ?_⟩
              refine lc_tup (K := K) (a := u) (xs := ws) (FInv (itemOk rs.length) zs H1 D) (fstart hD) (fun i H' _ p => same_seqT p.1 hsu) ?_ ?_
              · rintro j y H4 hy p
                obtain ⟨d3, hm3, hd3, c1, c2⟩ := fturn hau (Nat.lt_of_le_of_lt (show zs.length ≤ 100000 by omega) (by decide)) hD hy p
                by_cases hN : y = .non
                · subst hN
                  cases hd3
                  exact ⟨rfl, _, rfl, _, rfl, ite2 (fun q => by cases q) (fun _ => c1 H4 (Same.refl H4) rfl)⟩
                · have ei : itemOk rs.length d3 = numD d3 0 ((rs.length : Int) - 1) := by
                    cases d3 with
                    | none =>
                      cases hd3
                      exact absurd rfl hN
                    | _ => rfl
                  refine ⟨rfl, _, rfl, _, rfl, ite2 (fun _ => ?_) (fun q => absurd (by rw [decide_eq_false hN]; rfl) q)⟩
                  refine ⟨_, rfl, _, rfl, b, ys, rfl, .inr (same_seqT (sm.trans p.1) hsb), _, _, rfl, rfl, B, y, d3, 0, (rs.length : Int) - 1, by rw [hlb]; rfl, hd3, _, rfl, ite2 (fun h9 => ?_) (fun h9 => ?_)⟩
                  · obtain ⟨acc2, e1, e2, e3⟩ := c2 H4 (Same.refl H4) (by rw [ei]; exact not_cases h9)
                    exact ⟨_, rfl, acc2, e1, e2, e3⟩
                  · exact c1 H4 (Same.refl H4) (by rw [ei]; exact not_cases' h9)
              · rintro H4 p
                obtain ⟨sm4, acc, hS, he⟩ := fend (K := K) hlu p
                refine ⟨by show 0 ≤ sizeLine; decide, fun N G4 s4 nN _ lN => ⟨D, N, acc, rfl, rfl, same_seqL s4 hS, SqL.of lN, _, rfl, ?_⟩⟩
                rw [he, ← er]
                refine ite2 (fun h9 => ?_) (fun h9 => ?_)
                · exact bad _ (sm4.trans s4) (not_cases h9)
                · exact ⟨⟨_, _, _, rfl⟩, sm.trans (sm4.trans s4), all_up hdi (not_cases' h9) hall⟩
          · rintro σ H1 ⟨⟨y4, y5, y6, rfl⟩, sm, hall⟩
            rw [hlb, List.take_length] at hall
            rw [hall, Bool.true_and] at kk
            refine ⟨_, rfl, c, rfl, ⟨us, same_seqT sm hsc⟩, fun D hD => ?_⟩
            refine lc_tup (K := K) (a := c) (xs := us) (FInv isBool es H1 D) (fstart hD) (fun i H' _ p => same_seqT (sm.trans p.1) hsc) ?_ ?_
            · rintro j y H4 hy p
              obtain ⟨d3, hm3, hd3, c1, c2⟩ := fturn (same_all sm hac) (Nat.lt_of_le_of_lt (show es.length ≤ 100000 by omega) (by decide)) hD hy p
              refine ⟨rfl, _, rfl, y, .ty "bool", _, _, _, rfl, .ty _, tyD hd3, kitB' d3, _, rfl, ite2 (fun h9 => ?_) (fun h9 => ?_)⟩
              · obtain ⟨acc2, e1, e2, e3⟩ := c2 H4 (Same.refl H4) (not_cases h9)
                exact ⟨_, rfl, acc2, e1, e2, e3⟩
              · exact c1 H4 (Same.refl H4) (not_cases' h9)
            · rintro H4 p
              obtain ⟨sm4, acc, hS, he⟩ := fend (K := K) hlc p
              refine ⟨by show 0 ≤ sizeLine; decide, fun N G4 s4 nN _ lN => ⟨D, N, acc, rfl, rfl, same_seqL s4 hS, SqL.of lN, ?_⟩⟩
              rw [id, he]
              exact kk _ _ (sm.trans (sm4.trans s4)) rfl
end
theorem abc_len' {L : Int} (h : 1 ≤ L) (h2 : L ≤ 3) : 1 ≤ (abcS L).length ∧ (abcS L).length ≤ 3 := by
  have : L = 1 ∨ L = 2 ∨ L = 3 := by omega
  rcases this with rfl | rfl | rfl <;> decide +kernel
theorem dt_cons {B : Addr → Prop} {K : PySem.W.Frag} {H : Hp} {xs : List V} {d : PyData} {ds : List PyData} (h : DtAll B K H xs (d :: ds)) : ∃ v vs, xs = v :: vs ∧ Dt B K H v d ∧ DtAll B K H vs ds := by
  cases h with
  | cons h1 h2 => exact ⟨_, _, rfl, h1, h2⟩
section
variable {P : Program} {w : World} {K : PySem.W.Frag} {mg : Str → Option Value} {base : Heap}
def cutR (L : Int) (y : PyData) : List PyData → Bool
  | [m] => unitD L y && numD m 0 30
  | _ => false
def stopR (L : Int) (y : PyData) : List PyData → Bool
  | [] => letD L y
  | _ => false
theorem in_letters {L : Int} {z : Str} : inV (.str z) ((abcS L).cps.toList.map sgV) = letD L (.str z) := by
  have e : letD L (.str z) = (decide (z.length = 1) && z.cps.toList.all (inL L)) := by
    show ((decide ((z.length : Int) ≤ 1) && z.cps.toList.all (inL L)) && decide (z.length = 1)) = _
    by_cases q : z.length = 1
    · rw [decide_eq_true q, decide_eq_true (show (z.length : Int) ≤ 1 by omega)]
      cases z.cps.toList.all (inL L) <;> rfl
    · rw [decide_eq_false q, Bool.and_false]
      rfl
  rw [e]
  unfold inV
  rw [List.any_map]
  by_cases q : z.length = 1
  · rw [decide_eq_true q, Bool.true_and]
    have hl : z.cps.toList.length = 1 := by rw [← TL.len_tl]; exact q
    obtain ⟨c, hc⟩ : ∃ c, z.cps.toList = [c] := by
      match z.cps.toList, hl with
      | [c], _ => exact ⟨c, rfl⟩
    have ez : z = chr1 c := TL.ext_tl hc
    subst ez
    show ((abcS L).cps.toList.any fun x => eqV (sgV x) (.str (chr1 c))) = ([c].all (inL L))
    rw [show ([c].all (inL L)) = inL L c by simp]
    unfold inL
    have e2 : ∀ x, eqV (sgV x) (.str (chr1 c)) = decide (x = c) := fun x => by
      show ((⟨#[x]⟩ : Str) == chr1 c) = _
      by_cases h : x = c
      · rw [h, decide_eq_true rfl]
        exact beq_self_eq_true _
      · rw [decide_eq_false h]
        exact beq_eq_false_iff_ne.mpr (fun e => h (by
          have := congrArg TL.tl e
          cases this
          rfl))
    rw [show (fun x => eqV (sgV x) (V.str (chr1 c))) = fun x => decide (x = c) from funext e2]
    by_cases h : c ∈ (abcS L).cps.toList
    · rw [decide_eq_true h]
      exact List.any_eq_true.mpr ⟨c, h, decide_eq_true rfl⟩
    · rw [decide_eq_false h]
      exact List.any_eq_false.mpr fun x hx e => h (by rw [← of_decide_eq_true e]; exact hx)
  · rw [decide_eq_false q, Bool.false_and]
    refine List.any_eq_false.mpr fun x hx e => q ?_
    have e : ((⟨#[x]⟩ : Str) == z) = true := e
    rw [← eq_of_beq e]
    rfl
theorem flat_sg {cs : List Nat} : (cs.map sgV).all flatV = true := by
  rw [List.all_map]
  exact List.all_eq_true.mpr fun x _ => rfl
theorem in23 (n : Nat) : inV (.int (n : Int)) [.int 2, .int 3] = decide (n = 2 ∨ n = 3) := by
  show ((2 : Int) == (n : Int) || ((3 : Int) == (n : Int) || false)) = _
  by_cases h : n = 2 ∨ n = 3
  · rw [decide_eq_true h]
    rcases h with rfl | rfl <;> rfl
  · rw [decide_eq_false h]
    have h1 : ((2 : Int) == (n : Int)) = false := beq_eq_false_iff_ne.mpr (by omega)
    have h2 : ((3 : Int) == (n : Int)) = false := beq_eq_false_iff_ne.mpr (by omega)
    rw [h1, h2]
    rfl
theorem step_long {L : Int} {x : PyData} {r : List PyData} (h : r.length ≠ 1 ∧ r.length ≠ 2) : lawStep L (.tuple (x :: r)) = false := by
  show ((strIs x "stop" || strIs x "cut") && stepD L (.tuple (x :: r))) = false
  by_cases e2 : strIs x "cut" = true
  · have hz := strIs_eq e2
    subst hz
    match r, h with
    | [], _ => rfl
    | [_], h => exact absurd rfl h.1
    | [_, _], h => exact absurd rfl h.2
    | _ :: _ :: _ :: _, _ => rfl
  · by_cases e1 : strIs x "stop" = true
    · have hz := strIs_eq e1
      subst hz
      match r, h with
      | [], _ => rfl
      | [_], h => exact absurd rfl h.1
      | _ :: _ :: _, _ => rfl
    · rw [bool_not e1, bool_not e2]
      rfl
theorem scIsLine : FnScope ["_law_letters", "_law_value", "_law_step_here", "_law_item"] ["_law_letters", "_law_value"] (defScope sIsLineL) := ⟨rfl, rfl, rfl, by decide +kernel, rfl, by decide +kernel, by decide +kernel⟩
def spIsLine (K : PySem.W.Frag) : Sp := fun vs H Q _ => ∃ (B : Addr → Prop) (x : V) (d : PyData) (L : Int), vs = [.int L, x] ∧ Dt B K H x d ∧ nodes d ≤ 100000 ∧ 1 ≤ L ∧ L ≤ 3 ∧ ∀ H', Same H H' → Q (.bl (lawLine L d)) H'
theorem ok_isLineL {f fW : Addr} {fd fdW : FuncData} (F : Fun K "_law_is_line" "_law_is_line" sIsLineL f fd) (W : FnOk P w K mg base CX0 1 fW fdW ["_law_value", "_law_least", "_law_most"] (spNum K)) (FW : Fun K "_law_whole" "_law_whole" sWhole fW fdW) (bW : Binds K fdW ["_law_value", "_law_least", "_law_most"] []) (gW : mg "_law_whole" = some (.ref fW)) (T : Mg mg) : FnOk P w K mg base CX0 2 f fd ["_law_letters", "_law_value"] (spIsLine K) := by
  refine F.ok scIsLine (fun vs H Q E h => ?_) (fun cdv A outer s H vs Q E hr h => ?_)
  · obtain ⟨B, x, d, L, rfl, _⟩ := h
    rfl
  · obtain ⟨B, x, d, L, rfl, hd, hn, L1, L3, k⟩ := h
    have hu0 := hr.units0
    have hu1 := hu_of hr
    refine ⟨_, (pss_cons (ps_if (PW.pt (pw_or (pt_not (pt_val (pe_callB (r := rIsi K) call_isi (by rfl) T.isi PyProof.Rows.boot_isinstance (pa_cons (pv 1) (pa_cons (pe_bltn (v := .ty "tuple") (by rfl) T.tuple PyProof.Rows.boot_tuple rfl) pa_nil))))) (pw_or1 (pt_cmpR op_gt (pe_callB (r := rLen K) call_len_seq (by rfl) T.len PySem.boot_len (pa_cons (pv 1) pa_nil)) pe_int (nomark _))))) (pss_one (ps_ret pe_bl)) pss_nil)
      (pss_cons (ps_for PassesOwn.never rfl (pi_tup (pv 1)) (pg_name (i := 2) scIsLine.nd rfl (.inl rfl)) (pss_cons (ps_if (PW.pt (pw_or (pt_not (pt_val (pe_callB (r := rIsi K) call_isi (by rfl) T.isi PyProof.Rows.boot_isinstance (pa_cons (pv 2) (pa_cons (pe_bltn (v := .ty "tuple") (by rfl) T.tuple PyProof.Rows.boot_tuple rfl) pa_nil))))) (pw_or (pt_cmpR op_notIn_seq (pe_callB (r := rLen K) call_len_seq (by rfl) T.len PySem.boot_len (pa_cons (pv 2) pa_nil)) (pe_tup (pa_cons pe_int (pa_cons pe_int pa_nil))) (by rfl)) (pw_or (pt_not (pt_val (pe_callB (r := rIsi K) call_isi (by rfl) T.isi PyProof.Rows.boot_isinstance (pa_cons (pe_ix (r := rIxT K) ix_tup (pv 2) pe_int (fun _ _ => rfl)) (pa_cons (pe_bltn (v := .ty "str") (by rfl) T.str (by decide +kernel) rfl) pa_nil))))) (pw_or1 (pt_cmpR (op_notInStr hu1) (pe_ix (r := rIxT K) ix_tup (pv 2) pe_int (fun _ _ => rfl)) (pe_tup (pa_cons pe_str (pa_cons pe_str pa_nil))) (by rfl))))))) (pss_one (ps_ret pe_bl)) pss_nil)
      (pss_cons (ps_if (PW.pt (pw_and (pt_cmpR (op_eqStr hu0) (pe_ix (r := rIxT K) ix_tup (pv 2) pe_int (fun _ _ => rfl)) pe_str (nomark _)) (pw_and1 (PW.pt (pw_or (pt_cmpR op_ne (pe_callB (r := rLen K) call_len_seq (by rfl) T.len PySem.boot_len (pa_cons (pv 2) pa_nil)) pe_int (nomark _)) (pw_or (pt_not (pt_val (pe_callB (r := rIsi K) call_isi (by rfl) T.isi PyProof.Rows.boot_isinstance (pa_cons (pe_ix (r := rIxT K) ix_tup (pv 2) pe_int (fun _ _ => rfl)) (pa_cons (pe_bltn (v := .ty "str") (by rfl) T.str (by decide +kernel) rfl) pa_nil))))) (pw_or1 (pt_cmpR op_notIn_seq (pe_ix (r := rIxT K) ix_tup (pv 2) pe_int (fun _ _ => rfl)) (pe_callTy (r := rListS) (call_listS rfl) (by rfl) T.list (by decide +kernel) (pa_cons (pe_slice sl_str pe_str po_none (po_some (pv 0))) pa_nil)) (by rfl))))))))) (pss_one (ps_ret pe_bl)) pss_nil)
      (pss_one (ps_if (pt_cmpR (op_eqStr hu0) (pe_ix (r := rIxT K) ix_tup (pv 2) pe_int (fun _ _ => rfl)) pe_str (nomark _)) (pss_cons (ps_if (PW.pt (pw_or (pt_cmpR op_ne (pe_callB (r := rLen K) call_len_seq (by rfl) T.len PySem.boot_len (pa_cons (pv 2) pa_nil)) pe_int (nomark _)) (pw_or (pt_not (pt_val (pe_callB (r := rIsi K) call_isi (by rfl) T.isi PyProof.Rows.boot_isinstance (pa_cons (pe_ix (r := rIxT K) ix_tup (pv 2) pe_int (fun _ _ => rfl)) (pa_cons (pe_bltn (v := .ty "tuple") (by rfl) T.tuple PyProof.Rows.boot_tuple rfl) pa_nil))))) (pw_or (pt_cmpR op_ne (pe_callB (r := rLen K) call_len_seq (by rfl) T.len PySem.boot_len (pa_cons (pe_ix (r := rIxT K) ix_tup (pv 2) pe_int (fun _ _ => rfl)) pa_nil)) (pv 0) (nomark _)) (pw_or1 (pt_not (pt_val (pe_call W (hr.mono (by decide)) (by rfl) gW FW.kp bW .nil pass0 (pa_cons (pe_ix (r := rIxT K) ix_tup (pv 2) pe_int (fun _ _ => rfl)) (pa_cons pe_int (pa_cons pe_int pa_nil))))))))))) (pss_one (ps_ret pe_bl)) pss_nil)
      (pss_one (ps_if (pt_cmpR (op_neNilL hu0) (pe_lc (own := [("_law_item", 3)]) (g := gName 3) rfl scIsLine.nd (pi_tup (pe_ix (r := rIxT K) ix_tup (pv 2) pe_int (fun _ _ => rfl))) (blkOk_by (N := ["_law_letters", "_law_value", "_law_step_here", "_law_item"]) (sc := defScope sIsLineL) (by decide +kernel)) (fun _ _ _ _ _ => pg_name (i := 3) scIsLine.nd rfl (Or.inl rfl)) (fun _ _ _ _ _ => pts_one (pt_not (pt_val (pe_call W (hr.mono (by decide)) (by rfl) gW FW.kp bW .nil pass0 (pa_cons (pv 3) (pa_cons pe_int (pa_cons pe_int pa_nil))))))) (fun _ _ _ _ _ => (pv 3))) (pe_lstA pa_nil) (nomark _)) (pss_one (ps_ret pe_bl)) pss_nil))) pss_nil)))))
      (pss_one (ps_ret pe_bl)))), ?_⟩
    refine ⟨x, rfl, x, .ty "tuple", _, _, _, rfl, .ty _, tyD hd, kitT d, _, rfl, ?_⟩
    cases d with
    | none => exact k H (Same.refl H)
    | bool _ => exact k H (Same.refl H)
    | int _ => exact k H (Same.refl H)
    | str _ => exact k H (Same.refl H)
    | list _ => exact k H (Same.refl H)
    | dict _ => exact k H (Same.refl H)
    | tuple ds =>
      obtain ⟨a, xs, rfl, nb, hs, ha, hl⟩ := hd.tup_ref
      rw [nodes_tup] at hn
      refine ⟨.ref a, rfl, a, xs, rfl, .inr hs, _, 3, rfl, rfl, _, rfl, ite2 (fun h1 => ?_) (fun h1 => ?_)⟩
      · have h1 := of_decide_eq_true h1
        have := k H (Same.refl H)
        rw [show lawLine L (.tuple ds) = (decide (ds.length ≤ 3) && ds.all (lawStep L)) from rfl, decide_eq_false (by omega)] at this
        exact this
      have h1 : ¬ ((xs.length : Int) > 3) := fun q => h1 (decide_eq_true q)
      rw [show lawLine L (.tuple ds) = (decide (ds.length ≤ 3) && ds.all (lawStep L)) from rfl, decide_eq_true (by omega), Bool.true_and] at k
      refine ⟨_, rfl, a, rfl, ⟨xs, hs⟩, ?_⟩
      refine for_tup (xs := xs) (fun i σ H' => (∃ y2 y3, σ = [some (.int L), some (.ref a), y2, y3]) ∧ Same H H' ∧ (ds.take i).all (lawStep L) = true) ⟨⟨none, none, rfl⟩, Same.refl H, rfl⟩ (fun i σ H' _ q => same_seqT q.2.1 hs) ?_ ?_
      · rintro i y σ H1 hy ⟨⟨y2, y3, rfl⟩, sm, hall⟩
        obtain ⟨d, hdi, hd1⟩ := ha.getV hy
        have hd1 := same_dt sm hd1
        have hmn := mem_nodes (List.mem_of_getElem? hdi)
        have bad : ∀ (H' : Hp), Same H1 H' → lawStep L d = false → Q (.bl false) H' := fun H' s' hf => by
          have := k H' (sm.trans s')
          rw [all_no hdi hf] at this
          exact this
        have good : ∀ (y3 : Option V) (H' : Hp), Same H1 H' → lawStep L d = true → (∃ y2' y3', [some (V.int L), some (V.ref a), some y, y3] = [some (V.int L), some (V.ref a), y2', y3']) ∧ Same H H' ∧ (ds.take (i + 1)).all (lawStep L) = true := fun y3 H' s' ht => ⟨⟨_, _, rfl⟩, sm.trans s', all_up hdi ht hall⟩
        refine ⟨_, rfl, y, .ty "tuple", _, _, _, rfl, .ty _, tyD hd1, kitT d, _, rfl, ?_⟩
        cases d with
        | none => exact bad H1 (Same.refl H1) rfl
        | bool _ => exact bad H1 (Same.refl H1) rfl
        | int _ => exact bad H1 (Same.refl H1) rfl
        | str _ => exact bad H1 (Same.refl H1) rfl
        | list _ => exact bad H1 (Same.refl H1) rfl
        | dict _ => exact bad H1 (Same.refl H1) rfl
        | tuple zs =>
          obtain ⟨u, ws, rfl, nbu, hsu, hau, hlu⟩ := hd1.tup_ref
          rw [nodes_tup] at hmn
          refine ⟨_, rfl, u, ws, rfl, .inr hsu, by show 2 ≤ sizeLine; decide, fun t2 n2 => ⟨t2, _, rfl, .inr (SqT.of upd_same), rfl, rfl, _, rfl, ?_⟩⟩
          have s2 := same_new (o := .tup [.int 2, .int 3]) n2
          have hau := same_all s2 hau
          have hsu := same_seqT s2 hsu
          have bad : ∀ (H' : Hp), Same (upd H1 t2 (.tup [.int 2, .int 3])) H' → lawStep L (.tuple zs) = false → Q (.bl false) H' := fun H' s' hf => bad H' (s2.trans s') hf
          have good : ∀ (y3 : Option V) (H' : Hp), Same (upd H1 t2 (.tup [.int 2, .int 3])) H' → lawStep L (.tuple zs) = true → (∃ y2' y3', [some (V.int L), some (V.ref a), some (V.ref u), y3] = [some (V.int L), some (V.ref a), y2', y3']) ∧ Same H H' ∧ (ds.take (i + 1)).all (lawStep L) = true := fun y3 H' s' ht => good y3 H' (s2.trans s') ht
          generalize upd H1 t2 (.tup [.int 2, .int 3]) = G at *
          rw [show (if true = true then !inV (.int (ws.length : Int)) [.int 2, .int 3] else inV (.int (ws.length : Int)) [.int 2, .int 3]) = !(decide (ws.length = 2 ∨ ws.length = 3)) by rw [if_pos rfl, in23]]
          refine ite2 (fun h2 => ?_) (fun h2 => ?_)
          · have h2 : ¬ (ws.length = 2 ∨ ws.length = 3) := fun q => by
              rw [decide_eq_true q] at h2
              cases h2
            refine bad G (Same.refl G) ?_
            match zs, hlu with
            | [], _ => rfl
            | x :: r, hlu =>
              rw [List.length_cons] at hlu
              exact step_long ⟨by omega, by omega⟩
          have h2 : ws.length = 2 ∨ ws.length = 3 := of_decide_eq_true (not_cases' h2)
          match zs, hau, hlu, hmn, bad, good with
          | [], _, hlu, _, _, _ => rw [hlu] at h2; exact absurd h2 (by decide)
          | [_], _, hlu, _, _, _ => rw [hlu, List.length_singleton] at h2; exact absurd h2 (by decide)
          | x :: y :: r, hau, hlu, hmn, bad, good =>
            obtain ⟨vx, ws2, rfl, hx, hau1⟩ := dt_cons hau
            obtain ⟨vy, vs, rfl, hy, hau2⟩ := dt_cons hau1
            have hlr := hau2.len
            rw [nodesAll_cons, nodesAll_cons] at hmn
            refine ⟨_, rfl, u, _, 0, _, rfl, rfl, hsu, atI_nat (j := 0) rfl, vx, .ty "str", _, _, _, rfl, .ty _, tyD hx, kitS x, _, rfl, ?_⟩
            have nost : (strIs x "stop" || strIs x "cut") = false → lawStep L (.tuple (x :: y :: r)) = false := fun q => by
              show ((strIs x "stop" || strIs x "cut") && _) = false
              rw [q]
              rfl
            cases x with
            | none => exact bad G (Same.refl G) rfl
            | bool _ => exact bad G (Same.refl G) rfl
            | int _ => exact bad G (Same.refl G) rfl
            | tuple _ => exact bad G (Same.refl G) rfl
            | list _ => exact bad G (Same.refl G) rfl
            | dict _ => exact bad G (Same.refl G) rfl
            | str nm =>
              cases hx
              refine ⟨_, rfl, u, _, 0, _, rfl, rfl, hsu, atI_nat (j := 0) rfl, by show 2 ≤ sizeLine; decide, fun t3 n3 => ⟨B, .str nm, t3, ["stop", "cut"], rfl, .str nm, SqT.of upd_same, _, rfl, ?_⟩⟩
              have s3 := same_new (o := .tup [.str "stop", .str "cut"]) n3
              have hau3 := same_all s3 hau2
              have hsu := same_seqT s3 hsu
              have hy := same_dt s3 hy
              have bad : ∀ (H' : Hp), Same (upd G t3 (.tup [.str "stop", .str "cut"])) H' → lawStep L (.tuple (.str nm :: y :: r)) = false → Q (.bl false) H' := fun H' s' hf => bad H' (s3.trans s') hf
              have good : ∀ (y3 : Option V) (H' : Hp), Same (upd G t3 (.tup [.str "stop", .str "cut"])) H' → lawStep L (.tuple (.str nm :: y :: r)) = true → (∃ y2' y3', [some (V.int L), some (V.ref a), some (V.ref u), y3] = [some (V.int L), some (V.ref a), y2', y3']) ∧ Same H H' ∧ (ds.take (i + 1)).all (lawStep L) = true := fun y3 H' s' ht => good y3 H' (s3.trans s') ht
              generalize upd G t3 (.tup [.str "stop", .str "cut"]) = G3 at *
              have ein : inS (.str nm) ["stop", "cut"] = (strIs (.str nm) "stop" || strIs (.str nm) "cut") := by
                show (_ || (_ || false)) = _
                rw [Bool.or_false]
              refine ite2 (fun h4 => ?_) (fun h4 => ?_)
              · have h4 : (!inS (.str nm) ["stop", "cut"]) = true := h4
                rw [ein] at h4
                exact bad G3 (Same.refl G3) (nost (not_cases h4))
              have h4 : ¬ (!inS (.str nm) ["stop", "cut"]) = true := h4
              rw [ein] at h4
              have h4 := not_cases' h4
              have elaw : lawStep L (.tuple (.str nm :: y :: r)) = stepL L (.str nm) (y :: r) := by
                show ((strIs (.str nm) "stop" || strIs (.str nm) "cut") && _) = _
                rw [h4, Bool.true_and]
                rfl
              rw [elaw] at bad good
              by_cases c1 : strIs (.str nm) "stop" = true
              · have hz := strIs_eq c1
                cases hz
                have e1 : ∀ r : List PyData, stepL L (.str "stop") (y :: r) = stopR L y r := fun r => by
                  cases r <;> rfl
                rw [e1] at bad good
                refine ⟨_, rfl, u, _, 0, _, rfl, rfl, hsu, atI_nat (j := 0) rfl, B, .str "stop", "stop", rfl, .str _, _, rfl, ite2 (fun _ => ?_) (fun q => absurd rfl q)⟩
                refine ⟨_, rfl, u, _, rfl, .inr hsu, rfl, _, rfl, ite2 (fun q1 => ?_) (fun q1 => ?_)⟩
                · refine ite2 (fun _ => bad G3 (Same.refl G3) ?_) (fun q => absurd rfl q)
                  cases r with
                  | nil =>
                    exfalso
                    have q1 : (!decide (V.int (((V.str "stop" :: vy :: vs).length : Nat) : Int) = V.int 2)) = true := q1
                    rw [List.length_cons, List.length_cons, hlr] at q1
                    cases q1
                  | cons _ _ => rfl
                have hr0 : r = [] := by
                  have h5 := ne_int' q1
                  rw [List.length_cons, List.length_cons, hlr] at h5
                  exact List.length_eq_zero_iff.mp (by omega)
                subst hr0
                refine ⟨_, rfl, u, _, 1, _, rfl, rfl, hsu, atI_nat (j := 1) rfl, vy, .ty "str", _, _, _, rfl, .ty _, tyD hy, kitS y, _, rfl, ?_⟩
                have fin : letD L y = false → Q (.bl false) G3 := fun e => bad G3 (Same.refl G3) e
                cases y with
                | none => exact fin rfl
                | bool _ => exact fin rfl
                | int _ => exact fin rfl
                | tuple _ => exact fin rfl
                | list _ => exact fin rfl
                | dict _ => exact fin rfl
                | str z =>
                  cases hy
                  refine ⟨_, rfl, u, _, 1, _, rfl, rfl, hsu, atI_nat (j := 1) rfl, _, rfl, L, rfl, "abc", rfl, by show 3 ≤ sizeLine; decide, abcS L, rfl, sz_of (by have := (abc_len' L1 L3).2; omega), fun p4 G4 s4 n4 l4 => ⟨p4, _, rfl, .inl (SqL.of l4), rfl, flat_sg, _, rfl, ?_⟩⟩
                  rw [show (if true = true then !inV (.str z) ((abcS L).cps.toList.map sgV) else inV (.str z) ((abcS L).cps.toList.map sgV)) = !(letD L (.str z)) by rw [if_pos rfl, in_letters]]
                  refine ite2 (fun q2 => ?_) (fun q2 => ?_)
                  · exact bad G4 s4 (not_cases q2)
                  · refine ⟨_, rfl, u, _, 0, _, rfl, rfl, same_seqT s4 hsu, atI_nat (j := 0) rfl, B, .str "stop", "cut", rfl, .str _, _, rfl, ite2 (fun q => absurd q (by decide +kernel)) (fun _ => good _ _ s4 (not_cases' q2))⟩
              · rw [bool_not c1, Bool.false_or] at h4
                have hz := strIs_eq h4
                cases hz
                have e1 : stepL L (.str "cut") (y :: r) = cutR L y r := by
                  match r with
                  | [] => rfl
                  | [_] => rfl
                  | _ :: _ :: _ => rfl
                rw [e1] at bad good
                refine ⟨_, rfl, u, _, 0, _, rfl, rfl, hsu, atI_nat (j := 0) rfl, B, .str "cut", "stop", rfl, .str _, _, rfl, ite2 (fun q => absurd q (by decide +kernel)) (fun _ => ?_)⟩
                refine ⟨_, rfl, u, _, 0, _, rfl, rfl, hsu, atI_nat (j := 0) rfl, B, .str "cut", "cut", rfl, .str _, _, rfl, ite2 (fun _ => ?_) (fun q => absurd rfl q)⟩
                refine ⟨_, rfl, u, _, rfl, .inr hsu, rfl, _, rfl, ite2 (fun q1 => ?_) (fun q1 => ?_)⟩
                · refine bad G3 (Same.refl G3) ?_
                  match r, hlr, q1 with
                  | [], _, _ => rfl
                  | [m], hlr, q1 =>
                    exfalso
                    have q1 : (!decide (V.int (((V.str "cut" :: vy :: vs).length : Nat) : Int) = V.int 3)) = true := q1
                    rw [List.length_cons, List.length_cons, hlr] at q1
                    cases q1
                  | _ :: _ :: _, _, _ => rfl
                have hr1 : r.length = 1 := by
                  have h5 := ne_int' q1
                  rw [List.length_cons, List.length_cons, hlr] at h5
                  omega
                obtain ⟨m, rfl⟩ : ∃ m, r = [m] := by
                  match r, hr1 with
                  | [m], _ => exact ⟨m, rfl⟩
                obtain ⟨vm, vs2, rfl, hm, hau4⟩ := dt_cons hau3
                cases hau4
                refine ⟨_, rfl, u, _, 1, _, rfl, rfl, hsu, atI_nat (j := 1) rfl, vy, .ty "tuple", _, _, _, rfl, .ty _, tyD hy, kitT y, _, rfl, ?_⟩
                have bad : ∀ (H' : Hp), Same G3 H' → (unitD L y && numD m 0 30) = false → Q (.bl false) H' := bad
                have good : ∀ (y3 : Option V) (H' : Hp), Same G3 H' → (unitD L y && numD m 0 30) = true → _ := good
                cases y with
                | none => exact bad G3 (Same.refl G3) rfl
                | bool _ => exact bad G3 (Same.refl G3) rfl
                | int _ => exact bad G3 (Same.refl G3) rfl
                | str _ => exact bad G3 (Same.refl G3) rfl
                | list _ => exact bad G3 (Same.refl G3) rfl
                | dict _ => exact bad G3 (Same.refl G3) rfl
                | tuple es =>
                  obtain ⟨b, ys, rfl, nb2, hsb, hab, hlb⟩ := hy.tup_ref
                  refine ⟨_, rfl, u, _, 1, _, rfl, rfl, hsu, atI_nat (j := 1) rfl, b, ys, rfl, .inr hsb, _, rfl, rfl, _, rfl, ite2 (fun q3 => ?_) (fun q3 => ?_)⟩
                  · refine bad G3 (Same.refl G3) ?_
                    have e1 : unitD L (.tuple es) = false := tupAll_no (by rw [← hlb]; exact ne_int q3)
                    rw [e1]
                    rfl
                  have e1 : unitD L (.tuple es) = es.all (fun x => numD x 0 9) := tupAll_yes (by rw [← hlb]; exact ne_int' q3)
                  rw [e1] at bad good
                  refine ⟨_, rfl, u, _, 2, vm, rfl, rfl, hsu, atI_nat (j := 2) rfl, B, vm, m, 0, 30, rfl, hm, _, rfl, ite2 (fun q4 => ?_) (fun q4 => ?_)⟩
                  · refine bad G3 (Same.refl G3) ?_
                    rw [not_cases q4, Bool.and_false]
                  rw [not_cases' q4, Bool.and_true] at bad good
                  rw [nodes_tup] at hmn
                  have les := len_nodes es
                  refine ⟨_, rfl, u, _, 1, .ref b, rfl, rfl, hsu, atI_nat (j := 1) rfl, b, rfl, ⟨ys, hsb⟩, fun D hD => ?_⟩
                  refine lc_tup (K := K) (a := b) (xs := ys) (FInv (fun x => numD x 0 9) es G3 D) (fstart hD) (fun i H' _ p => same_seqT p.1 hsb) ?_ ?_
                  · rintro j y H4 hy p
                    obtain ⟨d3, hm3, hd3, c1, c2⟩ := fturn hab (Nat.lt_of_le_of_lt (show es.length ≤ 100000 by omega) (by decide)) hD hy p
                    refine ⟨rfl, _, rfl, B, y, d3, 0, 9, rfl, hd3, _, rfl, ite2 (fun h9 => ?_) (fun h9 => ?_)⟩
                    · obtain ⟨acc2, e1, e2, e3⟩ := c2 H4 (Same.refl H4) (not_cases h9)
                      exact ⟨_, rfl, acc2, e1, e2, e3⟩
                    · exact c1 H4 (Same.refl H4) (not_cases' h9)
                  · rintro H4 p
                    obtain ⟨sm4, acc, hS, he⟩ := fend (K := K) hlb p
                    refine ⟨by show 0 ≤ sizeLine; decide, fun N G4 s4 nN _ lN => ⟨D, N, acc, rfl, rfl, same_seqL s4 hS, SqL.of lN, _, rfl, ?_⟩⟩
                    rw [he]
                    refine ite2 (fun h9 => ?_) (fun h9 => ?_)
                    · exact bad _ (sm4.trans s4) (not_cases h9)
                    · exact good _ _ (sm4.trans s4) (not_cases' h9)
      · rintro σ H1 ⟨⟨y2, y3, rfl⟩, sm, hall⟩
        rw [hl, List.take_length] at hall
        rw [hall] at k
        exact k H1 sm
end
section
variable {P : Program} {w : World} {K : PySem.W.Frag} {mg : Str → Option Value} {base : Heap}
theorem scIsQ : FnScope ["_law_letters", "_law_value", "_law_depth", "_law_least", "_law_most", "_law_sign", "_law_item"] ["_law_letters", "_law_value", "_law_depth"] (defScope sIsQueryL) := ⟨rfl, rfl, rfl, by decide +kernel, rfl, by decide +kernel, by decide +kernel⟩
theorem nodes_str' (z : Str) : nodes (.str z) = 1 + z.length := by rw [nodes]
theorem fgen_no {α : Type} {f : α → Bool} {ds : List α} {H H' H'' : Hp} {D : Addr} {i : Nat} {d : α} (hx : ds[i]? = some d) (p : FInv f ds H D i H') (s2 : Same H' H'') (hf : f d = true) : FInv f ds H D (i + 1) H'' := by
  obtain ⟨sm, acc, hD', hl, hi⟩ := p
  have ht : (ds.take (i + 1)).all f = ((ds.take i).all f && f d) := by
    rw [List.take_add_one, hx, List.all_append]
    simp
  refine ⟨sm.trans s2, acc, s2 _ _ hD', by omega, ?_⟩
  rw [ht, hf, Bool.and_true]
  exact hi
theorem fgen_yes {α : Type} {f : α → Bool} {ds : List α} {H H' H'' : Hp} {D : Addr} {i : Nat} {d : α} {y : V} (hz : ds.length < sizeLine) (hD : H D = none) (hx : ds[i]? = some d) (p : FInv f ds H D i H') (s2 : Same H' H'') (hf : f d = false) : ∃ acc, H'' D = some (.lst acc) ∧ acc.length < sizeLine ∧ FInv f ds H D (i + 1) (upd H'' D (.lst (acc ++ [y]))) := by
  obtain ⟨sm, acc, hD', hl, hi⟩ := p
  have hlt := (List.getElem?_eq_some_iff.mp hx).1
  have ht : (ds.take (i + 1)).all f = ((ds.take i).all f && f d) := by
    rw [List.take_add_one, hx, List.all_append]
    simp
  refine ⟨acc, s2 _ _ hD', by omega, fun b o z => ?_, _, upd_same, ?_, ?_⟩
  · rw [upd_ne (ne_of_none z hD)]
    exact s2 _ _ (sm _ _ z)
  · rw [List.length_append, List.length_singleton]
    omega
  · rw [ht, hf, Bool.and_false]
    exact ⟨fun z => absurd z (by simp), fun z => absurd z Bool.false_ne_true⟩
def chk (L lo hi : Int) (y : PyData) : Bool := match y with
  | .str z => (decide (lo ≤ (z.length : Int)) && decide ((z.length : Int) ≤ hi)) && z.cps.toList.all (inL L)
  | _ => false
theorem chk20 (L : Int) (y : PyData) : wordD L 20 y = chk L 0 20 y := by
  cases y with
  | str z =>
    show _ = ((decide ((0 : Int) ≤ (z.length : Int)) && _) && _)
    rw [decide_eq_true (show (0 : Int) ≤ (z.length : Int) by omega), Bool.true_and]
    rfl
  | _ => rfl
theorem chk4 (L : Int) (y : PyData) : (wordD L 4 y && !(strIs y "")) = chk L 1 4 y := by
  cases y with
  | str z =>
    show ((decide ((z.length : Int) ≤ 4) && z.cps.toList.all (inL L)) && !(decide (z = ""))) = ((decide ((1 : Int) ≤ (z.length : Int)) && decide ((z.length : Int) ≤ 4)) && z.cps.toList.all (inL L))
    by_cases q : z = ""
    · subst q
      rfl
    · have : 1 ≤ z.length := by
        rw [TL.len_tl]
        refine List.length_pos_iff.mpr fun e => q (TL.ext_tl e)
      rw [decide_eq_false q, decide_eq_true (show (1 : Int) ≤ (z.length : Int) by omega), Bool.true_and]
      exact Bool.and_true _
  | _ => rfl
def spQueryL (K : PySem.W.Frag) (n : Nat) : Sp := fun vs H Q _ => ∃ (B : Addr → Prop) (x : V) (d : PyData) (L : Int), vs = [.int L, x, .int (n : Int)] ∧ Dt B K H x d ∧ nodes d ≤ 100000 ∧ 1 ≤ L ∧ L ≤ 3 ∧ ∀ H', Same H H' → Q (.bl (isQ L (lawLine L) n d)) H'
theorem queryL_body {f fL fK : Addr} {fd fdL fdK : FuncData} {n kk : Nat} {sp : Sp} (F : Fun K "_law_is_query" "_law_is_query" sIsQueryL f fd) (gREC : mg "_law_is_query" = some (.ref f)) (bREC : Binds K fd ["_law_letters", "_law_value", "_law_depth"] [])
    (hk : 2 ≤ kk) (REC : FnOk P w K mg base CX0 kk f fd ["_law_letters", "_law_value", "_law_depth"] sp) (hsp : ∀ m, n = m + 1 → sp = spQueryL K m) (LI : FnOk P w K mg base CX0 2 fL fdL ["_law_letters", "_law_value"] (spIsLine K)) (FLI : Fun K "_law_is_line" "_law_is_line" sIsLineL fL fdL) (bLI : Binds K fdL ["_law_letters", "_law_value"] []) (gLI : mg "_law_is_line" = some (.ref fL))
    (KI : FnOk P w K mg base CX0 2 fK fdK ["_law_letters", "_law_value"] (spIsKind K)) (FKI : Fun K "_law_is_kind" "_law_is_kind" sIsKindL fK fdK) (bKI : Binds K fdK ["_law_letters", "_law_value"] []) (gKI : mg "_law_is_kind" = some (.ref fK)) (T : Mg mg) : FnOk P w K mg base CX0 (kk + 1) f fd ["_law_letters", "_law_value", "_law_depth"] (spQueryL K n) := by
  have FREC := F
  refine F.ok scIsQ (fun vs H Q E h => ?_) (fun cdv A outer s H vs Q E hr h => ?_)
  · obtain ⟨B, x, d, L, rfl, _⟩ := h
    rfl
  · obtain ⟨B, x, d, L, rfl, hd, hn, L1, L3, k⟩ := h
    have hu1 := hu_of hr
    have hu0 := hr.units0
    refine ⟨_, (pss_cons (ps_if (PW.pt (pw_or (pt_cmpR op_eq (pv 2) pe_int (nomark _)) (pw_or (pt_not (pt_val (pe_callB (r := rIsi K) call_isi (by rfl) T.isi PyProof.Rows.boot_isinstance (pa_cons (pv 1) (pa_cons (pe_bltn (v := .ty "tuple") (by rfl) T.tuple PyProof.Rows.boot_tuple rfl) pa_nil))))) (pw_or (pt_cmpR op_notIn_seq (pe_callB (r := rLen K) call_len_seq (by rfl) T.len PySem.boot_len (pa_cons (pv 1) pa_nil)) (pe_tup (pa_cons pe_int (pa_cons pe_int pa_nil))) (by rfl)) (pw_or1 (pt_not (pt_val (pe_callB (r := rIsi K) call_isi (by rfl) T.isi PyProof.Rows.boot_isinstance (pa_cons (pe_ix (r := rIxT K) ix_tup (pv 1) pe_int (fun _ _ => rfl)) (pa_cons (pe_bltn (v := .ty "str") (by rfl) T.str (by decide +kernel) rfl) pa_nil)))))))))) (pss_one (ps_ret pe_bl)) pss_nil)
      (pss_cons (ps_if (pt_cmpR (op_eqStr hu0) (pe_ix (r := rIxT K) ix_tup (pv 1) pe_int (fun _ _ => rfl)) pe_str (nomark _)) (pss_one (ps_ret (pe_and (pe_cmpR op_eq (pe_callB (r := rLen K) call_len_seq (by rfl) T.len PySem.boot_len (pa_cons (pv 1) pa_nil)) pe_int (nomark _)) (pe_and (pe_call LI (hr.mono (by omega)) (by rfl) gLI FLI.kp bLI .nil pass0 (pa_cons (pv 0) (pa_cons (pe_ix (r := rIxT K) ix_tup (pv 1) pe_int (fun _ _ => rfl)) pa_nil))) (pe_one (pe_call REC hr (by rfl) gREC FREC.kp bREC .nil pass0 (pa_cons (pv 0) (pa_cons (pe_ix (r := rIxT K) ix_tup (pv 1) pe_int (fun _ _ => rfl)) (pa_cons (pe_op op_sub (pv 2) pe_int) pa_nil))))))))) pss_nil)
      (pss_cons (ps_if (pt_cmpR op_ne (pe_callB (r := rLen K) call_len_seq (by rfl) T.len PySem.boot_len (pa_cons (pv 1) pa_nil)) pe_int (nomark _)) (pss_one (ps_ret pe_bl)) pss_nil)
      (pss_cons (ps_if (pt_cmpR (op_inStr hu1) (pe_ix (r := rIxT K) ix_tup (pv 1) pe_int (fun _ _ => rfl)) (pe_tup (pa_cons pe_str (pa_cons pe_str (pa_cons pe_str (pa_cons pe_str (pa_cons pe_str pa_nil)))))) (by rfl)) (pss_cons (ps_asg (pe_ifExp (pt_cmpR (op_eqStr hu0) (pe_ix (r := rIxT K) ix_tup (pv 1) pe_int (fun _ _ => rfl)) pe_str (nomark _)) (pe_tup (pa_cons pe_int (pa_cons pe_int pa_nil))) (pe_tup (pa_cons pe_int (pa_cons pe_int pa_nil)))) (pg_tup rfl (pgs_cons (pg_name (i := 3) scIsQ.nd rfl (.inl rfl)) (pgs_cons (pg_name (i := 4) scIsQ.nd rfl (.inl rfl)) pgs_nil))))
      (pss_cons (ps_if (PW.pt (pw_or (pt_not (pt_val (pe_callB (r := rIsi K) call_isi (by rfl) T.isi PyProof.Rows.boot_isinstance (pa_cons (pe_ix (r := rIxT K) ix_tup (pv 1) pe_int (fun _ _ => rfl)) (pa_cons (pe_bltn (v := .ty "str") (by rfl) T.str (by decide +kernel) rfl) pa_nil))))) (pw_or1 (pt_not (pt_chain op_le op_le (pv 3) (pe_callB call_len_str (by rfl) T.len PySem.boot_len (pa_cons (pe_ix (r := rIxT K) ix_tup (pv 1) pe_int (fun _ _ => rfl)) pa_nil)) (pv 4)))))) (pss_one (ps_ret pe_bl)) pss_nil)
      (pss_one (ps_ret (pe_cmpR (op_eqNilL hu0) (pe_lc (own := [("_law_sign", 5)]) (g := gName 5) rfl scIsQ.nd (pi_str (pe_ix (r := rIxT K) ix_tup (pv 1) pe_int (fun _ _ => rfl))) (blkOk_by (N := ["_law_letters", "_law_value", "_law_depth", "_law_least", "_law_most", "_law_sign", "_law_item"]) (sc := defScope sIsQueryL) (by decide +kernel)) (fun _ _ _ _ _ => pg_name (i := 5) scIsQ.nd rfl (Or.inl rfl)) (fun _ _ _ _ _ => pts_one (pt_cmpR op_notIn_sign (pv 5) (pe_slice sl_str pe_str po_none (po_some (pv 0))) (by rfl))) (fun _ _ _ _ _ => (pv 5))) (pe_lstA pa_nil) (nomark _)))))) pss_nil)
      (pss_cons (ps_if (pt_cmpR (op_eqStr hu0) (pe_ix (r := rIxT K) ix_tup (pv 1) pe_int (fun _ _ => rfl)) pe_str (nomark _)) (pss_one (ps_ret (pe_call KI (hr.mono (by omega)) (by rfl) gKI FKI.kp bKI .nil pass0 (pa_cons (pv 0) (pa_cons (pe_ix (r := rIxT K) ix_tup (pv 1) pe_int (fun _ _ => rfl)) pa_nil))))) pss_nil)
      (pss_cons (ps_if (pt_cmpR (op_eqStr hu0) (pe_ix (r := rIxT K) ix_tup (pv 1) pe_int (fun _ _ => rfl)) pe_str (nomark _)) (pss_one (ps_ret (pe_call REC hr (by rfl) gREC FREC.kp bREC .nil pass0 (pa_cons (pv 0) (pa_cons (pe_ix (r := rIxT K) ix_tup (pv 1) pe_int (fun _ _ => rfl)) (pa_cons (pe_op op_sub (pv 2) pe_int) pa_nil)))))) pss_nil)
      (pss_cons (ps_if (PW.pt (pw_or (pt_cmpR (op_notInStr hu1) (pe_ix (r := rIxT K) ix_tup (pv 1) pe_int (fun _ _ => rfl)) (pe_tup (pa_cons pe_str (pa_cons pe_str pa_nil))) (by rfl)) (pw_or (pt_not (pt_val (pe_callB (r := rIsi K) call_isi (by rfl) T.isi PyProof.Rows.boot_isinstance (pa_cons (pe_ix (r := rIxT K) ix_tup (pv 1) pe_int (fun _ _ => rfl)) (pa_cons (pe_bltn (v := .ty "tuple") (by rfl) T.tuple PyProof.Rows.boot_tuple rfl) pa_nil))))) (pw_or1 (pt_cmpR op_gt (pe_callB (r := rLen K) call_len_seq (by rfl) T.len PySem.boot_len (pa_cons (pe_ix (r := rIxT K) ix_tup (pv 1) pe_int (fun _ _ => rfl)) pa_nil)) pe_int (nomark _)))))) (pss_one (ps_ret pe_bl)) pss_nil)
      (pss_one (ps_ret (pe_cmpR (op_eqNilL hu0) (pe_lc (own := [("_law_item", 6)]) (g := gName 6) rfl scIsQ.nd (pi_tup (pe_ix (r := rIxT K) ix_tup (pv 1) pe_int (fun _ _ => rfl))) (blkOk_by (N := ["_law_letters", "_law_value", "_law_depth", "_law_least", "_law_most", "_law_sign", "_law_item"]) (sc := defScope sIsQueryL) (by decide +kernel)) (fun _ _ _ _ _ => pg_name (i := 6) scIsQ.nd rfl (Or.inl rfl)) (fun _ _ _ _ _ => pts_one (pt_not (pt_val (pe_call REC hr (by rfl) gREC FREC.kp bREC .nil pass0 (pa_cons (pv 0) (pa_cons (pv 6) (pa_cons (pe_op op_sub (pv 2) pe_int) pa_nil))))))) (fun _ _ _ _ _ => (pv 6))) (pe_lstA pa_nil) (nomark _))))))))))), ?_⟩
    refine ⟨_, rfl, rfl, _, rfl, ite2 (fun h0 => ?_) (fun h0 => ?_)⟩
    · have h0 := V.int.inj (of_decide_eq_true h0)
      obtain rfl : n = 0 := by omega
      exact k H (Same.refl H)
    obtain ⟨m, rfl⟩ : ∃ m, n = m + 1 := by
      refine ⟨n - 1, ?_⟩
      have : n ≠ 0 := fun q => h0 (by rw [q]; exact decide_eq_true rfl)
      omega
    have esp := hsp m rfl
    subst esp
    refine ⟨x, rfl, x, .ty "tuple", _, _, _, rfl, .ty _, tyD hd, kitT d, _, rfl, ?_⟩
    cases d with
    | none => exact k H (Same.refl H)
    | bool _ => exact k H (Same.refl H)
    | int _ => exact k H (Same.refl H)
    | str _ => exact k H (Same.refl H)
    | list _ => exact k H (Same.refl H)
    | dict _ => exact k H (Same.refl H)
    | tuple ds =>
      obtain ⟨a, xs, rfl, nb, hs, ha, hl⟩ := hd.tup_ref
      rw [nodes_tup] at hn
      refine ⟨.ref a, rfl, a, xs, rfl, .inr hs, by show 2 ≤ sizeLine; decide, fun t2 n2 => ⟨t2, _, rfl, .inr (SqT.of upd_same), rfl, rfl, _, rfl, ?_⟩⟩
      have s2 := same_new (o := .tup [.int 2, .int 3]) n2
      have ha := same_all s2 ha
      have hs := same_seqT s2 hs
      have k : ∀ H', Same (upd H t2 (.tup [.int 2, .int 3])) H' → Q (.bl (isQ L (lawLine L) (m + 1) (.tuple ds))) H' := fun H' s' => k H' (s2.trans s')
      generalize upd H t2 (.tup [.int 2, .int 3]) = G at *
      rw [show (if true = true then !inV (.int (xs.length : Int)) [.int 2, .int 3] else inV (.int (xs.length : Int)) [.int 2, .int 3]) = !(decide (xs.length = 2 ∨ xs.length = 3)) by rw [if_pos rfl, in23]]
      refine ite2 (fun h2 => ?_) (fun h2 => ?_)
      · have h2 : ¬ (xs.length = 2 ∨ xs.length = 3) := fun q => by
          rw [decide_eq_true q] at h2
          cases h2
        have e : isQ L (lawLine L) (m + 1) (.tuple ds) = false := by
          match ds, hl with
          | [], _ => rfl
          | [_], _ => rfl
          | [x, y], hl => exact absurd (.inl hl) h2
          | [x, y, z], hl => exact absurd (.inr hl) h2
          | _ :: _ :: _ :: _ :: _, _ => rfl
        rw [e] at k
        exact k G (Same.refl G)
      have h2 : xs.length = 2 ∨ xs.length = 3 := of_decide_eq_true (not_cases' h2)
      obtain ⟨x, y, r, rfl, hr⟩ : ∃ x y r, ds = x :: y :: r ∧ r.length ≤ 1 := by
        match ds, hl with
        | [], hl => rw [hl] at h2; exact absurd h2 (by decide)
        | [_], hl => rw [hl, List.length_singleton] at h2; exact absurd h2 (by decide)
        | x :: y :: r, hl =>
          rw [List.length_cons, List.length_cons] at hl
          exact ⟨x, y, r, rfl, by omega⟩
      obtain ⟨vx, ws1, rfl, hx, ha1⟩ := dt_cons ha
      obtain ⟨vy, vs, rfl, hy, ha2⟩ := dt_cons ha1
      have hlr := ha2.len
      rw [nodesAll_cons, nodesAll_cons] at hn
      have kk : ∀ (H' : Hp) (b : Bool), Same G H' → isQ L (lawLine L) (m + 1) (.tuple (x :: y :: r)) = b → Q (.bl b) H' := fun H' b sm e => by
        rw [← e]
        exact k H' sm
      refine ⟨_, rfl, a, _, 0, _, rfl, rfl, hs, atI_nat (j := 0) rfl, vx, .ty "str", _, _, _, rfl, .ty _, tyD hx, kitS x, _, rfl, ?_⟩
      have nst : isStr x = false → isQ L (lawLine L) (m + 1) (.tuple (x :: y :: r)) = false := fun q => by
        match r, hr with
        | [], _ =>
          cases x with
          | str _ => cases q
          | _ => rfl
        | [z], _ =>
          cases x with
          | str _ => cases q
          | _ => rfl
      cases x with
      | none => exact kk G _ (Same.refl G) (nst rfl)
      | bool _ => exact kk G _ (Same.refl G) (nst rfl)
      | int _ => exact kk G _ (Same.refl G) (nst rfl)
      | tuple _ => exact kk G _ (Same.refl G) (nst rfl)
      | list _ => exact kk G _ (Same.refl G) (nst rfl)
      | dict _ => exact kk G _ (Same.refl G) (nst rfl)
      | str nm =>
        cases hx
        refine ⟨_, rfl, a, _, 0, _, rfl, rfl, hs, atI_nat (j := 0) rfl, B, .str nm, "seen", rfl, .str _, _, rfl, ite2 (fun h3 => ?_) (fun h3 => ?_)⟩
        · refine ⟨_, rfl, a, _, rfl, .inr hs, rfl, _, rfl, ite2 (fun h4 => ?_) (fun h4 => ?_)⟩
          · have h4 : r.length = 1 := by
              have := V.int.inj (of_decide_eq_true h4)
              rw [List.length_cons, List.length_cons] at this
              omega
            obtain ⟨z, rfl⟩ : ∃ z, r = [z] := by
              match r, h4 with
              | [z], _ => exact ⟨z, rfl⟩
            obtain ⟨vz, vs2, rfl, hz, ha3⟩ := dt_cons ha2
            cases ha3
            rw [nodesAll_cons] at hn
            have eq : isQ L (lawLine L) (m + 1) (.tuple [.str nm, y, z]) = (lawLine L y && isQ L (lawLine L) m z) := by
              show (if strIs (.str nm) "seen" = true then _ else _) = _
              rw [if_pos h3]
            refine ⟨_, rfl, _, rfl, a, _, 1, _, rfl, rfl, hs, atI_nat (j := 1) rfl, B, _, y, L, rfl, hy, by omega, L1, L3, fun H1 s1 => ⟨_, rfl, ite2 (fun h5 => ?_) (fun h5 => ?_)⟩⟩
            · refine ⟨_, rfl, _, rfl, a, _, 2, _, rfl, rfl, same_seqT s1 hs, atI_nat (j := 2) rfl, _, rfl, _, _, rfl, rfl, B, _, z, L, congrArg (fun q : Int => [V.int L, _, V.int q]) (show ((m + 1 : Nat) : Int) - 1 = (m : Int) by omega), same_dt s1 hz, by omega, L1, L3, fun H2 s2 => kk H2 _ (s1.trans s2) ?_⟩
              rw [eq, h5, Bool.true_and]
            · refine kk H1 _ s1 ?_
              rw [eq, bool_not h5, Bool.false_and]
          · refine kk G _ (Same.refl G) ?_
            match r, hr, hlr, h4 with
            | [], _, _, _ =>
              show (if strIs (.str nm) "seen" = true then _ else _) = _
              rw [if_pos h3]
            | [z], _, hlr, h4 =>
              exfalso
              apply h4
              refine decide_eq_true ?_
              rw [List.length_cons, List.length_cons, hlr]
              rfl
        have h3 := bool_not h3
        refine ⟨_, rfl, a, _, rfl, .inr hs, rfl, _, rfl, ite2 (fun h4 => ?_) (fun h4 => ?_)⟩
        · refine kk G _ (Same.refl G) ?_
          match r, hr, hlr, h4 with
          | [], _, hlr, h4 =>
            exfalso
            have h4 : (!decide (V.int (((V.str nm :: vy :: vs).length : Nat) : Int) = V.int 2)) = true := h4
            rw [List.length_cons, List.length_cons, hlr] at h4
            cases h4
          | [z], _, _, _ =>
            show (if strIs (.str nm) "seen" = true then _ else _) = _
            rw [h3, if_neg Bool.false_ne_true]
        have h4 := ne_int' h4
        have hr0 : r = [] := by
          rw [List.length_cons, List.length_cons, hlr] at h4
          exact List.length_eq_zero_iff.mp (by omega)
        subst hr0
        cases ha2
        rw [nodesAll_nil] at hn
        have kk : ∀ (H' : Hp) (b : Bool), Same G H' → heldQ L (isQ L (lawLine L) m) (.str nm) y = b → Q (.bl b) H' := fun H' b sm e => kk H' b sm (by
          show (if strIs (.str nm) "seen" = true then _ else _) = _
          rw [h3, if_neg Bool.false_ne_true]
          exact e)
        refine ⟨_, rfl, a, _, 0, _, rfl, rfl, hs, atI_nat (j := 0) rfl, by show 5 ≤ sizeLine; decide, fun t5 n5 => ⟨B, .str nm, t5, ["below", "above", "like", "is", "has"], rfl, .str _, SqT.of upd_same, _, rfl, ?_⟩⟩
        have s5 := same_new (o := .tup [.str "below", .str "above", .str "like", .str "is", .str "has"]) n5
        have e5 : inS (.str nm) ["below", "above", "like", "is", "has"] = (inS (.str nm) ["below", "above", "like", "is"] || strIs (.str nm) "has") := by
          show (_ || (_ || (_ || (_ || (_ || false))))) = ((_ || (_ || (_ || (_ || false)))) || _)
          simp only [Bool.or_false, Bool.or_assoc]
        refine ite2 (fun h5 => ?_) (fun h5 => ?_)
        · have h5 : inS (.str nm) ["below", "above", "like", "is", "has"] = true := h5
          rw [e5] at h5
          generalize upd G t5 (.tup [.str "below", .str "above", .str "like", .str "is", .str "has"]) = G5 at *
          refine ⟨_, rfl, a, _, 0, _, rfl, rfl, same_seqT s5 hs, atI_nat (j := 0) rfl, B, .str nm, "has", rfl, .str _, _, rfl, ite2 (fun h6 => ?_) (fun h6 => ?_)⟩
          · refine ⟨by show 2 ≤ sizeLine; decide, fun t6 n6 => ⟨t6, _, rfl, SqT.of upd_same, rfl, _, _, rfl, _, _, rfl, rfl, ?_⟩⟩
            have s6 := same_new (o := .tup [.int 1, .int 4]) n6
            have hs6 := same_seqT (s5.trans s6) hs
            have kk6 : ∀ (H' : Hp) (b : Bool), Same (upd G5 t6 (.tup [.int 1, .int 4])) H' → heldQ L (isQ L (lawLine L) m) (.str nm) y = b → Q (.bl b) H' := fun H' b sm e => kk H' b ((s5.trans s6).trans sm) e
            have hy6 := same_dt (s5.trans s6) hy
            generalize upd G5 t6 (.tup [.int 1, .int 4]) = G6 at *
            have hb : inS (.str nm) ["below", "above", "like", "is"] = false := by
              rw [strIs_eq h6]
              decide +kernel
            have heq : heldQ L (isQ L (lawLine L) m) (.str nm) y = chk L 1 4 y := by
              rw [heldQ_eq, hb, if_neg Bool.false_ne_true, if_pos h6, chk4]
            refine ⟨_, rfl, a, _, 1, _, rfl, rfl, hs6, atI_nat (j := 1) rfl, vy, .ty "str", _, _, _, rfl, .ty _, tyD hy6, kitS y, _, rfl, ?_⟩
            have no6 : chk L 1 4 y = false → Q (.bl false) G6 := fun e => kk6 G6 _ (Same.refl G6) (heq.trans e)
            cases y with
            | none => exact no6 rfl
            | bool _ => exact no6 rfl
            | int _ => exact no6 rfl
            | tuple _ => exact no6 rfl
            | list _ => exact no6 rfl
            | dict _ => exact no6 rfl
            | str z =>
              cases hy6
              have hz : z.length ≤ 100000 := by
                rw [nodes_str', nodes_str'] at hn
                omega
              have ez : chk L 1 4 (.str z) = ((decide ((1 : Int) ≤ (z.length : Int)) && decide ((z.length : Int) ≤ 4)) && z.cps.toList.all (inL L)) := rfl
              refine ⟨_, rfl, _, rfl, a, _, 1, _, rfl, rfl, hs6, atI_nat (j := 1) rfl, z, rfl, sz_of hz, 1, (z.length : Int), rfl, rfl, _, rfl, ite2 (fun q1 => ?_) (fun q1 => ?_)⟩
              rotate_left
              · refine ⟨_, rfl, no6 ?_⟩
                rw [ez, bool_not q1]
                rfl
              refine ⟨_, rfl, (z.length : Int), 4, rfl, rfl, _, rfl, ite2 (fun q2 => ?_) (fun q2 => ?_)⟩
              · refine no6 ?_
                rw [ez, not_cases q2, Bool.and_false]
                rfl
              rw [ez, q1, not_cases' q2, Bool.true_and, Bool.true_and] at heq
              refine ⟨_, rfl, a, _, 1, _, rfl, rfl, hs6, atI_nat (j := 1) rfl, z, rfl, fun D hD => ?_⟩
              refine lc_it walk_str (FInv (inL L) z.cps.toList G6 D) (fstart hD) (fun _ _ _ _ => True.intro) ?_ ?_
              · rintro i x H1 H2 hi p ⟨rfl, c, hc, rfl⟩
                have e1 : z.cps.toList[i]? = some c := by
                  rw [Array.getElem?_toList]
                  exact hc
                refine ⟨rfl, _, rfl, _, rfl, L, rfl, "abc", rfl, by show 3 ≤ sizeLine; decide, c, abcS L, rfl, rfl, _, rfl, ite2 (fun q3 => ?_) (fun q3 => ?_)⟩
                · obtain ⟨acc2, e2, e3, e4⟩ := fgen_yes (y := .str ⟨#[c]⟩) (show z.cps.toList.length < sizeLine by rw [← TL.len_tl]; exact Nat.lt_of_le_of_lt hz (by decide)) hD e1 p (Same.refl _) (not_cases q3)
                  exact ⟨_, rfl, acc2, e2, e3, e4⟩
                · exact fgen_no e1 p (Same.refl _) (not_cases' q3)
              · rintro H1 p
                obtain ⟨sm4, acc, hS, he⟩ := fend (K := K) (Array.length_toList).symm p
                refine ⟨by show 0 ≤ sizeLine; decide, fun N G7 s7 nN _ lN => ⟨D, N, acc, rfl, rfl, same_seqL s7 hS, SqL.of lN, ?_⟩⟩
                rw [id, he]
                exact kk6 _ _ (sm4.trans s7) heq
          · refine ⟨by show 2 ≤ sizeLine; decide, fun t6 n6 => ⟨t6, _, rfl, SqT.of upd_same, rfl, _, _, rfl, _, _, rfl, rfl, ?_⟩⟩
            have s6 := same_new (o := .tup [.int 0, .int 20]) n6
            have hs6 := same_seqT (s5.trans s6) hs
            have kk6 : ∀ (H' : Hp) (b : Bool), Same (upd G5 t6 (.tup [.int 0, .int 20])) H' → heldQ L (isQ L (lawLine L) m) (.str nm) y = b → Q (.bl b) H' := fun H' b sm e => kk H' b ((s5.trans s6).trans sm) e
            have hy6 := same_dt (s5.trans s6) hy
            generalize upd G5 t6 (.tup [.int 0, .int 20]) = G6 at *
            have hb : inS (.str nm) ["below", "above", "like", "is"] = true := by
              rw [bool_not h6, Bool.or_false] at h5
              exact h5
            have heq : heldQ L (isQ L (lawLine L) m) (.str nm) y = chk L 0 20 y := by
              rw [heldQ_eq, if_pos hb, chk20]
            refine ⟨_, rfl, a, _, 1, _, rfl, rfl, hs6, atI_nat (j := 1) rfl, vy, .ty "str", _, _, _, rfl, .ty _, tyD hy6, kitS y, _, rfl, ?_⟩
            have no6 : chk L 0 20 y = false → Q (.bl false) G6 := fun e => kk6 G6 _ (Same.refl G6) (heq.trans e)
            cases y with
            | none => exact no6 rfl
            | bool _ => exact no6 rfl
            | int _ => exact no6 rfl
            | tuple _ => exact no6 rfl
            | list _ => exact no6 rfl
            | dict _ => exact no6 rfl
            | str z =>
              cases hy6
              have hz : z.length ≤ 100000 := by
                rw [nodes_str', nodes_str'] at hn
                omega
              have ez : chk L 0 20 (.str z) = ((decide ((0 : Int) ≤ (z.length : Int)) && decide ((z.length : Int) ≤ 20)) && z.cps.toList.all (inL L)) := rfl
              refine ⟨_, rfl, _, rfl, a, _, 1, _, rfl, rfl, hs6, atI_nat (j := 1) rfl, z, rfl, sz_of hz, 0, (z.length : Int), rfl, rfl, _, rfl, ite2 (fun q1 => ?_) (fun q1 => ?_)⟩
              rotate_left
              · refine ⟨_, rfl, no6 ?_⟩
                rw [ez, bool_not q1]
                rfl
              refine ⟨_, rfl, (z.length : Int), 20, rfl, rfl, _, rfl, ite2 (fun q2 => ?_) (fun q2 => ?_)⟩
              · refine no6 ?_
                rw [ez, not_cases q2, Bool.and_false]
                rfl
              rw [ez, q1, not_cases' q2, Bool.true_and, Bool.true_and] at heq
              refine ⟨_, rfl, a, _, 1, _, rfl, rfl, hs6, atI_nat (j := 1) rfl, z, rfl, fun D hD => ?_⟩
              refine lc_it walk_str (FInv (inL L) z.cps.toList G6 D) (fstart hD) (fun _ _ _ _ => True.intro) ?_ ?_
              · rintro i x H1 H2 hi p ⟨rfl, c, hc, rfl⟩
                have e1 : z.cps.toList[i]? = some c := by
                  rw [Array.getElem?_toList]
                  exact hc
                refine ⟨rfl, _, rfl, _, rfl, L, rfl, "abc", rfl, by show 3 ≤ sizeLine; decide, c, abcS L, rfl, rfl, _, rfl, ite2 (fun q3 => ?_) (fun q3 => ?_)⟩
                · obtain ⟨acc2, e2, e3, e4⟩ := fgen_yes (y := .str ⟨#[c]⟩) (show z.cps.toList.length < sizeLine by rw [← TL.len_tl]; exact Nat.lt_of_le_of_lt hz (by decide)) hD e1 p (Same.refl _) (not_cases q3)
                  exact ⟨_, rfl, acc2, e2, e3, e4⟩
                · exact fgen_no e1 p (Same.refl _) (not_cases' q3)
              · rintro H1 p
                obtain ⟨sm4, acc, hS, he⟩ := fend (K := K) (Array.length_toList).symm p
                refine ⟨by show 0 ≤ sizeLine; decide, fun N G7 s7 nN _ lN => ⟨D, N, acc, rfl, rfl, same_seqL s7 hS, SqL.of lN, ?_⟩⟩
                rw [id, he]
                exact kk6 _ _ (sm4.trans s7) heq
        have h5 : inS (.str nm) ["below", "above", "like", "is", "has"] = false := bool_not h5
        rw [e5] at h5
        have h6 : inS (.str nm) ["below", "above", "like", "is"] = false ∧ strIs (.str nm) "has" = false := by
          cases q1 : inS (.str nm) ["below", "above", "like", "is"]
          · rw [q1, Bool.false_or] at h5
            exact ⟨rfl, h5⟩
          · rw [q1] at h5
            cases h5
        obtain ⟨h5, h6⟩ := h6
        have hy := same_dt s5 hy
        have hs := same_seqT s5 hs
        have kk : ∀ (H' : Hp) (b : Bool), Same (upd G t5 (.tup [.str "below", .str "above", .str "like", .str "is", .str "has"])) H' → heldQ L (isQ L (lawLine L) m) (.str nm) y = b → Q (.bl b) H' := fun H' b sm e => kk H' b (s5.trans sm) e
        generalize upd G t5 (.tup [.str "below", .str "above", .str "like", .str "is", .str "has"]) = G5 at *
        refine ⟨_, rfl, a, _, 0, _, rfl, rfl, hs, atI_nat (j := 0) rfl, B, .str nm, "of", rfl, .str _, _, rfl, ite2 (fun h7 => ?_) (fun h7 => ?_)⟩
        · refine ⟨_, rfl, _, rfl, a, _, 1, _, rfl, rfl, hs, atI_nat (j := 1) rfl, B, _, y, L, rfl, hy, by omega, L1, L3, fun H1 s1 => kk H1 _ s1 ?_⟩
          rw [heldQ_eq, h5, if_neg Bool.false_ne_true, h6, if_neg Bool.false_ne_true, if_pos h7]
        have h7 := bool_not h7
        refine ⟨_, rfl, a, _, 0, _, rfl, rfl, hs, atI_nat (j := 0) rfl, B, .str nm, "not", rfl, .str _, _, rfl, ite2 (fun h8 => ?_) (fun h8 => ?_)⟩
        · refine ⟨_, rfl, _, rfl, a, _, 1, _, rfl, rfl, hs, atI_nat (j := 1) rfl, _, rfl, _, _, rfl, rfl, B, _, y, L, congrArg (fun q : Int => [V.int L, _, V.int q]) (show ((m + 1 : Nat) : Int) - 1 = (m : Int) by omega), hy, by omega, L1, L3, fun H2 s2 => kk H2 _ s2 ?_⟩
          rw [heldQ_eq, h5, if_neg Bool.false_ne_true, h6, if_neg Bool.false_ne_true, h7, if_neg Bool.false_ne_true, if_pos h8]
        have h8 := bool_not h8
        have eq : heldQ L (isQ L (lawLine L) m) (.str nm) y = (if inS (.str nm) ["all", "some"] = true then lotQ (isQ L (lawLine L) m) y else false) := by
          rw [heldQ_eq, h5, if_neg Bool.false_ne_true, h6, if_neg Bool.false_ne_true, h7, if_neg Bool.false_ne_true, h8, if_neg Bool.false_ne_true]
        refine ⟨_, rfl, a, _, 0, _, rfl, rfl, hs, atI_nat (j := 0) rfl, by show 2 ≤ sizeLine; decide, fun t7 n7 => ⟨B, .str nm, t7, ["all", "some"], rfl, .str _, SqT.of upd_same, _, rfl, ?_⟩⟩
        have s7 := same_new (o := .tup [.str "all", .str "some"]) n7
        have hy := same_dt s7 hy
        have hs := same_seqT s7 hs
        have kk : ∀ (H' : Hp) (b : Bool), Same (upd G5 t7 (.tup [.str "all", .str "some"])) H' → heldQ L (isQ L (lawLine L) m) (.str nm) y = b → Q (.bl b) H' := fun H' b sm e => kk H' b (s7.trans sm) e
        generalize upd G5 t7 (.tup [.str "all", .str "some"]) = G7 at *
        refine ite2 (fun h9 => ?_) (fun h9 => ?_)
        · have h9 : (!inS (.str nm) ["all", "some"]) = true := h9
          refine kk _ _ (Same.refl _) ?_
          rw [eq, not_cases h9, if_neg Bool.false_ne_true]
        have h9 : inS (.str nm) ["all", "some"] = true := not_cases' h9
        rw [h9, if_pos rfl] at eq
        refine ⟨_, rfl, a, _, 1, _, rfl, rfl, hs, atI_nat (j := 1) rfl, vy, .ty "tuple", _, _, _, rfl, .ty _, tyD hy, kitT y, _, rfl, ?_⟩
        cases y with
        | none => exact kk _ _ (Same.refl _) eq
        | bool _ => exact kk _ _ (Same.refl _) eq
        | int _ => exact kk _ _ (Same.refl _) eq
        | str _ => exact kk _ _ (Same.refl _) eq
        | list _ => exact kk _ _ (Same.refl _) eq
        | dict _ => exact kk _ _ (Same.refl _) eq
        | tuple es =>
          have eq : heldQ L (isQ L (lawLine L) m) (.str nm) (.tuple es) = (decide (es.length ≤ 4) && es.all (isQ L (lawLine L) m)) := eq
          obtain ⟨b, ys, rfl, nb2, hsb, hab, hlb⟩ := hy.tup_ref
          rw [nodes_tup] at hn
          refine ⟨_, rfl, a, _, 1, _, rfl, rfl, hs, atI_nat (j := 1) rfl, b, ys, rfl, .inr hsb, _, 4, rfl, rfl, _, rfl, ite2 (fun h10 => ?_) (fun h10 => ?_)⟩
          · have h10 := of_decide_eq_true h10
            refine kk _ _ (Same.refl _) ?_
            rw [eq, decide_eq_false (by omega)]
            rfl
          have h10 : ¬ ((ys.length : Int) > 4) := fun q => h10 (decide_eq_true q)
          have les := len_nodes es
          refine ⟨_, rfl, a, _, 1, _, rfl, rfl, hs, atI_nat (j := 1) rfl, b, rfl, ⟨ys, hsb⟩, fun D hD => ?_⟩
          refine lc_tup (K := K) (a := b) (xs := ys) (FInv (isQ L (lawLine L) m) es G7 D) (fstart hD) (fun i H' _ p => same_seqT p.1 hsb) ?_ ?_
          · rintro j y1 H4 hy1 p
            obtain ⟨d3, hm3, hd3, c1, c2⟩ := fturn hab (Nat.lt_of_le_of_lt (show es.length ≤ 100000 by omega) (by decide)) hD hy1 p
            have hmn := mem_nodes hm3
            refine ⟨rfl, _, rfl, _, rfl, _, rfl, _, _, rfl, rfl, B, y1, d3, L, congrArg (fun q : Int => [V.int L, _, V.int q]) (show ((m + 1 : Nat) : Int) - 1 = (m : Int) by omega), hd3, by omega, L1, L3, fun H5 s5 => ⟨_, rfl, ite2 (fun h11 => ?_) (fun h11 => ?_)⟩⟩
            · obtain ⟨acc2, e1, e2, e3⟩ := c2 H5 s5 (not_cases h11)
              exact ⟨_, rfl, acc2, e1, e2, e3⟩
            · exact c1 H5 s5 (not_cases' h11)
          · rintro H4 p
            obtain ⟨sm4, acc, hS, he⟩ := fend (K := K) hlb p
            refine ⟨by show 0 ≤ sizeLine; decide, fun N G8 s8 nN _ lN => ⟨D, N, acc, rfl, rfl, same_seqL s8 hS, SqL.of lN, ?_⟩⟩
            rw [id, he]
            refine kk _ _ (sm4.trans s8) ?_
            rw [eq, decide_eq_true (by omega), Bool.true_and]
theorem ok_queryL {f fL fK : Addr} {fd fdL fdK : FuncData} (F : Fun K "_law_is_query" "_law_is_query" sIsQueryL f fd) (gREC : mg "_law_is_query" = some (.ref f)) (bREC : Binds K fd ["_law_letters", "_law_value", "_law_depth"] [])
    (LI : FnOk P w K mg base CX0 2 fL fdL ["_law_letters", "_law_value"] (spIsLine K)) (FLI : Fun K "_law_is_line" "_law_is_line" sIsLineL fL fdL) (bLI : Binds K fdL ["_law_letters", "_law_value"] []) (gLI : mg "_law_is_line" = some (.ref fL))
    (KI : FnOk P w K mg base CX0 2 fK fdK ["_law_letters", "_law_value"] (spIsKind K)) (FKI : Fun K "_law_is_kind" "_law_is_kind" sIsKindL fK fdK) (bKI : Binds K fdK ["_law_letters", "_law_value"] []) (gKI : mg "_law_is_kind" = some (.ref fK)) (T : Mg mg) : ∀ n : Nat, FnOk P w K mg base CX0 (3 + n) f fd ["_law_letters", "_law_value", "_law_depth"] (spQueryL K n)
  | 0 => queryL_body (kk := 2) F gREC bREC (Nat.le_refl _) no_fn (fun t' e => nomatch e) LI FLI bLI gLI KI FKI bKI gKI T
  | n + 1 => queryL_body (kk := 3 + n) F gREC bREC (Nat.le_trans (by decide) (Nat.le_add_right 3 n)) (ok_queryL F gREC bREC LI FLI bLI gLI KI FKI bKI gKI T n) (fun t' e => by rw [Nat.succ.inj e]) LI FLI bLI gLI KI FKI bKI gKI T
end
/-! ### lists of data that are made while the deck is drawn from -/
theorem keep_store {B : Addr → Prop} {H : Hp} {p : Addr} {o : HO} (hp : B p) : Keep B H (upd H p o) := fun x u nb e => by
  rw [upd_ne (fun z : x = p => nb (z.symm ▸ hp))]
  exact e
def BD (B : Addr → Prop) (D : Addr) : Addr → Prop := fun b => B b ∨ b = D
def LInv (K : PySem.W.Frag) (B : Addr → Prop) (a c D : Addr) (H0 : Hp) (n0 s : Int) (N : PyData → Prop) (j : Nat) (H' : Hp) : Prop :=
  ∃ (cells : List Int) (n' : Int) (vs : List V) (ds : List PyData), DeckAt a c cells n' H' ∧ n0 ≤ n' ∧ n' ≤ n0 + s * j ∧ Keep (Bd a c) H0 H' ∧ H' D = some (.lst vs) ∧ vs.length = j ∧ DtAll (BD B D) K H' vs ds ∧ ∀ d ∈ ds, N d
theorem linv_start {K : PySem.W.Frag} {B : Addr → Prop} {a c D : Addr} {H0 : Hp} {n0 s : Int} {N : PyData → Prop} {cells : List Int} (dk : DeckAt a c cells n0 H0) (hD : H0 D = none) : LInv K B a c D H0 n0 s N 0 (upd H0 D (.lst [])) :=
  ⟨cells, n0, [], [], deck_new dk hD, Int.le_refl _, by simp, keep_new hD, upd_same, rfl, .nil, fun d z => absurd z List.not_mem_nil⟩
theorem tb_bd {B : Addr → Prop} {a c D : Addr} {H0 H' : Hp} {cells : List Int} {n : Int} {o : HO} (tb : TB B H0) (dk : DeckAt a c cells n H') (k : Keep (Bd a c) H0 H') (hD : H' D = some o) : TB (BD B D) H' := fun b z e => by
  rcases z with z | z
  · exact tb_keep tb dk k b z e
  · rw [z, hD] at e
    cases e
theorem linv_step {K : PySem.W.Frag} {B : Addr → Prop} {a c D : Addr} {H0 H1 H2 : Hp} {n0 n1 n2 s : Int} {N : PyData → Prop} {j : Nat} {vs : List V} {ds : List PyData} {v : V} {d : PyData} {cells2 : List Int} (hB : ∀ b, Bd a c b → B b) (hD0 : H0 D = none) (nD : ¬ Bd a c D) (hj : j ≤ 1000) (h0 : n0 ≤ n1) (h1 : n1 ≤ n0 + s * j) (kp : Keep (Bd a c) H0 H1)
    (hD : H1 D = some (.lst vs)) (hl : vs.length = j) (ha : DtAll (BD B D) K H1 vs ds) (hN : ∀ d ∈ ds, N d) (dk : DeckAt a c cells2 n2 H2) (k2 : Keep (Bd a c) H1 H2) (h2 : n1 ≤ n2) (h3 : n2 ≤ n1 + s) (hv : Dt (BD B D) K H2 v d) (hn : N d) :
    ∃ acc, H2 D = some (.lst acc) ∧ acc.length < sizeLine ∧ LInv K B a c D H0 n0 s N (j + 1) (upd H2 D (.lst (acc ++ [v]))) := by
  have kw : Keep (BD B D) H1 H2 := k2.wide fun b z => .inl (hB b z)
  have ks : Keep (BD B D) H2 (upd H2 D (.lst (vs ++ [v]))) := keep_store (.inr rfl)
  refine ⟨vs, k2 _ _ nD hD, small1000 (by omega), cells2, n2, vs ++ [v], ds ++ [d], deck_upd dk nD, by omega, ?_, fun b o nb z => ?_, upd_same, ?_, ?_, fun e he => ?_⟩
  · have e : s * ((j + 1 : Nat) : Int) = s * j + s := by
      rw [Int.natCast_add, Int.mul_add]
      simp
    rw [e]
    omega
  · rw [upd_ne (ne_of_none z hD0)]
    exact k2 _ _ nb (kp _ _ nb z)
  · rw [List.length_append, hl]
    rfl
  · exact (DtAll.keep ks _ _ (DtAll.keep kw _ _ ha)).append (.cons (Dt.keep ks _ _ hv) .nil)
  · rcases List.mem_append.mp he with he | he
    · exact hN e he
    · rw [List.mem_singleton.mp he]
      exact hn
theorem dt_tup {K : PySem.W.Frag} {B : Addr → Prop} {D q : Addr} {H : Hp} {vs : List V} {ds : List PyData} (tb : TB B H) (hq : H q = none) (ha : DtAll (BD B D) K H vs ds) : Dt B K (upd H q (.tup vs)) (.ref q) (.tuple ds) :=
  (mk_tupB tb hq (DtAll.weak (fun b z => .inl z) _ _ ha)).1
theorem all_of {α : Type} {f : α → PyData} {P : α → Prop} : ∀ {ds : List PyData}, (∀ d ∈ ds, ∃ x, d = f x ∧ P x) → ∃ xs : List α, ds = xs.map f ∧ ∀ x ∈ xs, P x
  | [], _ => ⟨[], rfl, fun x z => absurd z List.not_mem_nil⟩
  | d :: ds, h => by
    obtain ⟨xs, e, hs⟩ := all_of (ds := ds) fun u hu => h u (List.mem_cons_of_mem _ hu)
    obtain ⟨x, rfl, hx⟩ := h d List.mem_cons_self
    refine ⟨x :: xs, by rw [e]; rfl, fun y hy => ?_⟩
    rcases List.mem_cons.mp hy with rfl | hy
    · exact hx
    · exact hs y hy
theorem nodes_all {N : Nat} : ∀ {ds : List PyData}, (∀ d ∈ ds, nodes d ≤ N) → nodesAll ds ≤ N * ds.length
  | [], _ => by rw [nodesAll_nil]; exact Nat.zero_le _
  | d :: ds, h => by
    have h1 := nodes_all (ds := ds) fun e he => h e (List.mem_cons_of_mem _ he)
    have h2 := h d List.mem_cons_self
    rw [nodesAll_cons, List.length_cons, Nat.mul_add]
    omega
section
variable {P : Program} {w : World} {K : PySem.W.Frag} {mg : Str → Option Value} {base : Heap}
def spOneS : Sp := fun vs H Q _ => ∃ (a c : Addr) (cells : List Int) (n : Int) (z : Str), vs = [.ref a, .str z] ∧ DeckAt a c cells n H ∧ 0 ≤ n ∧ n ≤ 1000000 ∧ 1 ≤ z.length ∧ z.length ≤ 1000 ∧
  ∀ (H' : Hp) (cells' : List Int) (x : Nat), x ∈ z.cps.toList → DeckAt a c cells' (n + 1) H' → Keep (Bd a c) H H' → Q (.str ⟨#[x]⟩) H'
theorem ok_oneS {f fD : Addr} {fd fdD : FuncData} (F : Fun K "_law_one" "_law_one" sOne f fd) (D : FnOk P w K mg base CX0 1 fD fdD ["_law_deck_here", "_law_most"] spDraw) (FD : Fun K "_law_draw" "_law_draw" sDraw fD fdD) (bD : Binds K fdD ["_law_deck_here", "_law_most"] [])
    (gD : mg "_law_draw" = some (.ref fD)) (mLen : mg "len" = none) : FnOk P w K mg base CX0 2 f fd ["_law_deck_here", "_law_items"] spOneS := by
  refine F.ok scOne (fun vs H Q E h => ?_) (fun cdv A outer s H vs Q E hr h => ?_)
  · obtain ⟨a, c, cells, n, z, rfl, _⟩ := h
    rfl
  · obtain ⟨a, c, cells, n, z, rfl, dk, n0, n1, l0, l1, k⟩ := h
    refine ⟨_, pss_one (ps_ret (pe_ix ix_str (pv 1) (pe_call D hr (by rfl) gD FD.kp bD .nil pass0 (pa_cons (pv 0) (pa_cons (pe_callB call_len_str (by rfl) mLen PySem.boot_len (pa_cons (pv 1) pa_nil)) pa_nil))) (fun _ _ => rfl))), ?_⟩
    refine ⟨_, rfl, _, rfl, _, rfl, z, rfl, sz_of (by omega), a, c, cells, n, _, rfl, dk, by omega, by omega, n0, n1, fun H' cells' r r0 r1 dk' kp => ?_⟩
    have el : z.cps.toList.length = z.length := Array.length_toList
    have hr2 : r.toNat < z.cps.toList.length := by omega
    have e := atI_nat (List.getElem?_eq_getElem hr2)
    rw [show ((r.toNat : Nat) : Int) = r by omega] at e
    exact ⟨z, r, z.cps.toList[r.toNat], rfl, rfl, sz_of (by omega), e, k H' cells' _ (List.getElem_mem hr2) dk' kp⟩
end
/-! ### a swap drawn -/
def SgL (L : Int) (v : V) : Prop := ∃ c : Nat, Ltr L c ∧ v = sgV c
def WdL (L : Int) (k : Int) (v : V) : Prop := ∃ z : Str, v = .str z ∧ (z.length : Int) = k ∧ LetS L z
def PrOk (L : Int) (p : Str × Str) : Prop := LetS L p.1 ∧ LetS L p.2 ∧ 1 ≤ p.1.length ∧ p.1.length ≤ 2 ∧ p.2.length = p.1.length
theorem sgl_list {L : Int} : ∀ {acc : List V}, (∀ v ∈ acc, SgL L v) → ∃ cs : List Nat, acc = cs.map sgV ∧ ∀ c ∈ cs, Ltr L c
  | [], _ => ⟨[], rfl, fun c z => absurd z List.not_mem_nil⟩
  | v :: acc, h => by
    obtain ⟨cs, e, hs⟩ := sgl_list (acc := acc) fun u hu => h u (List.mem_cons_of_mem _ hu)
    obtain ⟨c, hc, rfl⟩ := h v List.mem_cons_self
    refine ⟨c :: cs, by rw [e]; rfl, fun x hx => ?_⟩
    rcases List.mem_cons.mp hx with rfl | hx
    · exact hc
    · exact hs x hx
theorem abc_len {L : Int} (h : 1 ≤ L) (h2 : L ≤ 3) : 1 ≤ (abcS L).length ∧ (abcS L).length ≤ 3 := by
  have : L = 1 ∨ L = 2 ∨ L = 3 := by omega
  rcases this with rfl | rfl | rfl <;> decide +kernel
section
variable {P : Program} {w : World} {K : PySem.W.Frag} {mg : Str → Option Value} {base : Heap}
def spDrawn (m : Int) (K : PySem.W.Frag) (ps : V → List V → Int → Prop) : Sp := fun vs H Q _ => ∃ (B : Addr → Prop) (a c : Addr) (cells : List Int) (n L : Int), ps (.ref a) vs L ∧ (∀ b, Bd a c b → B b) ∧ TB B H ∧ DeckAt a c cells n H ∧ 0 ≤ n ∧ n ≤ 900000 ∧ 1 ≤ L ∧ L ≤ 3 ∧
  ∀ (H' : Hp) (cells' : List Int) (n' : Int) (v : V) (sp : Stp), DeckAt a c cells' n' H' → n ≤ n' → n' ≤ n + m → Keep (Bd a c) H H' → Dt B K H' v sp.dat → sp.Ok L → Q v H'
theorem scSw : FnScope ["_law_deck_here", "_law_letters", "_law_found", "_law_pieces", "_law_turn", "_law_extent", "_law_one_here", "_law_other", "_law_k", "_law_side"] ["_law_deck_here", "_law_letters"] (defScope sSwapL) := ⟨rfl, rfl, rfl, by decide +kernel, rfl, by decide +kernel, by decide +kernel⟩
theorem ok_swapL {f fD fO : Addr} {fd fdD fdO : FuncData} (F : Fun K "_law_swap" "_law_swap" sSwapL f fd)
    (D : FnOk P w K mg base CX0 1 fD fdD ["_law_deck_here", "_law_most"] spDraw) (FD : Fun K "_law_draw" "_law_draw" sDraw fD fdD) (bD : Binds K fdD ["_law_deck_here", "_law_most"] []) (gD : mg "_law_draw" = some (.ref fD))
    (O : FnOk P w K mg base CX0 2 fO fdO ["_law_deck_here", "_law_items"] spOneS) (FO : Fun K "_law_one" "_law_one" sOne fO fdO) (bO : Binds K fdO ["_law_deck_here", "_law_items"] []) (gO : mg "_law_one" = some (.ref fO)) (T : Mg mg) :
    FnOk P w K mg base CX0 3 f fd ["_law_deck_here", "_law_letters"] (spDrawn 40 K fun a vs L => vs = [a, .int L]) := by
  refine F.ok scSw (fun vs H Q E h => ?_) (fun cdv A outer s H vs Q E hr h => ?_)
  · obtain ⟨B, a, c, cells, n, L, rfl, _⟩ := h
    rfl
  · obtain ⟨B, a, c, cells, n, L, rfl, hB, tb, dk, n0, n1, L1, L3, k⟩ := h
    have hu0 := hr.units0
    obtain ⟨ab1, ab3⟩ := abc_len L1 L3
    refine ⟨_, (pss_cons (ps_par (i := 2) (j := 3) rfl scSw.nd rfl rfl (by decide) rfl rfl (pa_cons (pe_lstA pa_nil) (pa_cons (pe_lstA pa_nil) pa_nil)) (by rfl))
      (pss_cons (ps_for PassesOwn.never rfl (pi_range1 (by rfl) T.range (pa_cons (pe_op op_add pe_int (pe_call D (hr.mono (by decide)) (by rfl) gD FD.kp bD .nil pass0 (pa_cons (pv 0) (pa_cons pe_int pa_nil)))) pa_nil)) (pg_name (i := 4) scSw.nd rfl (.inl rfl)) (pss_cons (ps_set (i := 5) scSw.nd rfl (.inr rfl) (pe_op op_add pe_int (pe_call D (hr.mono (by decide)) (by rfl) gD FD.kp bD .nil pass0 (pa_cons (pv 0) (pa_cons pe_int pa_nil)))))
      (pss_cons (ps_asg (pe_lc (te := tBM K "str" (rJoin K) _ _) (own := [("_law_side", 9)]) (g := gName 9) (tt := tYes) rfl scSw.nd (pi_range1 (by rfl) T.range (pa_cons pe_int pa_nil)) (blkOk_by (N := ["_law_deck_here", "_law_letters", "_law_found", "_law_pieces", "_law_turn", "_law_extent", "_law_one_here", "_law_other", "_law_k", "_law_side"]) (sc := defScope sSwapL) (by decide +kernel)) (fun _ _ _ _ _ => pg_name (i := 9) scSw.nd rfl (Or.inl rfl)) (fun _ _ _ _ _ => pts_nil) (fun _ _ _ _ _ => pe_bm (r := rJoin K) PySem.F.plainAttrs_str PySem.F.slot_str_join PySem.F.type_str_join mt_join pe_str (pa_cons (pe_lc (own := [("_law_k", 8)]) (g := gName 8) (tt := tYes) rfl scSw.nd (pi_range1 (by rfl) T.range (pa_cons (pv 5) pa_nil)) (blkOk_by (by kernel_rfl)) (fun _ _ _ _ _ => pg_name (i := 8) scSw.nd rfl (Or.inl rfl)) (fun _ _ _ _ _ => pts_nil) (fun _ _ _ _ _ => pe_call O hr (by rfl) gO FO.kp bO .nil pass0 (pa_cons (pv 0) (pa_cons (pe_slice sl_str pe_str po_none (po_some (pv 1))) pa_nil)))) pa_nil))) (pg_unl rfl (pgs_cons (pg_name (i := 6) scSw.nd rfl (.inl rfl)) (pgs_cons (pg_name (i := 7) scSw.nd rfl (.inl rfl)) pgs_nil))))
      (pss_one (ps_if (PW.pt (pw_and (pt_cmpR op_ne (pv 6) (pv 7) (nomark _)) (pw_and (pt_cmpR op_notIn_seq (pv 6) (pv 3) (by rfl)) (pw_and1 (pt_cmpR op_notIn_seq (pv 7) (pv 3) (by rfl)))))) (pss_cons (ps_expr (pe_bm PySem.F.plainAttrs_list PySem.F.slot_list_extend PySem.F.type_list_extend mt_extend (pv 3) (pa_cons (pe_lstA (pa_cons (pv 6) (pa_cons (pv 7) pa_nil))) pa_nil)))
      (pss_one (ps_expr (pe_bm PySem.F.plainAttrs_list PySem.F.slot_list_append PySem.F.type_list_append mt_append (pv 2) (pa_cons (pe_tup (pa_cons (pv 6) (pa_cons (pv 7) pa_nil))) pa_nil))))) pss_nil)))))
      (pss_cons (ps_if (pt_cmpR (op_eqNilL hu0) (pv 2) (pe_lst pa_nil) (nomark _)) (pss_one (ps_ret (pe_tup (pa_cons pe_str (pa_cons (pe_tup (pa_cons (pe_op op_repS (pe_tup (pa_cons pe_int pa_nil)) (pv 1)) pa_nil)) (pa_cons (pe_tup (pa_cons (pe_callTy (call_tupS rfl) (by rfl) T.tuple PyProof.Rows.boot_tuple (pa_cons (pe_slice sl_str pe_str po_none (po_some (pv 1))) pa_nil)) pa_nil)) pa_nil)))))) pss_nil)
      (pss_one (ps_ret (pe_tup (pa_cons pe_str (pa_cons (pe_callTy call_tuple_of (by rfl) T.tuple PyProof.Rows.boot_tuple (pa_cons (pv 2) pa_nil)) pa_nil)))))))), ?_⟩
    refine ⟨by show 0 ≤ sizeLine; decide, fun pf G1 t1 nf _ lf => ⟨by show 0 ≤ sizeLine; decide, fun pp G2 t2 np _ lp => ⟨_, _, rfl, ?_⟩⟩⟩
    have dk2 := deck_same (t1.trans t2) dk
    have nfp : pf ≠ pp := ne_of_none lf np
    have hf0 : H pf = none := nf
    have hp0 : H pp = none := t1.free np
    have nBf : ¬ Bd a c pf := deck_off dk hf0
    have nBp : ¬ Bd a c pp := deck_off dk hp0
    refine ⟨_, rfl, a, c, cells, n, 4, rfl, dk2, by decide, by decide, n0, by omega, fun H3 cells3 r r0 r4 dk3 k3 => ⟨1, r, rfl, rfl, 1 + r, rfl, by omega, by omega, ?_⟩⟩
    have k03 : Keep (Bd a c) H H3 := (Keep.same (t1.trans t2)).trans k3
    refine for_range (lo := 0) (n := (1 + r).toNat) (fun i σ H' => (∃ y4 y5 y6 y7, σ = [some (.ref a), some (.int L), some (.ref pf), some (.ref pp), y4, y5, y6, y7, none, none]) ∧ ∃ (cells' : List Int) (n' : Int) (vs : List V) (pps : List (Str × Str)) (ss : List Str), DeckAt a c cells' n' H' ∧ n ≤ n' ∧ n' ≤ n + 1 + 5 * i ∧ Keep (Bd a c) H H' ∧ H' pf = some (.lst vs) ∧ H' pp = some (.lst (ss.map V.str)) ∧
        vs.length ≤ i ∧ ss.length ≤ 2 * i ∧ DtAll (BD (BD B pf) pp) K H' vs (pps.map prD) ∧ ∀ p ∈ pps, PrOk L p)
      ⟨⟨none, none, none, none, rfl⟩, cells3, n + 1, [], [], [], dk3, by omega, by omega, k03, k3 _ _ nBf (t2 _ _ lf), k3 _ _ nBp lp, Nat.le_refl _, Nat.le_refl _, .nil, fun d z => absurd z List.not_mem_nil⟩ ?_ ?_
    · rintro i σ H4 hi ⟨⟨y4, y5, y6, y7, rfl⟩, cells4, n4, vs, pps, ss, dk4, a4, b4, k04, lf4, lp4, lv4, ls4, dt4, dn4⟩
      refine ⟨_, rfl, a, c, cells4, n4, 2, rfl, dk4, by decide, by decide, by omega, by omega, fun H5 cells5 e e0 e2 dk5 k5 => ⟨1, e, rfl, rfl, ?_⟩⟩
      refine ⟨2, rfl, by decide, by decide, fun D1 hD1 => ?_⟩
      refine lc_range (lo := 0) (n := 2) (CInv a c D1 H5 (WdL L (1 + e)) (n4 + 1) 2) (cstart dk5 hD1) ?_ ?_
      · rintro j H6 hj ⟨cells6, n6, acc, dk6, g0, g1, k6, hDl, hl6, hG6⟩
        refine ⟨rfl, rfl, _, rfl, 1 + e, rfl, by omega, by omega, fun D2 hD2 => ?_⟩
        refine lc_range (lo := 0) (n := (1 + e).toNat) (CInv a c D2 H6 (SgL L) n6 1) (cstart dk6 hD2) ?_ ?_
        · rintro j2 H7 hj2 ⟨cells7, n7, acc7, dk7, p0, p1, k7, hD2', hl7, hG7⟩
          exact ⟨rfl, _, rfl, _, rfl, L, rfl, "abc", rfl, by show 3 ≤ sizeLine; decide, a, c, cells7, n7, abcS L, rfl, dk7, by omega, by omega, ab1, by omega, fun H8 cells8 x hx dk8 k8 => cstep hD2 (deck_off dk6 hD2) (by omega) p0 p1 k7 hD2' hl7 hG7 dk8 (by omega) (by omega) k8 ⟨x, hx, rfl⟩⟩
        · rintro H7 ⟨cells7, n7, acc7, dk7, p0, p1, k7, hD2', hl7, hG7⟩
          obtain ⟨cs, rfl, hcs⟩ := sgl_list hG7
          rw [List.length_map] at hl7
          refine ⟨"", D2, cs.map fun c => (⟨#[c]⟩ : Str), rfl, rfl, .inl (SqL.of (by rw [← sg_map]; exact hD2')), ?_, ?_⟩
          · rw [sg_sum, List.length_map]
            show cs.length + cs.length * 0 ≤ _
            omega
          · rw [join_sg]
            exact cstep hD1 (deck_off dk5 hD1) (by omega) g0 g1 k6 hDl hl6 hG6 dk7 (by omega) (by omega) k7 ⟨_, rfl, by rw [mkS_len]; omega, fun c hc => hcs c hc⟩
      · rintro H6 ⟨cells6, n6, acc, dk6, g0, g1, k6, hDl, hl6, hG6⟩
        obtain ⟨z1, z2, rfl, hz1, hz2⟩ : ∃ z1 z2 : Str, acc = [.str z1, .str z2] ∧ ((z1.length : Int) = 1 + e ∧ LetS L z1) ∧ ((z2.length : Int) = 1 + e ∧ LetS L z2) := by
          match acc, hl6, hG6 with
          | [v1, v2], _, hG6 =>
            obtain ⟨z1, rfl, h1⟩ := hG6 v1 List.mem_cons_self
            obtain ⟨z2, rfl, h2⟩ := hG6 v2 (List.mem_cons_of_mem _ List.mem_cons_self)
            exact ⟨z1, z2, rfl, h1, h2⟩
        have k46 := k5.trans k6
        have kw : Keep (BD (BD B pf) pp) H4 H6 := k46.wide fun b z => .inl (.inl (hB b z))
        have k06 := k04.trans k46
        have lf6 := k46 _ _ nBf lf4
        have lp6 := k46 _ _ nBp lp4
        have dt6 := DtAll.keep kw _ _ dt4
        refine ⟨D1, _, rfl, SqL.of hDl, rfl, _, _, rfl, _, _, rfl, rfl, ?_⟩
        have rest : (∃ y4 y5 y6 y7, [some (V.ref a), some (.int L), some (.ref pf), some (.ref pp), some (.int (0 + (i : Int))), some (.int (1 + e)), some (.str z1), some (.str z2), none, none] = [some (V.ref a), some (.int L), some (.ref pf), some (.ref pp), y4, y5, y6, y7, none, none]) ∧ ∃ (cells' : List Int) (n' : Int) (vs : List V) (pps : List (Str × Str)) (ss : List Str), DeckAt a c cells' n' H6 ∧ n ≤ n' ∧ n' ≤ n + 1 + 5 * ((i + 1 : Nat) : Int) ∧ Keep (Bd a c) H H6 ∧ H6 pf = some (.lst vs) ∧ H6 pp = some (.lst (ss.map V.str)) ∧
            vs.length ≤ i + 1 ∧ ss.length ≤ 2 * (i + 1) ∧ DtAll (BD (BD B pf) pp) K H6 vs (pps.map prD) ∧ ∀ p ∈ pps, PrOk L p := ⟨⟨_, _, _, _, rfl⟩, cells6, n6, vs, pps, ss, dk6, by omega, by omega, k06, lf6, lp6, by omega, by omega, dt6, dn4⟩
        have fl : (ss.map V.str).all flatV = true := by
          rw [List.all_map]
          exact List.all_eq_true.mpr fun x _ => rfl
        refine ⟨_, rfl, _, rfl, rfl, _, rfl, ite2 (fun h1 => ?_) (fun h1 => rest)⟩
        refine ⟨_, rfl, _, rfl, pp, _, rfl, .inl (SqL.of lp6), rfl, fl, _, rfl, ite2 (fun h2 => ?_) (fun h2 => rest)⟩
        refine ⟨_, rfl, _, rfl, pp, _, rfl, .inl (SqL.of lp6), rfl, fl, _, rfl, ite2 (fun h3 => ?_) (fun h3 => rest)⟩
        clear rest
        refine ⟨_, rfl, .inl ⟨rfl, _, SqL.of lp6⟩, _, rfl, _, rfl, by show 2 ≤ sizeLine; decide, fun p9 G9 s9 np9 _ lp9 => ?_⟩
        refine ⟨pp, p9, _, _, rfl, rfl, s9 _ _ lp6, lp9, ?_, ?_⟩
        · rw [List.length_map]
          exact sz_of (by show ss.length + 2 ≤ 100000; omega)
        have lp10 : ss.map V.str ++ [.str z1, .str z2] = (ss ++ [z1, z2]).map V.str := by
          rw [List.map_append]
          rfl
        rw [lp10]
        have dk10 : DeckAt a c cells6 n6 (upd G9 pp (.lst ((ss ++ [z1, z2]).map V.str))) := deck_upd (deck_same s9 dk6) nBp
        have k10 : Keep (Bd a c) H (upd G9 pp (.lst ((ss ++ [z1, z2]).map V.str))) := fun b o nb q => by
          rw [upd_ne (ne_of_none q hp0)]
          exact s9 _ _ (k06 _ _ nb q)
        have lf10 : (upd G9 pp (.lst ((ss ++ [z1, z2]).map V.str))) pf = some (.lst vs) := by
          rw [upd_ne nfp]
          exact s9 _ _ lf6
        have lp11 : (upd G9 pp (.lst ((ss ++ [z1, z2]).map V.str))) pp = some (.lst ((ss ++ [z1, z2]).map V.str)) := upd_same
        have dt10 : DtAll (BD (BD B pf) pp) K (upd G9 pp (.lst ((ss ++ [z1, z2]).map V.str))) vs (pps.map prD) := DtAll.keep (keep_store (.inr rfl)) _ _ (same_all s9 dt6)
        generalize upd G9 pp (.lst ((ss ++ [z1, z2]).map V.str)) = G10 at *
        have tb10 := tb_bd (tb_bd tb dk10 k10 lf10) dk10 (Keep.rfl' : Keep (Bd a c) G10 G10) lp11
        refine ⟨_, rfl, .inl ⟨rfl, _, SqL.of lf10⟩, _, rfl, _, rfl, by show 2 ≤ sizeLine; decide, fun q9 hq9 => ?_⟩
        have s11 := same_new (o := .tup [.str z1, .str z2]) hq9
        have dv : Dt (BD (BD B pf) pp) K (upd G10 q9 (.tup [.str z1, .str z2])) (.ref q9) (.tuple [.str z1, .str z2]) := .tup (tb_off tb10 hq9) (.inl upd_same) (.cons (.str _) (.cons (.str _) .nil))
        have nfq : pf ≠ q9 := ne_of_none lf10 hq9
        have npq : pp ≠ q9 := ne_of_none lp11 hq9
        have k11 : Keep (Bd a c) H (upd G10 q9 (.tup [.str z1, .str z2])) := k10.trans (Keep.same s11)
        have dk11 := deck_new (o := .tup [.str z1, .str z2]) dk10 hq9
        have dt11 := same_all s11 dt10
        have lf11 := s11 _ _ lf10
        have lp12 := s11 _ _ lp11
        generalize upd G10 q9 (.tup [.str z1, .str z2]) = G11 at *
        have ks : Keep (BD (BD B pf) pp) G11 (upd G11 pf (.lst (vs ++ [.ref q9]))) := keep_store (.inl (.inr rfl))
        refine ⟨pf, vs, _, rfl, rfl, lf11, small1000 (by omega), ⟨_, _, _, _, rfl⟩, cells6, n6, vs ++ [.ref q9], pps ++ [(z1, z2)], ss ++ [z1, z2], deck_upd dk11 nBf, by omega, by omega, fun b o nb q => ?_, upd_same, ?_, ?_, ?_, by rw [List.map_append]; exact (DtAll.keep ks _ _ dt11).append (.cons (Dt.keep ks _ _ dv) .nil), fun x hx => ?_⟩
        · rw [upd_ne (ne_of_none q hf0)]
          exact k11 _ _ nb q
        · rw [upd_ne nfp.symm]
          exact lp12
        · rw [List.length_append, List.length_singleton]
          omega
        · rw [List.length_append]
          show ss.length + 2 ≤ _
          omega
        · rcases List.mem_append.mp hx with hx | hx
          · exact dn4 x hx
          · rw [List.mem_singleton.mp hx]
            exact ⟨hz1.2, hz2.2, by show 1 ≤ z1.length; omega, by show z1.length ≤ 2; omega, by show z2.length = z1.length; omega⟩
    · rintro σ H4 ⟨⟨y4, y5, y6, y7, rfl⟩, cells4, n4, vs, pps, ss, dk4, a4, b4, k04, lf4, lp4, lv4, ls4, dt4, dn4⟩
      have tb4 := tb_keep tb dk4 k04
      refine ⟨_, rfl, by show 0 ≤ sizeLine; decide, fun N0 hN0 => ⟨pf, N0, vs, rfl, rfl, SqL.of ((same_new hN0) _ _ lf4), SqL.of upd_same, _, rfl, ?_⟩⟩
      have s5 := same_new (o := .lst []) hN0
      have dk5 := deck_new (o := .lst []) dk4 hN0
      have tb5 : TB B (upd H4 N0 (.lst [])) := tb_upd tb4
      have k05 : Keep (Bd a c) H (upd H4 N0 (.lst [])) := k04.trans (Keep.same s5)
      have lf5 := s5 _ _ lf4
      have dt5 := same_all s5 dt4
      generalize upd H4 N0 (.lst []) = H5 at *
      refine ite2 (fun h1 => ?_) (fun h1 => ?_)
      · refine ⟨by show 1 ≤ sizeLine; decide, fun u1 hu1 => ⟨_, rfl, u1, L, _, rfl, rfl, .inl upd_same, List.cons_ne_nil _ _, by omega, by omega, by show 1 ≤ 1000; decide, fun q1 H6 s6 hq1 w1 => ?_⟩⟩
        have s6' := (same_new (o := .tup [.int 0]) hu1).trans s6
        have nu1 := tb_off tb5 hu1
        have nq1 : ¬ B q1 := by
          rcases w1 with z | z
          · rw [z]
            exact nu1
          · exact tb_off (tb_upd tb5) z
        have dt1 : Dt B K H6 (.ref q1) (.tuple (List.replicate L.toNat (.int 0))) := by
          refine .tup nq1 hq1 ?_
          rw [List.flatten_replicate_singleton]
          exact DtAll.rep (.int 0) _
        refine ⟨by show 1 ≤ sizeLine; decide, fun u2 hu2 => ?_⟩
        have s7 := same_new (o := .tup [.ref q1]) hu2
        have tb6 := tb_same s6' tb5
        have dt2 : Dt B K (upd H6 u2 (.tup [.ref q1])) (.ref u2) (.tuple [.tuple (List.replicate L.toNat (.int 0))]) := .tup (tb_off tb6 hu2) (.inl upd_same) (.cons (same_dt s7 dt1) .nil)
        have tb7 : TB B (upd H6 u2 (.tup [.ref q1])) := tb_upd tb6
        have s57 := s6'.trans s7
        generalize upd H6 u2 (.tup [.ref q1]) = H7 at *
        refine ⟨_, rfl, L, rfl, "abc", rfl, by show 3 ≤ sizeLine; decide, abcS L, rfl, sz_of (by omega), fun p3 H8 s8 np3 lp3 => ?_⟩
        have dt3 : Dt B K H8 (.ref p3) (.tuple ((abcS L).cps.toList.map fun x => .str ⟨#[x]⟩)) := by
          refine .tup (tb_off tb7 np3) (.inl lp3) ?_
          generalize (abcS L).cps.toList = cs
          induction cs with
          | nil => exact .nil
          | cons x cs ih => exact .cons (.str _) ih
        refine ⟨by show 1 ≤ sizeLine; decide, fun u4 hu4 => ?_⟩
        have tb8 := tb_same s8 tb7
        have s9 := same_new (o := .tup [.ref p3]) hu4
        have dt4' : Dt B K (upd H8 u4 (.tup [.ref p3])) (.ref u4) (.tuple [.tuple ((abcS L).cps.toList.map fun x => .str ⟨#[x]⟩)]) := .tup (tb_off tb8 hu4) (.inl upd_same) (.cons (same_dt s9 dt3) .nil)
        have dt2' := same_dt (s8.trans s9) dt2
        have tb9 : TB B (upd H8 u4 (.tup [.ref p3])) := tb_upd tb8
        have s59 := s57.trans (s8.trans s9)
        generalize upd H8 u4 (.tup [.ref p3]) = H9 at *
        refine ⟨by show 3 ≤ sizeLine; decide, fun u5 hu5 => ?_⟩
        have s10 := same_new (o := .tup [.str "pass", .ref u2, .ref u4]) hu5
        have el : ((abcS L).cps.toList.length : Int) = L := by
          have : L = 1 ∨ L = 2 ∨ L = 3 := by omega
          rcases this with rfl | rfl | rfl <;> decide +kernel
        have dd : (Stp.pass [List.replicate L.toNat 0] [(abcS L).cps.toList]).dat = .tuple [.str "pass", .tuple [.tuple (List.replicate L.toNat (.int 0))], .tuple [.tuple ((abcS L).cps.toList.map fun x => .str ⟨#[x]⟩)]] := by
          show PyData.tuple [.str "pass", .tuple [.tuple ((List.replicate L.toNat 0).map natD)], _] = _
          rw [List.map_replicate]
          rfl
        refine k _ cells4 n4 _ (.pass [List.replicate L.toNat 0] [(abcS L).cps.toList]) (deck_same (s59.trans s10) dk5) a4 (by omega) (k05.trans (Keep.same (s59.trans s10))) (by rw [dd]; exact .tup (tb_off tb9 hu5) (.inl upd_same) (.cons (.str _) (.cons (same_dt s10 dt2') (.cons (same_dt s10 dt4') .nil)))) ?_
        refine ⟨Nat.le_refl 1, by show 1 ≤ 4; decide, rfl, fun r hr => ?_, fun o ho => ?_⟩
        · rw [List.mem_singleton.mp hr, List.length_replicate]
          exact ⟨by omega, fun x hx => by rw [List.eq_of_mem_replicate hx]; exact Nat.zero_lt_one⟩
        · rw [List.mem_singleton.mp ho]
          exact ⟨el, fun c hc => hc⟩
      · refine ⟨_, rfl, pf, vs, rfl, .inl ⟨SqL.of lf5, fun q hq => ⟨by show 2 ≤ sizeLine; decide, fun u hu => ?_⟩⟩⟩
        have dq : Dt B K (upd H5 q (.tup vs)) (.ref q) (.tuple (pps.map prD)) := (mk_tupB tb5 hq (DtAll.weak (fun b z => .inl (.inl z)) _ _ dt5)).1
        have sq := same_new (o := .tup vs) hq
        have su := same_new (o := .tup [.str "swap", .ref q]) hu
        have n2' := dt5.len
        rw [List.length_map] at n2'
        exact k _ cells4 n4 _ (.swap pps) (deck_same (sq.trans su) dk5) a4 (by omega) (k05.trans (Keep.same (sq.trans su))) (.tup (tb_off (tb_upd tb5) hu) (.inl upd_same) (.cons (.str _) (.cons (same_dt su dq) .nil))) ⟨by omega, dn4⟩
end
section
variable {P : Program} {w : World} {K : PySem.W.Frag} {mg : Str → Option Value} {base : Heap}
def isNm (z : Str) : Prop := z = "cut" ∨ z = "stop" ∨ z = "pass" ∨ z = "swap"
theorem scStL : FnScope ["_law_deck_here", "_law_letters", "_law_word_here", "_law_unit", "_law_letter", "_law_turns", "_law_rows", "_law_turn", "_law_outs"] ["_law_deck_here", "_law_letters", "_law_word_here"] (defScope sStepL) := ⟨rfl, rfl, rfl, by decide +kernel, rfl, by decide +kernel, by decide +kernel⟩
theorem ok_stepL {f fD fO fS : Addr} {fd fdD fdO fdS : FuncData} (F : Fun K "_law_step" "_law_step" sStepL f fd)
    (D : FnOk P w K mg base CX0 1 fD fdD ["_law_deck_here", "_law_most"] spDraw) (FD : Fun K "_law_draw" "_law_draw" sDraw fD fdD) (bD : Binds K fdD ["_law_deck_here", "_law_most"] []) (gD : mg "_law_draw" = some (.ref fD))
    (O : FnOk P w K mg base CX0 2 fO fdO ["_law_deck_here", "_law_items"] (spOne K)) (FO : Fun K "_law_one" "_law_one" sOne fO fdO) (bO : Binds K fdO ["_law_deck_here", "_law_items"] []) (gO : mg "_law_one" = some (.ref fO))
    (Y : FnOk P w K mg base CX0 2 fO fdO ["_law_deck_here", "_law_items"] spOneS) (FY : Fun K "_law_one" "_law_one" sOne fO fdO) (bY : Binds K fdO ["_law_deck_here", "_law_items"] []) (gY : mg "_law_one" = some (.ref fO))
    (S : FnOk P w K mg base CX0 3 fS fdS ["_law_deck_here", "_law_letters"] (spDrawn 40 K fun a vs L => vs = [a, .int L])) (FS : Fun K "_law_swap" "_law_swap" sSwapL fS fdS) (bS : Binds K fdS ["_law_deck_here", "_law_letters"] []) (gS : mg "_law_swap" = some (.ref fS)) (T : Mg mg) :
    FnOk P w K mg base CX0 4 f fd ["_law_deck_here", "_law_letters", "_law_word_here"] (spDrawn 100 K fun a vs L => ∃ z, vs = [a, .int L, .str z] ∧ isNm z) := by
  refine F.ok scStL (fun vs H Q E h => ?_) (fun cdv A outer s H vs Q E hr h => ?_)
  · obtain ⟨B, a, c, cells, n, L, ⟨z, rfl, _⟩, _⟩ := h
    rfl
  · obtain ⟨B, a, c, cells, n, L, ⟨z, rfl, hw⟩, hB, tb, dk, n0, n1, L1, L3, k⟩ := h
    obtain ⟨ab1, ab3⟩ := abc_len L1 L3
    refine ⟨_, pss_cons (ps_if (pt_cmpR op_eq (pv 2) pe_str (nomark _)) (pss_cons (ps_set (i := 3) scStL.nd rfl (.inl rfl) (pe_callTy (r := rTup K) call_tuple_of (by rfl) T.tuple PyProof.Rows.boot_tuple (pa_cons (pe_lc (own := [("_law_letter", 4)]) (g := gName 4) (tt := tYes) rfl scStL.nd (pi_range1 (by rfl) T.range (pa_cons (pv 1) pa_nil)) (blkOk_by (N := ["_law_deck_here", "_law_letters", "_law_word_here", "_law_unit", "_law_letter", "_law_turns", "_law_rows", "_law_turn", "_law_outs"]) (sc := defScope sStepL) (by decide +kernel)) (fun _ _ _ _ _ => pg_name (i := 4) scStL.nd rfl (Or.inl rfl)) (fun _ _ _ _ _ => pts_nil) (fun _ _ _ _ _ => (pe_call O (hr.mono (by decide)) (by rfl) gO FO.kp bO .nil pass0 (pa_cons (pv 0) (pa_cons (pe_lstA (pa_cons pe_int (pa_cons pe_int (pa_cons pe_int (pa_cons pe_int (pa_cons (pe_call D (hr.mono (by decide)) (by rfl) gD FD.kp bD .nil pass0 (pa_cons (pv 0) (pa_cons pe_int pa_nil))) pa_nil)))))) pa_nil))))) pa_nil)))
      (pss_one (ps_ret (pe_tup (pa_cons pe_str (pa_cons (pv 3) (pa_cons (pe_call O (hr.mono (by decide)) (by rfl) gO FO.kp bO .nil pass0 (pa_cons (pv 0) (pa_cons (pe_lstA (pa_cons (pe_call D (hr.mono (by decide)) (by rfl) gD FD.kp bD .nil pass0 (pa_cons (pv 0) (pa_cons pe_int pa_nil))) (pa_cons (pe_call D (hr.mono (by decide)) (by rfl) gD FD.kp bD .nil pass0 (pa_cons (pv 0) (pa_cons pe_int pa_nil))) pa_nil))) pa_nil))) pa_nil))))))) pss_nil)
      (pss_cons (ps_if (pt_cmpR op_eq (pv 2) pe_str (nomark _)) (pss_one (ps_ret (pe_tup (pa_cons pe_str (pa_cons (pe_ix ix_str pe_str (pe_call D (hr.mono (by decide)) (by rfl) gD FD.kp bD .nil pass0 (pa_cons (pv 0) (pa_cons (pv 1) pa_nil))) (fun _ _ => rfl)) pa_nil))))) pss_nil)
      (pss_cons (ps_if (pt_cmpR op_eq (pv 2) pe_str (nomark _)) (pss_one (ps_ret (pe_call S (hr.mono (by decide)) (by rfl) gS FS.kp bS .nil pass0 (pa_cons (pv 0) (pa_cons (pv 1) pa_nil))))) pss_nil)
      (pss_cons (ps_set (i := 5) scStL.nd rfl (.inr rfl) (pe_op op_add pe_int (pe_call D (hr.mono (by decide)) (by rfl) gD FD.kp bD .nil pass0 (pa_cons (pv 0) (pa_cons (pe_call O (hr.mono (by decide)) (by rfl) gO FO.kp bO .nil pass0 (pa_cons (pv 0) (pa_cons (pe_lstA (pa_cons pe_int (pa_cons pe_int (pa_cons pe_int pa_nil)))) pa_nil))) pa_nil)))))
      (pss_cons (ps_setLc (i := 6) (own := [("_law_turn", 7)]) (g := gName 7) (tt := tYes) rfl scStL.nd rfl rfl (sw_true rfl rfl rfl (by decide +kernel)) (pi_range1 (by rfl) T.range (pa_cons (pv 5) pa_nil)) (blkOk_by (N := ["_law_deck_here", "_law_letters", "_law_word_here", "_law_unit", "_law_letter", "_law_turns", "_law_rows", "_law_turn", "_law_outs"]) (sc := defScope sStepL) (by decide +kernel)) (fun _ _ _ _ _ => pg_name (i := 7) scStL.nd rfl (Or.inl rfl)) (fun _ _ _ _ _ => pts_nil) (fun _ _ _ _ _ => (pe_callTy (r := rTup K) call_tuple_of (by rfl) T.tuple PyProof.Rows.boot_tuple (pa_cons (pe_lc (own := [("_law_letter", 4)]) (g := gName 4) (tt := tYes) rfl scStL.nd (pi_range1 (by rfl) T.range (pa_cons (pv 1) pa_nil)) (blkOk_by (by kernel_rfl)) (fun _ _ _ _ _ => pg_name (i := 4) scStL.nd rfl (Or.inl rfl)) (fun _ _ _ _ _ => pts_nil) (fun _ _ _ _ _ => (pe_call D (hr.mono (by decide)) (by rfl) gD FD.kp bD .nil pass0 (pa_cons (pv 0) (pa_cons (pv 5) pa_nil))))) pa_nil))))
      (pss_cons (ps_setLc (i := 8) (own := [("_law_turn", 7)]) (g := gName 7) (tt := tYes) rfl scStL.nd rfl rfl (sw_true rfl rfl rfl (by decide +kernel)) (pi_range1 (by rfl) T.range (pa_cons (pv 5) pa_nil)) (blkOk_by (N := ["_law_deck_here", "_law_letters", "_law_word_here", "_law_unit", "_law_letter", "_law_turns", "_law_rows", "_law_turn", "_law_outs"]) (sc := defScope sStepL) (by decide +kernel)) (fun _ _ _ _ _ => pg_name (i := 7) scStL.nd rfl (Or.inl rfl)) (fun _ _ _ _ _ => pts_nil) (fun _ _ _ _ _ => (pe_callTy (r := rTup K) call_tuple_of (by rfl) T.tuple PyProof.Rows.boot_tuple (pa_cons (pe_lc (own := [("_law_letter", 4)]) (g := gName 4) (tt := tYes) rfl scStL.nd (pi_range1 (by rfl) T.range (pa_cons (pv 1) pa_nil)) (blkOk_by (by kernel_rfl)) (fun _ _ _ _ _ => pg_name (i := 4) scStL.nd rfl (Or.inl rfl)) (fun _ _ _ _ _ => pts_nil) (fun _ _ _ _ _ => (pe_call Y (hr.mono (by decide)) (by rfl) gY FY.kp bY .nil pass0 (pa_cons (pv 0) (pa_cons (pe_slice sl_str pe_str po_none (po_some (pv 1))) pa_nil))))) pa_nil))))
      (pss_one (ps_ret (pe_tup (pa_cons pe_str (pa_cons (pe_callTy call_tuple_of (by rfl) T.tuple PyProof.Rows.boot_tuple (pa_cons (pv 6) pa_nil)) (pa_cons (pe_callTy call_tuple_of (by rfl) T.tuple PyProof.Rows.boot_tuple (pa_cons (pv 8) pa_nil)) pa_nil))))))))))), ?_⟩
    rcases hw with rfl | rfl | rfl | rfl
    -- cut
    · refine ⟨_, rfl, rfl, _, rfl, ite2 (fun _ => ?_) (fun z => absurd (decide_eq_true rfl) z)⟩
      refine ⟨_, rfl, L, rfl, by omega, by omega, fun D1 hD1 => ?_⟩
      refine lc_range (lo := 0) (n := L.toNat) (LInv K B a c D1 H n 2 (fun d => ∃ x : Int, d = .int x ∧ 0 ≤ x ∧ x ≤ 9)) (linv_start dk hD1) ?_ ?_
      · rintro j H1 hj ⟨cells1, n1', vs, ds, dk1, a1, b1, k1, lD, hl, ha, hN⟩
        refine ⟨rfl, _, rfl, _, rfl, a, c, cells1, n1', 10, rfl, dk1, by decide, by decide, by omega, by omega, fun H2 cells2 r r0 r1 dk2 k2 => ?_⟩
        refine ⟨by show 5 ≤ sizeLine; decide, fun p3 G3 s3 np3 _ lp3 => ?_⟩
        refine ⟨a, c, p3, cells2, n1' + 1, _, rfl, deck_same s3 dk2, by omega, by omega, SqL.of lp3, deck_off dk2 np3, List.cons_ne_nil _ _, (by show 5 ≤ 1000; decide), fun H4 cells4 x hx dk4 k4 => ?_⟩
        obtain ⟨x0, rfl, x1, x2⟩ : ∃ x0 : Int, x = .int x0 ∧ 0 ≤ x0 ∧ x0 ≤ 9 := by
          simp only [List.mem_cons, List.not_mem_nil, or_false] at hx
          rcases hx with hx | hx | hx | hx | hx <;> exact ⟨_, hx, by omega, by omega⟩
        exact linv_step hB hD1 (deck_off dk hD1) (by omega) a1 b1 k1 lD hl ha hN dk4 (k2.trans ((Keep.same s3).trans k4)) (by omega) (by omega) (.int x0) ⟨x0, rfl, x1, x2⟩
      · rintro H1 ⟨cells1, n1', vs, ds, dk1, a1, b1, k1, lD, hl, ha, hN⟩
        have tb1 := tb_keep tb dk1 k1
        refine ⟨D1, vs, rfl, .inl ⟨SqL.of lD, fun q hq => ?_⟩⟩
        have dq := dt_tup tb1 hq ha
        have sq := same_new (o := .tup vs) hq
        have dk1' := deck_new (o := .tup vs) dk1 hq
        have k1' : Keep (Bd a c) H (upd H1 q (.tup vs)) := k1.trans (Keep.same sq)
        have tb1' : TB B (upd H1 q (.tup vs)) := tb_upd tb1
        generalize upd H1 q (.tup vs) = H2 at *
        have hlds := ha.len
        obtain ⟨us, rfl, hus⟩ := all_of hN
        rw [List.length_map] at hlds
        refine ⟨_, rfl, _, rfl, _, rfl, a, c, cells1, n1', 5, rfl, dk1', by decide, by decide, by omega, by omega, fun H3 cells3 r r0 r1 dk3 k3 => ?_⟩
        refine ⟨_, rfl, a, c, cells3, n1' + 1, 31, rfl, dk3, by decide, by decide, by omega, by omega, fun H4 cells4 t t0 t1 dk4 k4 => ?_⟩
        refine ⟨by show 2 ≤ sizeLine; decide, fun p5 G5 s5 np5 _ lp5 => ?_⟩
        refine ⟨a, c, p5, cells4, n1' + 1 + 1, _, rfl, deck_same s5 dk4, by omega, by omega, SqL.of lp5, deck_off dk4 np5, List.cons_ne_nil _ _, (by show 2 ≤ 1000; decide), fun H6 cells6 x hx dk6 k6 => ?_⟩
        obtain ⟨x0, rfl, x1, x2⟩ : ∃ x0 : Int, x = .int x0 ∧ 0 ≤ x0 ∧ x0 ≤ 30 := by
          simp only [List.mem_cons, List.not_mem_nil, or_false] at hx
          rcases hx with hx | hx <;> exact ⟨_, hx, by omega, by omega⟩
        have k26 : Keep (Bd a c) H2 H6 := k3.trans (k4.trans ((Keep.same s5).trans k6))
        refine ⟨by show 3 ≤ sizeLine; decide, fun u hu => ?_⟩
        have su := same_new (o := .tup [.str "cut", .ref q, .int x0]) hu
        have tb6 := tb_keep tb1' dk6 k26
        exact k _ cells6 (n1' + 1 + 1 + 1) _ (.cut us x0) (deck_same su dk6) (by omega) (by omega) ((k1'.trans k26).trans (Keep.same su)) (.tup (tb_off tb6 hu) (.inl upd_same) (.cons (.str _) (.cons (same_dt su (Dt.keep (k26.wide hB) _ _ dq)) (.cons (.int _) .nil)))) ⟨by omega, hus, x1, x2⟩
    -- stop
    · refine ⟨_, rfl, rfl, _, rfl, ite2 (fun z => absurd (of_decide_eq_true z) (by decide +kernel)) (fun _ => ?_)⟩
      refine ⟨_, rfl, rfl, _, rfl, ite2 (fun _ => ?_) (fun z => absurd (decide_eq_true rfl) z)⟩
      refine ⟨_, rfl, _, rfl, a, c, cells, n, L, rfl, dk, by omega, by omega, n0, by omega, fun H1 cells1 r r0 r1 dk1 k1 => ?_⟩
      have hr3 : r.toNat < 3 := by omega
      obtain ⟨x, hx, hxl⟩ : ∃ x, atI ("abc" : Str).cps.toList r = some x ∧ Ltr L x := by
        have e : r = 0 ∨ r = 1 ∨ r = 2 := by omega
        have eL : L = 1 ∨ L = 2 ∨ L = 3 := by omega
        unfold Ltr
        rcases e with rfl | rfl | rfl
        · rcases eL with rfl | rfl | rfl <;> exact ⟨_, rfl, by decide +kernel⟩
        · rcases eL with rfl | rfl | rfl
          · omega
          · exact ⟨_, rfl, by decide +kernel⟩
          · exact ⟨_, rfl, by decide +kernel⟩
        · rcases eL with rfl | rfl | rfl
          · omega
          · omega
          · exact ⟨_, rfl, by decide +kernel⟩
      refine ⟨"abc", r, x, rfl, rfl, by show 3 ≤ sizeLine; decide, hx, by show 2 ≤ sizeLine; decide, fun u hu => ?_⟩
      have su := same_new (o := .tup [.str "stop", .str ⟨#[x]⟩]) hu
      exact k _ cells1 (n + 1) _ (.stop x) (deck_same su dk1) (by omega) (by omega) (k1.trans (Keep.same su)) (.tup (tb_off (tb_keep tb dk1 k1) hu) (.inl upd_same) (.cons (.str _) (.cons (.str _) .nil))) hxl
    -- pass
    · refine ⟨_, rfl, rfl, _, rfl, ite2 (fun z => absurd (of_decide_eq_true z) (by decide +kernel)) (fun _ => ?_)⟩
      refine ⟨_, rfl, rfl, _, rfl, ite2 (fun z => absurd (of_decide_eq_true z) (by decide +kernel)) (fun _ => ?_)⟩
      refine ⟨_, rfl, rfl, _, rfl, ite2 (fun z => absurd (of_decide_eq_true z) (by decide +kernel)) (fun _ => ?_)⟩
      refine ⟨_, rfl, _, rfl, by show 3 ≤ sizeLine; decide, fun p3 G3 s3 np3 _ lp3 => ?_⟩
      refine ⟨a, c, p3, cells, n, _, rfl, deck_same s3 dk, by omega, by omega, SqL.of lp3, deck_off dk np3, List.cons_ne_nil _ _, by decide, fun H4 cells4 x hx dk4 k4 => ?_⟩
      obtain ⟨m0, rfl, m1, m2⟩ : ∃ m0 : Int, x = .int m0 ∧ 1 ≤ m0 ∧ m0 ≤ 4 := by
        simp only [List.mem_cons, List.not_mem_nil, or_false] at hx
        rcases hx with hx | hx | hx <;> exact ⟨_, hx, by decide, by decide⟩
      refine ⟨a, c, cells4, n + 1, m0, rfl, dk4, by omega, by omega, by omega, by omega, fun H5 cells5 r r0 r1 dk5 k5 => ⟨1, r, rfl, rfl, ?_⟩⟩
      have k05 : Keep (Bd a c) H H5 := (Keep.same s3).trans (k4.trans k5)
      have tb5 := tb_keep tb dk5 k05
      refine ⟨_, rfl, 1 + r, rfl, by omega, by omega, fun D1 hD1 => ?_⟩
      refine lc_range (lo := 0) (n := (1 + r).toNat) (LInv K B a c D1 H5 (n + 2) 3 (fun d => ∃ q : List Nat, d = .tuple (q.map natD) ∧ ((q.length : Int) = L ∧ ∀ x ∈ q, (x : Int) < 1 + r))) (linv_start (by rw [show n + 2 = n + 1 + 1 by omega]; exact dk5) hD1) ?_ ?_
      · rintro j H1 hj ⟨cells1, n1', vs, ds, dk1, a1, b1, k1, lD, hl, ha, hN⟩
        refine ⟨rfl, _, rfl, L, rfl, by omega, by omega, fun D2 hD2 => ?_⟩
        have tb1 := tb_bd tb5 dk1 k1 lD
        refine lc_range (lo := 0) (n := L.toNat) (LInv K (BD B D1) a c D2 H1 n1' 1 (fun d => ∃ x : Nat, d = natD x ∧ (x : Int) < 1 + r)) (linv_start dk1 hD2) ?_ ?_
        · rintro j2 H2 hj2 ⟨cells2, n2', vs2, ds2, dk2, a2, b2, k2, lD2, hl2, ha2, hN2⟩
          refine ⟨rfl, _, rfl, _, rfl, a, c, cells2, n2', 1 + r, rfl, dk2, by omega, by omega, by omega, by omega, fun H3 cells3 t t0 t1 dk3 k3 => ?_⟩
          exact linv_step (fun b z => .inl (hB b z)) hD2 (deck_off dk1 hD2) (by omega) a2 b2 k2 lD2 hl2 ha2 hN2 dk3 k3 (by omega) (by omega) (by rw [show (t : Int) = ((t.toNat : Nat) : Int) by omega]; exact .int _) ⟨t.toNat, rfl, by omega⟩
        · rintro H2 ⟨cells2, n2', vs2, ds2, dk2, a2, b2, k2, lD2, hl2, ha2, hN2⟩
          refine ⟨D2, vs2, rfl, .inl ⟨SqL.of lD2, fun q hq => ?_⟩⟩
          have tb2 := tb_keep tb1 dk2 k2
          have dq := dt_tup tb2 hq ha2
          have e2 := ha2.len
          obtain ⟨qs, rfl, hqs⟩ := all_of hN2
          rw [List.length_map] at e2
          exact linv_step hB hD1 (deck_off dk5 hD1) (by omega) a1 b1 k1 lD hl ha hN (deck_new dk2 hq) (k2.trans (Keep.same (same_new hq))) (by omega) (by omega) dq ⟨qs, rfl, by omega, hqs⟩
      · rintro H6 ⟨cells6, n6, vs6, ds6, dk6, a6, b6, k6, l6, hl6, ha6, hN6⟩
        have tb6 := tb_bd tb5 dk6 k6 l6
        have k06 := k05.trans k6
        refine ⟨_, rfl, 1 + r, rfl, by omega, by omega, fun D3 hD3 => ?_⟩
        refine lc_range (lo := 0) (n := (1 + r).toNat) (LInv K (BD B D1) a c D3 H6 n6 3 (fun d => ∃ q : List Nat, d = .tuple (q.map sgD) ∧ ((q.length : Int) = L ∧ ∀ x ∈ q, Ltr L x))) (linv_start dk6 hD3) ?_ ?_
        · rintro j H1 hj ⟨cells1, n1', vs, ds, dk1, a1, b1, k1, lD, hl, ha, hN⟩
          refine ⟨rfl, _, rfl, L, rfl, by omega, by omega, fun D2 hD2 => ?_⟩
          have tb1 := tb_bd tb6 dk1 k1 lD
          refine lc_range (lo := 0) (n := L.toNat) (LInv K (BD (BD B D1) D3) a c D2 H1 n1' 1 (fun d => ∃ x : Nat, d = sgD x ∧ Ltr L x)) (linv_start dk1 hD2) ?_ ?_
          · rintro j2 H2 hj2 ⟨cells2, n2', vs2, ds2, dk2, a2, b2, k2, lD2, hl2, ha2, hN2⟩
            refine ⟨rfl, _, rfl, _, rfl, L, rfl, "abc", rfl, by show 3 ≤ sizeLine; decide, a, c, cells2, n2', abcS L, rfl, dk2, by omega, by omega, ab1, by omega, fun H3 cells3 t ht dk3 k3 => ?_⟩
            exact linv_step (fun b z => .inl (.inl (hB b z))) hD2 (deck_off dk1 hD2) (by omega) a2 b2 k2 lD2 hl2 ha2 hN2 dk3 k3 (by omega) (by omega) (.str _) ⟨t, rfl, ht⟩
          · rintro H2 ⟨cells2, n2', vs2, ds2, dk2, a2, b2, k2, lD2, hl2, ha2, hN2⟩
            refine ⟨D2, vs2, rfl, .inl ⟨SqL.of lD2, fun q hq => ?_⟩⟩
            have tb2 := tb_keep tb1 dk2 k2
            have dq := dt_tup tb2 hq ha2
            have e2 := ha2.len
            obtain ⟨qs, rfl, hqs⟩ := all_of hN2
            rw [List.length_map] at e2
            exact linv_step (fun b z => .inl (hB b z)) hD3 (deck_off dk6 hD3) (by omega) a1 b1 k1 lD hl ha hN (deck_new dk2 hq) (k2.trans (Keep.same (same_new hq))) (by omega) (by omega) dq ⟨qs, rfl, by omega, hqs⟩
        · rintro H7 ⟨cells7, n7, vs7, ds7, dk7, a7, b7, k7, l7, hl7, ha7, hN7⟩
          have tb7 := tb_bd tb6 dk7 k7 l7
          have l67 := k7 _ _ (deck_off dk5 hD1) l6
          have ha67 : DtAll (BD B D1) K H7 vs6 ds6 := DtAll.keep (k7.wide fun b z => .inl (hB b z)) _ _ ha6
          have tbB : TB B H7 := tb_keep tb dk7 (k06.trans k7)
          refine ⟨_, rfl, D1, vs6, rfl, .inl ⟨SqL.of l67, fun q1 hq1 => ?_⟩⟩
          have d1 : Dt B K (upd H7 q1 (.tup vs6)) (.ref q1) (.tuple ds6) := (mk_tupB tbB hq1 (DtAll.weak (fun b z => .inl z) _ _ ha67)).1
          have s8 := same_new (o := .tup vs6) hq1
          have l78 := s8 _ _ l7
          have ha78 := same_all s8 ha7
          have tb8 : TB B (upd H7 q1 (.tup vs6)) := tb_upd tbB
          refine ⟨_, rfl, D3, vs7, rfl, .inl ⟨SqL.of l78, fun q2 hq2 => ⟨by show 3 ≤ sizeLine; decide, fun u hu => ?_⟩⟩⟩
          have d2 := (mk_tupB tb8 hq2 (DtAll.weak (fun b z => .inl (.inl z)) _ _ ha78)).1
          have s9 := same_new (o := .tup vs7) hq2
          have tb9 := tb_same s9 tb8
          have s10 := same_new (o := .tup [.str "pass", .ref q1, .ref q2]) hu
          have sA := s8.trans (s9.trans s10)
          have e2 := ha6.len
          have e5 := ha7.len
          obtain ⟨rows, rfl, hrows⟩ := all_of hN6
          obtain ⟨outs, rfl, houts⟩ := all_of hN7
          rw [List.length_map] at e2 e5
          refine k _ cells7 n7 _ (.pass rows outs) (deck_same sA dk7) (by omega) (by omega) ((k06.trans k7).trans (Keep.same sA)) (.tup (tb_off tb9 hu) (.inl upd_same) (.cons (.str _) (.cons (same_dt (s9.trans s10) d1) (.cons (same_dt s10 d2) .nil)))) ⟨by omega, by omega, by omega, fun q hq => ⟨(hrows q hq).1, fun x hx => ?_⟩, houts⟩
          have := (hrows q hq).2 x hx
          omega
    -- swap
    · refine ⟨_, rfl, rfl, _, rfl, ite2 (fun z => absurd (of_decide_eq_true z) (by decide +kernel)) (fun _ => ?_)⟩
      refine ⟨_, rfl, rfl, _, rfl, ite2 (fun z => absurd (of_decide_eq_true z) (by decide +kernel)) (fun _ => ?_)⟩
      refine ⟨_, rfl, rfl, _, rfl, ite2 (fun _ => ?_) (fun z => absurd (decide_eq_true rfl) z)⟩
      exact ⟨_, rfl, _, rfl, B, a, c, cells, n, L, rfl, hB, tb, dk, n0, n1, L1, L3, fun H' cells' n' v d q1 q2 q3 q4 q5 q6 => k H' cells' n' v d q1 q2 (by omega) q4 q5 q6⟩
end
section
variable {P : Program} {w : World} {K : PySem.W.Frag} {mg : Str → Option Value} {base : Heap}
def spLineL (K : PySem.W.Frag) : Sp := fun vs H Q _ => ∃ (B : Addr → Prop) (a c : Addr) (cells : List Int) (n L : Int), vs = [.ref a, .int L, .int 2] ∧ (∀ b, Bd a c b → B b) ∧ TB B H ∧ DeckAt a c cells n H ∧ 0 ≤ n ∧ n ≤ 800000 ∧ 1 ≤ L ∧ L ≤ 3 ∧
  ∀ (H' : Hp) (cells' : List Int) (n' : Int) (v : V) (ss : List Stp), DeckAt a c cells' n' H' → n ≤ n' → n' ≤ n + 203 → Keep (Bd a c) H H' → Dt B K H' v (.tuple (ss.map Stp.dat)) → (∀ s ∈ ss, s.Ok L) → ss.length ≤ 2 → Q v H'
theorem scLnL : FnScope ["_law_deck_here", "_law_letters", "_law_most", "_law_names", "_law_found", "_law_top", "_law_k", "_law_step_here"] ["_law_deck_here", "_law_letters", "_law_most"] (defScope sLineL) := ⟨rfl, rfl, rfl, by decide +kernel, rfl, by decide +kernel, by decide +kernel⟩
theorem ok_lineL {f fD fO fS : Addr} {fd fdD fdO fdS : FuncData} (F : Fun K "_law_line" "_law_line" sLineL f fd)
    (D : FnOk P w K mg base CX0 1 fD fdD ["_law_deck_here", "_law_most"] spDraw) (FD : Fun K "_law_draw" "_law_draw" sDraw fD fdD) (bD : Binds K fdD ["_law_deck_here", "_law_most"] []) (gD : mg "_law_draw" = some (.ref fD))
    (O : FnOk P w K mg base CX0 2 fO fdO ["_law_deck_here", "_law_items"] (spOne K)) (FO : Fun K "_law_one" "_law_one" sOne fO fdO) (bO : Binds K fdO ["_law_deck_here", "_law_items"] []) (gO : mg "_law_one" = some (.ref fO))
    (S : FnOk P w K mg base CX0 4 fS fdS ["_law_deck_here", "_law_letters", "_law_word_here"] (spDrawn 100 K fun a vs L => ∃ z, vs = [a, .int L, .str z] ∧ isNm z)) (FS : Fun K "_law_step" "_law_step" sStepL fS fdS) (bS : Binds K fdS ["_law_deck_here", "_law_letters", "_law_word_here"] []) (gS : mg "_law_step" = some (.ref fS)) (T : Mg mg) :
    FnOk P w K mg base CX0 5 f fd ["_law_deck_here", "_law_letters", "_law_most"] (spLineL K) := by
  refine F.ok scLnL (fun vs H Q E h => ?_) (fun cdv A outer s H vs Q E hr h => ?_)
  · obtain ⟨B, a, c, cells, n, L, rfl, _⟩ := h
    rfl
  · obtain ⟨B, a, c, cells, n, L, rfl, hB, tb, dk, n0, n1, L1, L3, k⟩ := h
    refine ⟨_, (pss_cons (ps_par3 (i := 3) (j := 4) (l := 5) rfl scLnL.nd rfl rfl rfl (by decide) (by decide) (by decide) rfl rfl rfl (pa_cons (pe_lstA (pa_cons pe_str (pa_cons pe_str (pa_cons pe_str (pa_cons pe_str (pa_cons pe_str (pa_cons pe_str pa_nil))))))) (pa_cons (pe_lstA pa_nil) (pa_cons pe_int pa_nil))) (by rfl))
      (pss_cons (ps_for PassesOwn.never rfl (pi_range1 (by rfl) T.range (pa_cons (pe_call D (hr.mono (by decide)) (by rfl) gD FD.kp bD .nil pass0 (pa_cons (pv 0) (pa_cons (pe_op op_add (pv 2) pe_int) pa_nil))) pa_nil)) (pg_name (i := 6) scLnL.nd rfl (.inl rfl)) (pss_cons (ps_set (i := 7) scLnL.nd rfl (.inl rfl) (pe_call S (hr.mono (by decide)) (by rfl) gS FS.kp bS .nil pass0 (pa_cons (pv 0) (pa_cons (pv 1) (pa_cons (pe_call O (hr.mono (by decide)) (by rfl) gO FO.kp bO .nil pass0 (pa_cons (pv 0) (pa_cons (pv 3) pa_nil))) pa_nil)))))
      (pss_cons (ps_expr (pe_bm PySem.F.plainAttrs_list PySem.F.slot_list_append PySem.F.type_list_append mt_append (pv 4) (pa_cons (pe_ifExp (pt_cmpR op_eq (pe_ix (r := rIxT K) ix_tup (pv 7) pe_int (fun _ _ => rfl)) pe_str (nomark _)) (pe_op op_catS (pe_slice sl_tupS (pv 7) po_none (po_some pe_int)) (pe_tup (pa_cons (pe_op op_mod (pe_callTy call_int1 (by rfl) T.int (by decide +kernel) (pa_cons (pe_ix (r := rIxT K) ix_tup (pv 7) pe_int (fun _ _ => rfl)) pa_nil)) (pv 5)) pa_nil))) (pv 7)) pa_nil)))
      (pss_one (ps_set (i := 5) scLnL.nd rfl (.inl rfl) (pe_ifExp (pt_cmpR op_eq (pe_ix (r := rIxT K) ix_tup (pv 7) pe_int (fun _ _ => rfl)) pe_str (nomark _)) pe_int (pv 5)))))))
      (pss_one (ps_ret (pe_callTy (r := rTup K) call_tuple_of (by rfl) T.tuple PyProof.Rows.boot_tuple (pa_cons (pv 4) pa_nil)))))), ?_⟩
    refine ⟨by show 6 ≤ sizeLine; decide, fun pn G1 t1 nn _ ln => ⟨by show 0 ≤ sizeLine; decide, fun pf G2 t2 nf _ lf => ⟨_, _, _, rfl, ?_⟩⟩⟩
    have dk2 := deck_same (t1.trans t2) dk
    have ln2 := t2 _ _ ln
    have hf0 : H pf = none := t1.free nf
    have nBf : ¬ Bd a c pf := deck_off dk hf0
    have nBn : ¬ Bd a c pn := deck_off dk nn
    have nnf : pn ≠ pf := ne_of_none ln nf
    refine ⟨_, rfl, _, rfl, 2, 1, rfl, rfl, a, c, cells, n, 2 + 1, rfl, dk2, by decide, by decide, n0, by omega, fun H3 cells3 r r0 r4 dk3 k3 => ⟨r, rfl, by omega, by omega, ?_⟩⟩
    have k03 : Keep (Bd a c) H H3 := (Keep.same (t1.trans t2)).trans k3
    refine for_range (lo := 0) (n := r.toNat) (fun i σ H' => (∃ top y6 y7, σ = [some (.ref a), some (.int L), some (.int 2), some (.ref pn), some (.ref pf), some (.int top), y6, y7] ∧ 1 ≤ top ∧ top ≤ 31) ∧ ∃ (cells' : List Int) (n' : Int) (vs : List V) (ss : List Stp), DeckAt a c cells' n' H' ∧ n ≤ n' ∧ n' ≤ n + 1 + 101 * i ∧ Keep (Bd a c) H H' ∧ H' pn = some (.lst [V.str "cut", .str "stop", .str "pass", .str "pass", .str "swap", .str "swap"]) ∧ H' pf = some (.lst vs) ∧
        vs.length = i ∧ DtAll (BD B pf) K H' vs (ss.map Stp.dat) ∧ ∀ s ∈ ss, s.Ok L)
      ⟨⟨31, none, none, rfl, by decide, by decide⟩, cells3, n + 1, [], [], dk3, by omega, by omega, k03, k3 _ _ nBn ln2, k3 _ _ nBf lf, rfl, .nil, fun d z => absurd z List.not_mem_nil⟩ ?_ ?_
    · rintro i σ H4 hi ⟨⟨top, y6, y7, rfl, tp1, tp2⟩, cells4, n4, vs, ss, dk4, a4, b4, k04, ln4, lf4, lv4, dt4, dn4⟩
      refine ⟨_, rfl, _, rfl, _, rfl, _, rfl, a, c, pn, cells4, n4, _, rfl, dk4, by omega, by omega, SqL.of ln4, nBn, List.cons_ne_nil _ _, by decide, fun H5 cells5 x hx dk5 k5 => ?_⟩
      obtain ⟨z, rfl, hz⟩ : ∃ z : Str, x = .str z ∧ isNm z := by
        simp only [List.mem_cons, List.not_mem_nil, or_false] at hx
        rcases hx with hx | hx | hx | hx | hx | hx
        · exact ⟨_, hx, .inl rfl⟩
        · exact ⟨_, hx, .inr (.inl rfl)⟩
        · exact ⟨_, hx, .inr (.inr (.inl rfl))⟩
        · exact ⟨_, hx, .inr (.inr (.inl rfl))⟩
        · exact ⟨_, hx, .inr (.inr (.inr rfl))⟩
        · exact ⟨_, hx, .inr (.inr (.inr rfl))⟩
      have hB2 : ∀ b, Bd a c b → BD B pf b := fun b z => .inl (hB b z)
      have tb5 := tb_bd tb dk5 (k04.trans k5) (k5 _ _ nBf lf4)
      refine ⟨BD B pf, a, c, cells5, n4 + 1, L, ⟨z, rfl, hz⟩, hB2, tb5, dk5, by omega, by omega, L1, L3, fun H6 cells6 n6 v sp dk6 a6 b6 k6 dv hok => ?_⟩
      have k46 := k5.trans k6
      have k06 := k04.trans k46
      have ln6 := k46 _ _ nBn ln4
      have lf6 := k46 _ _ nBf lf4
      have dt6 := DtAll.keep (k46.wide hB2) _ _ dt4
      have tb6 := tb_bd tb dk6 k06 lf6
      -- what is kept at the end of a turn
      have fin : ∀ (H7 : Hp) (q : Addr) (u : V) (sp' : Stp) (tp : Int), Same H6 H7 → Dt (BD B pf) K H7 u sp'.dat → sp'.Ok L → 1 ≤ tp → tp ≤ 31 → (∃ top y6 y7, [some (V.ref a), some (.int L), some (.int 2), some (.ref pn), some (.ref pf), some (.int tp), some (.int (0 + (i : Int))), some (.ref q)] = [some (V.ref a), some (.int L), some (.int 2), some (.ref pn), some (.ref pf), some (.int top), y6, y7] ∧ 1 ≤ top ∧ top ≤ 31) ∧
          ∃ (cells' : List Int) (n' : Int) (vs' : List V) (ss' : List Stp), DeckAt a c cells' n' (upd H7 pf (.lst (vs ++ [u]))) ∧ n ≤ n' ∧ n' ≤ n + 1 + 101 * ((i + 1 : Nat) : Int) ∧ Keep (Bd a c) H (upd H7 pf (.lst (vs ++ [u]))) ∧ (upd H7 pf (.lst (vs ++ [u]))) pn = some (.lst [V.str "cut", .str "stop", .str "pass", .str "pass", .str "swap", .str "swap"]) ∧ (upd H7 pf (.lst (vs ++ [u]))) pf = some (.lst vs') ∧
          vs'.length = i + 1 ∧ DtAll (BD B pf) K (upd H7 pf (.lst (vs ++ [u]))) vs' (ss'.map Stp.dat) ∧ ∀ s ∈ ss', s.Ok L := fun H7 q u sp' tp s7 du ne p1 p2 => by
        have ks : Keep (BD B pf) H7 (upd H7 pf (.lst (vs ++ [u]))) := keep_store (.inr rfl)
        refine ⟨⟨tp, _, _, rfl, p1, p2⟩, cells6, n6, vs ++ [u], ss ++ [sp'], deck_upd (deck_same s7 dk6) nBf, by omega, by omega, fun b o nb g => ?_, ?_, upd_same, by rw [List.length_append, lv4]; rfl, by rw [List.map_append]; exact (DtAll.keep ks _ _ (same_all s7 dt6)).append (.cons (Dt.keep ks _ _ du) .nil), fun x hx => ?_⟩
        · rw [upd_ne (ne_of_none g hf0)]
          exact s7 _ _ (k06 _ _ nb g)
        · rw [upd_ne nnf]
          exact s7 _ _ ln6
        · rcases List.mem_append.mp hx with hx | hx
          · exact dn4 x hx
          · rw [List.mem_singleton.mp hx]
            exact ne
      refine ⟨_, rfl, .inl ⟨rfl, _, SqL.of lf6⟩, ?_⟩
      by_cases hcut : ∃ u m, sp = .cut u m
      · obtain ⟨uu, m, rfl⟩ := hcut
        obtain ⟨q, xs, rfl, nq, hq, hxs, lxs⟩ := Dt.tup_rd dv
        obtain ⟨v0, xs1, rfl, h0, hxs1⟩ := dt_cons hxs
        obtain ⟨v1, xs2, rfl, h1, hxs2⟩ := dt_cons hxs1
        obtain ⟨v2, xs3, rfl, h2, hxs3⟩ := dt_cons hxs2
        cases hxs3
        cases h0
        cases h2
        obtain ⟨o1, o2, m0, m1⟩ := hok
        refine ⟨_, rfl, q, _, 0, _, rfl, rfl, .inl hq, atI_nat (j := 0) rfl, rfl, _, rfl, ite2 (fun _ => ?_) (fun z => absurd (decide_eq_true rfl) z)⟩
        refine ⟨_, rfl, 2, rfl, q, _, rfl, hq, fun q2 H7 s7 hc2 w2 => ?_⟩
        have e7 : cutV [.str "cut", v1, .int m] none (some 2) = [.str "cut", v1] := cut_take _ 2 (by show 2 ≤ 3; decide)
        rw [e7] at hc2
        refine ⟨_, rfl, q, _, 2, .int m, rfl, rfl, .inl (same_rd s7 hq), atI_nat (j := 2) rfl, .inl ⟨m, rfl, _, rfl, m, top, rfl, rfl, by omega, by show 1 ≤ sizeLine; decide, fun u8 hu8 => ?_⟩⟩
        have s8 := same_new (o := .tup [.int (m % top)]) hu8
        refine ⟨q2, u8, _, _, rfl, rfl, same_rd s8 hc2, .inl upd_same, by show 2 + 1 ≤ sizeLine; decide, fun q9 H9 s9 hq9 w9 => ?_⟩
        have s69 := s7.trans (s8.trans s9)
        have nq2 : ¬ BD B pf q2 := nb_of tb6 nq w2
        have tb7 := tb_same s7 tb6
        have nu8 := tb_off tb7 hu8
        have nq9 : ¬ BD B pf q9 := nb_of2 (tb_upd tb7) nq2 nu8 w9
        have d9 : Dt (BD B pf) K H9 (.ref q9) (Stp.cut uu (m % top)).dat := .tup nq9 hq9 (.cons (.str _) (.cons (same_dt s69 h1) (.cons (.int _) .nil)))
        have lf9 := s69 _ _ lf6
        have mm := Int.emod_nonneg m (show top ≠ 0 by omega)
        have mt := Int.emod_lt_of_pos m (show 0 < top by omega)
        refine ⟨pf, vs, _, rfl, rfl, lf9, small1000 (by omega), ?_⟩
        have hq10 : Rd (upd H9 pf (.lst (vs ++ [.ref q9]))) q (.tup [.str "cut", v1, .int m]) := (keep_store (.inr rfl) : Keep (BD B pf) H9 _).rd nq (same_rd s69 hq)
        refine ⟨_, rfl, q, _, 0, _, rfl, rfl, .inl hq10, atI_nat (j := 0) rfl, rfl, _, rfl, ite2 (fun _ => ?_) (fun z => absurd (decide_eq_true rfl) z)⟩
        exact fin H9 q _ (.cut uu (m % top)) 7 s69 d9 ⟨o1, o2, mm, by omega⟩ (by decide) (by decide)
      · obtain ⟨q, nm, xr, rfl, nq, hq, hnm⟩ : ∃ (q : Addr) (nm : Str) (xr : List V), v = .ref q ∧ ¬ BD B pf q ∧ Rd H6 q (.tup (.str nm :: xr)) ∧ nm ≠ "cut" := by
          have one : ∀ {nm : Str} {ds : List PyData}, Dt (BD B pf) K H6 v (.tuple (.str nm :: ds)) → nm ≠ "cut" → ∃ (q : Addr) (nm : Str) (xr : List V), v = .ref q ∧ ¬ BD B pf q ∧ Rd H6 q (.tup (.str nm :: xr)) ∧ nm ≠ "cut" := fun h hne => by
            obtain ⟨q, xs, e, nq, hq, hxs, _⟩ := Dt.tup_rd h
            obtain ⟨v0, xs1, e2, h0, _⟩ := dt_cons hxs
            subst e2
            cases h0
            exact ⟨q, _, xs1, e, nq, hq, hne⟩
          cases sp with
          | cut u m => exact absurd ⟨u, m, rfl⟩ hcut
          | stop c => exact one dv (by decide +kernel)
          | pass _ _ => exact one dv (by decide +kernel)
          | swap _ => exact one dv (by decide +kernel)
        refine ⟨_, rfl, q, _, 0, _, rfl, rfl, .inl hq, atI_nat (j := 0) rfl, rfl, _, rfl, if_not hnm ?_⟩
        refine ⟨_, rfl, pf, vs, _, rfl, rfl, lf6, small1000 (by omega), ?_⟩
        have hq10 : Rd (upd H6 pf (.lst (vs ++ [.ref q]))) q (.tup (.str nm :: xr)) := (keep_store (.inr rfl) : Keep (BD B pf) H6 _).rd nq hq
        refine ⟨_, rfl, q, _, 0, _, rfl, rfl, .inl hq10, atI_nat (j := 0) rfl, rfl, _, rfl, if_not hnm ?_⟩
        exact ⟨_, rfl, fin H6 q _ sp top (Same.refl H6) dv hok tp1 tp2⟩
    · rintro σ H4 ⟨⟨top, y6, y7, rfl, tp1, tp2⟩, cells4, n4, vs, ss, dk4, a4, b4, k04, ln4, lf4, lv4, dt4, dn4⟩
      have tb4 := tb_keep tb dk4 k04
      refine ⟨_, rfl, pf, vs, rfl, .inl ⟨SqL.of lf4, fun q hq => ?_⟩⟩
      have dq := dt_tup tb4 hq dt4
      have e2 := dt4.len
      rw [List.length_map] at e2
      have sq := same_new (o := .tup vs) hq
      exact k _ cells4 n4 _ ss (deck_same sq dk4) a4 (by omega) (k04.trans (Keep.same sq)) dq dn4 (by omega)
end
section
variable {P : Program} {w : World} {K : PySem.W.Frag} {mg : Str → Option Value} {base : Heap}
theorem scWordL : FnScope ["_law_deck_here", "_law_letters", "_law_most", "_law_k"] ["_law_deck_here", "_law_letters", "_law_most"] (defScope sWordL) := ⟨rfl, rfl, rfl, by decide +kernel, rfl, by decide +kernel, by decide +kernel⟩
def spWordL : Sp := fun vs H Q _ => ∃ (a c : Addr) (cells : List Int) (n L m : Int), vs = [.ref a, .int L, .int m] ∧ DeckAt a c cells n H ∧ 0 ≤ n ∧ n ≤ 900000 ∧ 1 ≤ L ∧ L ≤ 3 ∧ 0 ≤ m ∧ m ≤ 100 ∧
  ∀ (H' : Hp) (cells' : List Int) (n' : Int) (cs : List Nat), DeckAt a c cells' n' H' → n ≤ n' → n' ≤ n + m + 1 → Keep (Bd a c) H H' → WOk L m.toNat cs → Q (.str (mkS cs)) H'
theorem ok_wordL {f fD fO : Addr} {fd fdD fdO : FuncData} (F : Fun K "_law_word" "_law_word" sWordL f fd)
    (D : FnOk P w K mg base CX0 1 fD fdD ["_law_deck_here", "_law_most"] spDraw) (FD : Fun K "_law_draw" "_law_draw" sDraw fD fdD) (bD : Binds K fdD ["_law_deck_here", "_law_most"] []) (gD : mg "_law_draw" = some (.ref fD))
    (Y : FnOk P w K mg base CX0 2 fO fdO ["_law_deck_here", "_law_items"] spOneS) (FY : Fun K "_law_one" "_law_one" sOne fO fdO) (bY : Binds K fdO ["_law_deck_here", "_law_items"] []) (gY : mg "_law_one" = some (.ref fO)) (T : Mg mg) : FnOk P w K mg base CX0 3 f fd ["_law_deck_here", "_law_letters", "_law_most"] spWordL := by
  refine F.ok scWordL (fun vs H Q E h => ?_) (fun cdv A outer s H vs Q E hr h => ?_)
  · obtain ⟨a, c, cells, n, L, m, rfl, _⟩ := h
    rfl
  · obtain ⟨a, c, cells, n, L, m, rfl, dk, n0, n1, L1, L3, m0, m1, k⟩ := h
    obtain ⟨ab1, ab3⟩ := abc_len L1 L3
    refine ⟨_, (pss_one (ps_ret (pe_bm (r := rJoin K) PySem.F.plainAttrs_str PySem.F.slot_str_join PySem.F.type_str_join mt_join pe_str (pa_cons (pe_lc (own := [("_law_k", 3)]) (g := gName 3) (tt := tYes) rfl scWordL.nd (pi_range1 (by rfl) T.range (pa_cons (pe_call D (hr.mono (by decide)) (by rfl) gD FD.kp bD .nil pass0 (pa_cons (pv 0) (pa_cons (pe_op op_add (pv 2) pe_int) pa_nil))) pa_nil)) (blkOk_by (N := ["_law_deck_here", "_law_letters", "_law_most", "_law_k"]) (sc := defScope sWordL) (by decide +kernel)) (fun _ _ _ _ _ => pg_name (i := 3) scWordL.nd rfl (Or.inl rfl)) (fun _ _ _ _ _ => pts_nil) (fun _ _ _ _ _ => (pe_call Y (hr.mono (by decide)) (by rfl) gY FY.kp bY .nil pass0 (pa_cons (pv 0) (pa_cons (pe_slice sl_str pe_str po_none (po_some (pv 1))) pa_nil))))) pa_nil)))), ?_⟩
    refine ⟨rfl, _, rfl, _, rfl, m, 1, rfl, rfl, a, c, cells, n, m + 1, rfl, dk, by omega, by omega, n0, by omega, fun H1 cells1 r r0 r1 dk1 k1 => ⟨r, rfl, by omega, by omega, fun D hD => ?_⟩⟩
    refine lc_range (lo := 0) (n := r.toNat) (CInv a c D H1 (SgL L) (n + 1) 1) (cstart dk1 hD) ?_ ?_
    · rintro j H2 hj ⟨cells2, n2, acc, dk2, g0, g1, k2, hDl, hl2, hG⟩
      exact ⟨rfl, _, rfl, _, rfl, L, rfl, "abc", rfl, by show 3 ≤ sizeLine; decide, a, c, cells2, n2, abcS L, rfl, dk2, by omega, by omega, ab1, by omega, fun H8 cells8 x hx dk8 k8 => cstep hD (deck_off dk1 hD) (by omega) g0 g1 k2 hDl hl2 hG dk8 (by omega) (by omega) k8 ⟨x, hx, rfl⟩⟩
    · rintro H2 ⟨cells2, n2, acc, dk2, g0, g1, k2, hDl, hl2, hG⟩
      obtain ⟨cs, rfl, hcs⟩ := sgl_list hG
      rw [List.length_map] at hl2
      refine ⟨"", D, cs.map fun c => (⟨#[c]⟩ : Str), rfl, rfl, .inl (SqL.of (by rw [← sg_map]; exact hDl)), ?_, ?_⟩
      · rw [sg_sum, List.length_map]
        show cs.length + cs.length * 0 ≤ _
        omega
      · rw [join_sg]
        exact k H2 cells2 n2 cs dk2 (by omega) (by omega) (k1.trans k2) ⟨by omega, hcs⟩
end
section
variable {P : Program} {w : World} {K : PySem.W.Frag} {mg : Str → Option Value} {base : Heap}
theorem scKindL : FnScope ["_law_deck_here", "_law_letters", "_law_states", "_law_extent", "_law_rows", "_law_ends", "_law_state_here", "_law_some", "_law_letter"] ["_law_deck_here", "_law_letters", "_law_states"] (defScope sKind) := ⟨rfl, rfl, rfl, by decide +kernel, rfl, by decide +kernel, by decide +kernel⟩
def spKindL (K : PySem.W.Frag) : Sp := fun vs H Q _ => ∃ (B : Addr → Prop) (a c : Addr) (cells : List Int) (n : Int) (L : Nat), vs = [.ref a, .int (L : Int), .int 3] ∧ (∀ b, Bd a c b → B b) ∧ TB B H ∧ DeckAt a c cells n H ∧ 0 ≤ n ∧ n ≤ 900000 ∧ 1 ≤ L ∧ L ≤ 3 ∧
  ∀ (H' : Hp) (cells' : List Int) (n' : Int) (v : V) (rs : Rows) (es : List Bool), DeckAt a c cells' n' H' → n ≤ n' → n' ≤ n + 38 → Keep (Bd a c) H H' → Dt B K H' v (machDt L rs es) → MOk L rs es → rs.length ≤ 3 → Q v H'
theorem b_cs {B : Addr → Prop} {H : Hp} (x : Bool) : Dt B K H (.bl x) (.bool x) := .bl x
theorem ok_kindL {f fD fO : Addr} {fd fdD fdO : FuncData} (F : Fun K "_law_kind" "_law_kind" sKind f fd)
    (D : FnOk P w K mg base CX0 1 fD fdD ["_law_deck_here", "_law_most"] spDraw) (FD : Fun K "_law_draw" "_law_draw" sDraw fD fdD) (bD : Binds K fdD ["_law_deck_here", "_law_most"] []) (gD : mg "_law_draw" = some (.ref fD))
    (O : FnOk P w K mg base CX0 2 fO fdO ["_law_deck_here", "_law_items"] (spOne K)) (FO : Fun K "_law_one" "_law_one" sOne fO fdO) (bO : Binds K fdO ["_law_deck_here", "_law_items"] []) (gO : mg "_law_one" = some (.ref fO)) (T : Mg mg) : FnOk P w K mg base CX0 3 f fd ["_law_deck_here", "_law_letters", "_law_states"] (spKindL K) := by
  refine F.ok scKindL (fun vs H Q E h => ?_) (fun cdv A outer s H vs Q E hr h => ?_)
  · obtain ⟨B, a, c, cells, n, L, rfl, _⟩ := h
    rfl
  · obtain ⟨B, a, c, cells, n, L, rfl, hB, tb, dk, n0, n1, L1, L3, k⟩ := h
    refine ⟨_, (pss_cons (ps_set (i := 3) scKindL.nd rfl (.inl rfl) (pe_op op_add pe_int (pe_call D (hr.mono (by decide)) (by rfl) gD FD.kp bD .nil pass0 (pa_cons (pv 0) (pa_cons (pv 2) pa_nil)))))
      (pss_cons (ps_if (pt_cmpR op_eq (pe_call D (hr.mono (by decide)) (by rfl) gD FD.kp bD .nil pass0 (pa_cons (pv 0) (pa_cons pe_int pa_nil))) pe_int (nomark _)) (pss_one (ps_ret (pe_tup (pa_cons (pv 1) (pa_cons (pe_tup (pa_cons (pe_op op_repS (pe_tup (pa_cons pe_int pa_nil)) (pv 1)) pa_nil)) (pa_cons (pe_tup (pa_cons pe_bl pa_nil)) pa_nil)))))) pss_nil)
      (pss_cons (ps_par (i := 4) (j := 5) rfl scKindL.nd rfl rfl (by decide) rfl rfl (pa_cons (pe_lstA pa_nil) (pa_cons (pe_lstA pa_nil) pa_nil)) (by rfl))
      (pss_cons (ps_for PassesOwn.never rfl (pi_range1 (by rfl) T.range (pa_cons (pv 3) pa_nil)) (pg_name (i := 6) scKindL.nd rfl (.inl rfl)) (pss_cons (ps_set (i := 7) scKindL.nd rfl (.inr rfl) (pe_lstA (pa_cons pe_non (pa_cons pe_int (pa_cons (pe_op op_mod (pe_callTy call_int1 (by rfl) T.int (by decide +kernel) (pa_cons (pe_op op_add (pv 6) pe_int) pa_nil)) (pv 3)) (pa_cons (pe_call D (hr.mono (by decide)) (by rfl) gD FD.kp bD .nil pass0 (pa_cons (pv 0) (pa_cons (pv 3) pa_nil))) (pa_cons (pe_call D (hr.mono (by decide)) (by rfl) gD FD.kp bD .nil pass0 (pa_cons (pv 0) (pa_cons (pv 3) pa_nil))) pa_nil)))))))
      (pss_cons (ps_expr (pe_bm PySem.F.plainAttrs_list PySem.F.slot_list_append PySem.F.type_list_append mt_append (pv 4) (pa_cons (pe_callTy (r := rTup K) call_tuple_of (by rfl) T.tuple PyProof.Rows.boot_tuple (pa_cons (pe_lc (own := [("_law_letter", 8)]) (g := gName 8) (tt := tYes) rfl scKindL.nd (pi_range1 (by rfl) T.range (pa_cons (pv 1) pa_nil)) (blkOk_by (N := ["_law_deck_here", "_law_letters", "_law_states", "_law_extent", "_law_rows", "_law_ends", "_law_state_here", "_law_some", "_law_letter"]) (sc := defScope sKind) (by decide +kernel)) (fun _ _ _ _ _ => pg_name (i := 8) scKindL.nd rfl (Or.inl rfl)) (fun _ _ _ _ _ => pts_nil) (fun _ _ _ _ _ => (pe_call O (hr.mono (by decide)) (by rfl) gO FO.kp bO .nil pass0 (pa_cons (pv 0) (pa_cons (pe_slice (r := rSlL K) sl_list (pv 7) (po_some (pe_call D (hr.mono (by decide)) (by rfl) gD FD.kp bD .nil pass0 (pa_cons (pv 0) (pa_cons pe_int pa_nil)))) po_none) pa_nil))))) pa_nil)) pa_nil)))
      (pss_one (ps_expr (pe_bm PySem.F.plainAttrs_list PySem.F.slot_list_append PySem.F.type_list_append mt_append (pv 5) (pa_cons (pe_cmpR op_gt (pe_call D (hr.mono (by decide)) (by rfl) gD FD.kp bD .nil pass0 (pa_cons (pv 0) (pa_cons pe_int pa_nil))) pe_int (nomark _)) pa_nil)))))))
      (pss_one (ps_ret (pe_tup (pa_cons (pv 1) (pa_cons (pe_callTy (r := rTup K) call_tuple_of (by rfl) T.tuple PyProof.Rows.boot_tuple (pa_cons (pv 4) pa_nil)) (pa_cons (pe_callTy (r := rTup K) call_tuple_of (by rfl) T.tuple PyProof.Rows.boot_tuple (pa_cons (pv 5) pa_nil)) pa_nil)))))))))), ?_⟩
    have L1' : 1 ≤ L := by omega
    refine ⟨_, rfl, _, rfl, a, c, cells, n, 3, rfl, dk, by decide, by decide, n0, by omega, fun H1 cells1 r r0 r3 dk1 k1 => ⟨1, r, rfl, rfl, ?_⟩⟩
    refine ⟨_, rfl, a, c, cells1, n + 1, 3, rfl, dk1, by decide, by decide, by omega, by omega, fun H2 cells2 q q0 q3 dk2 k2 => ⟨rfl, _, rfl, ite2 (fun h1 => ?_) (fun h1 => ?_)⟩⟩
    · have k02 := k1.trans k2
      have tb2 := tb_keep tb dk2 k02
      refine ⟨_, rfl, by show 1 ≤ sizeLine; decide, fun u1 hu1 => ⟨_, rfl, u1, (L : Int), _, rfl, rfl, .inl upd_same, List.cons_ne_nil _ _, by omega, by omega, by show 1 ≤ 1000; decide, fun q1 H6 s6 hq1 w1 => ?_⟩⟩
      have s6' := (same_new (o := .tup [.int 0]) hu1).trans s6
      have nu1 := tb_off tb2 hu1
      have nq1 : ¬ B q1 := by
        rcases w1 with z | z
        · rw [z]
          exact nu1
        · exact tb_off (tb_upd tb2) z
      have dt1 : Dt B K H6 (.ref q1) (rowDt (List.replicate L (some 0))) := by
        unfold rowDt
        refine .tup nq1 hq1 ?_
        rw [List.flatten_replicate_singleton, List.map_replicate]
        exact DtAll.rep (.int 0) _
      have tb6 := tb_same s6' tb2
      refine ⟨by show 1 ≤ sizeLine; decide, fun u2 hu2 => ?_⟩
      have s7 := same_new (o := .tup [.ref q1]) hu2
      have dt2 : Dt B K (upd H6 u2 (.tup [.ref q1])) (.ref u2) (.tuple [rowDt (List.replicate L (some 0))]) := .tup (tb_off tb6 hu2) (.inl upd_same) (.cons (same_dt s7 dt1) .nil)
      have tb7 : TB B (upd H6 u2 (.tup [.ref q1])) := tb_upd tb6
      have s57 := s6'.trans s7
      generalize upd H6 u2 (.tup [.ref q1]) = H7 at *
      refine ⟨by show 1 ≤ sizeLine; decide, fun u3 hu3 => ?_⟩
      have s8 := same_new (o := .tup [.bl true]) hu3
      have dt3 : Dt B K (upd H7 u3 (.tup [.bl true])) (.ref u3) (.tuple [.bool true]) := .tup (tb_off tb7 hu3) (.inl upd_same) (.cons (.bl true) .nil)
      refine ⟨by show 3 ≤ sizeLine; decide, fun u4 hu4 => ?_⟩
      have s9 := same_new (o := .tup [.int (L : Int), .ref u2, .ref u3]) hu4
      have sA := s57.trans (s8.trans s9)
      refine k _ cells2 (n + 1 + 1) _ [List.replicate L (some 0)] [true] (deck_same sA dk2) (by omega) (by omega) (k02.trans (Keep.same sA)) (.tup (tb_off (tb_upd tb7) hu4) (.inl upd_same) (.cons (.int _) (.cons (same_dt (s8.trans s9) dt2) (.cons (same_dt s9 dt3) .nil)))) ⟨Nat.le_refl 1, by show 1 ≤ 400; decide, fun row hrow => ?_, fun row hrow v hv => ?_, rfl, L1', by omega⟩ (by show 1 ≤ 3; decide)
      · rw [List.mem_singleton.mp hrow, List.length_replicate]
      · rw [List.mem_singleton.mp hrow] at hv
        cases List.eq_of_mem_replicate hv
        exact Nat.zero_lt_one
    refine ⟨by show 0 ≤ sizeLine; decide, fun pr G1 t1 nr _ lr => ⟨by show 0 ≤ sizeLine; decide, fun pe G2 t2 ne _ le => ⟨_, _, rfl, ?_⟩⟩⟩
    have dkG := deck_same (t1.trans t2) dk2
    have k0G : Keep (Bd a c) H G2 := (k1.trans k2).trans (Keep.same (t1.trans t2))
    have nre : pr ≠ pe := ne_of_none lr ne
    have hr2 : H2 pr = none := nr
    have he2 : H2 pe = none := t1.free ne
    have nBr : ¬ Bd a c pr := deck_off dk2 hr2
    have nBe : ¬ Bd a c pe := deck_off dk2 he2
    have hr0 : H pr = none := by
      cases e : H pr with
      | none => rfl
      | some o =>
        have := (k1.trans k2) _ _ nBr e
        rw [hr2] at this
        cases this
    have he0 : H pe = none := by
      cases e : H pe with
      | none => rfl
      | some o =>
        have := (k1.trans k2) _ _ nBe e
        rw [he2] at this
        cases this
    refine ⟨_, rfl, 1 + r, rfl, by omega, by omega, ?_⟩
    refine for_range (lo := 0) (n := (1 + r).toNat) (fun i σ H' => (∃ y6 y7, σ = [some (.ref a), some (.int (L : Int)), some (.int 3), some (.int (1 + r)), some (.ref pr), some (.ref pe), y6, y7, none]) ∧ ∃ (cells' : List Int) (n' : Int) (vs : List V) (rows : Rows) (bs : List Bool), DeckAt a c cells' n' H' ∧ n ≤ n' ∧ n' ≤ n + 2 + 12 * i ∧ Keep (Bd a c) H H' ∧ H' pr = some (.lst vs) ∧ H' pe = some (.lst (bs.map V.bl)) ∧
        vs.length = i ∧ bs.length = i ∧ DtAll (BD (BD B pr) pe) K H' vs (rows.map rowDt) ∧ ∀ row ∈ rows, row.length = L ∧ ∀ v, some v ∈ row → (v : Int) < 1 + r)
      ⟨⟨none, none, rfl⟩, cells2, n + 1 + 1, [], [], [], dkG, by omega, by omega, k0G, t2 _ _ lr, le, rfl, rfl, .nil, fun row z => absurd z List.not_mem_nil⟩ ?_ ?_
    · rintro i σ H4 hi ⟨⟨y6, y7, rfl⟩, cells4, n4, vs, rows, bs, dk4, a4, b4, k04, lr4, le4, lv4, lb4, dt4, dn4⟩
      refine ⟨_, rfl, _, 1, rfl, rfl, .inl ⟨_, rfl, _, rfl, _, 1 + r, rfl, rfl, by omega, ?_⟩⟩
      refine ⟨_, rfl, _, rfl, a, c, cells4, n4, 1 + r, rfl, dk4, by omega, by omega, by omega, by omega, fun H5 cells5 e1 e10 e11 dk5 k5 => ?_⟩
      refine ⟨_, rfl, _, rfl, a, c, cells5, n4 + 1, 1 + r, rfl, dk5, by omega, by omega, by omega, by omega, fun H6 cells6 e2 e20 e21 dk6 k6 => ⟨by show 5 ≤ sizeLine; decide, fun ps G7 s7 ns _ lss => ?_⟩⟩
      have md := Int.emod_nonneg (0 + (i : Int) + 1) (show 1 + r ≠ 0 by omega)
      have md2 := Int.emod_lt_of_pos (0 + (i : Int) + 1) (show 0 < 1 + r by omega)
      have lss : G7 ps = some (.lst [.non, .int 0, .int ((0 + (i : Int) + 1) % (1 + r)), .int e1, .int e2]) := lss
      generalize (0 + (i : Int) + 1) % (1 + r) = mm at *
      have hxs : ∀ x ∈ [V.non, .int 0, .int mm, .int e1, .int e2], ∃ o : Option Nat, x = oV o ∧ ∀ v, o = some v → (v : Int) < 1 + r := by
        have one : ∀ z : Int, 0 ≤ z → z < 1 + r → ∃ o : Option Nat, V.int z = oV o ∧ ∀ v, o = some v → (v : Int) < 1 + r := fun z h1 h2 => ⟨some z.toNat, by rw [show oV (some z.toNat) = V.int (z.toNat : Int) from rfl, Int.toNat_of_nonneg h1], fun v e => by cases e; omega⟩
        intro x hx
        simp only [List.mem_cons, List.not_mem_nil, or_false] at hx
        rcases hx with rfl | rfl | rfl | rfl | rfl
        · exact ⟨none, rfl, fun v e => by cases e⟩
        · exact one 0 (by omega) (by omega)
        · exact one _ md md2
        · exact one _ e10 e11
        · exact one _ e20 e21
      have k47 : Keep (Bd a c) H4 G7 := k5.trans (k6.trans (Keep.same s7))
      have dk7 := deck_same s7 dk6
      have nps : ¬ Bd a c ps := deck_off dk6 ns
      have hB3 : ∀ b, Bd a c b → BD (BD B pr) pe b := fun b z => .inl (.inl (hB b z))
      have lr7 := k47 _ _ nBr lr4
      have le7 := k47 _ _ nBe le4
      have dt7 := DtAll.keep (k47.wide hB3) _ _ dt4
      have k07 := k04.trans k47
      refine ⟨_, rfl, .inl ⟨rfl, _, SqL.of lr7⟩, ?_⟩
      refine ⟨_, rfl, (L : Int), rfl, by omega, by omega, fun D hD => ?_⟩
      refine lc_range (lo := 0) (n := (L : Int).toNat) (LInv K (BD (BD B pr) pe) a c D G7 (n4 + 2) 2 (fun d => ∃ o : Option Nat, d = oD o ∧ ∀ v, o = some v → (v : Int) < 1 + r)) (linv_start (by rw [show n4 + 2 = n4 + 1 + 1 by omega]; exact dk7) hD) ?_ ?_
      · rintro j H8 hj ⟨cells8, n8, vs8, ds8, dk8, g0, g1, k8, lD, hl8, ha8, hN8⟩
        refine ⟨rfl, _, rfl, _, rfl, _, rfl, a, c, cells8, n8, 2, rfl, dk8, by decide, by decide, by omega, by omega, fun H9 cells9 t t0 t2 dk9 k9 => ⟨t, rfl, ps, _, rfl, SqL.of (k9 _ _ nps (k8 _ _ nps lss)), fun p10 np10 => ?_⟩⟩
        have et : cutV [V.non, .int 0, .int mm, .int e1, .int e2] (some t) none = [V.non, .int 0, .int mm, .int e1, .int e2].drop t.toNat := by
          have := cut_drop [V.non, .int 0, .int mm, .int e1, .int e2] t.toNat (by show t.toNat ≤ 5; omega)
          rw [Int.toNat_of_nonneg t0] at this
          exact this
        refine ⟨a, c, p10, cells9, n8 + 1, [V.non, .int 0, .int mm, .int e1, .int e2].drop t.toNat, rfl, deck_new dk9 np10, by omega, by omega, SqL.of (by rw [← et]; exact upd_same), deck_off dk9 np10, ?_, ?_, fun H11 cells11 x hx dk11 k11 => ?_⟩
        · intro e
          have := congrArg List.length e
          rw [List.length_drop] at this
          have e5 : ([V.non, .int 0, .int mm, .int e1, .int e2] : List V).length = 5 := rfl
          rw [e5, List.length_nil] at this
          omega
        · rw [List.length_drop]
          show 5 - t.toNat ≤ 1000
          omega
        · obtain ⟨o, rfl, ho⟩ := hxs x (List.mem_of_mem_drop hx)
          exact linv_step hB3 hD (deck_off dk7 hD) (by omega) g0 g1 k8 lD hl8 ha8 hN8 dk11 (k9.trans ((Keep.same (same_new np10)).trans k11)) (by omega) (by omega) (o_cs o) ⟨o, rfl, ho⟩
      · rintro H8 ⟨cells8, n8, vs8, ds8, dk8, g0, g1, k8, lD, hl8, ha8, hN8⟩
        have lr8 := k8 _ _ nBr lr7
        have le8 := k8 _ _ nBe le7
        have dt8 := DtAll.keep (k8.wide hB3) _ _ dt7
        have k08 := k07.trans k8
        have tb8 := tb_bd (tb_bd tb dk8 k08 lr8) dk8 (Keep.rfl' : Keep (Bd a c) H8 H8) le8
        have hlds := ha8.len
        obtain ⟨row, rfl, hrow⟩ := all_of hN8
        rw [List.length_map] at hlds
        refine ⟨D, vs8, rfl, .inl ⟨SqL.of lD, fun q9 hq9 => ?_⟩⟩
        have dq : Dt (BD (BD B pr) pe) K (upd H8 q9 (.tup vs8)) (.ref q9) (rowDt row) := dt_tup tb8 hq9 ha8
        have s9 := same_new (o := .tup vs8) hq9
        have dk9 := deck_same s9 dk8
        have lr9 := s9 _ _ lr8
        have le9 := s9 _ _ le8
        have dt9 := same_all s9 dt8
        have k09 := k08.trans (Keep.same s9)
        generalize upd H8 q9 (.tup vs8) = H9 at *
        refine ⟨pr, vs, _, rfl, rfl, lr9, small1000 (by omega), ?_⟩
        have ks : Keep (BD (BD B pr) pe) H9 (upd H9 pr (.lst (vs ++ [.ref q9]))) := keep_store (.inl (.inr rfl))
        have dk10 : DeckAt a c cells8 n8 (upd H9 pr (.lst (vs ++ [.ref q9]))) := deck_upd dk9 nBr
        have lr10 : (upd H9 pr (.lst (vs ++ [.ref q9]))) pr = some (.lst (vs ++ [.ref q9])) := upd_same
        have le10 : (upd H9 pr (.lst (vs ++ [.ref q9]))) pe = some (.lst (bs.map V.bl)) := by
          rw [upd_ne nre.symm]
          exact le9
        have dt10 := (DtAll.keep ks _ _ dt9).append (.cons (Dt.keep ks _ _ dq) .nil)
        have k010 : Keep (Bd a c) H (upd H9 pr (.lst (vs ++ [.ref q9]))) := fun b o nb e => by
          rw [upd_ne (ne_of_none e hr0)]
          exact k09 _ _ nb e
        generalize upd H9 pr (.lst (vs ++ [.ref q9])) = H10 at *
        refine ⟨_, rfl, .inl ⟨rfl, _, SqL.of le10⟩, _, rfl, a, c, cells8, n8, 4, rfl, dk10, by decide, by decide, by omega, by omega, fun H11 cells11 w w0 w4 dk11 k11 => ⟨_, _, rfl, rfl, ?_⟩⟩
        have lr11 := k11 _ _ nBr lr10
        have le11 := k11 _ _ nBe le10
        refine ⟨pe, _, _, rfl, rfl, le11, ?_, ⟨_, _, rfl⟩, cells11, n8 + 1, vs ++ [.ref q9], rows ++ [row], bs ++ [decide (0 < w)], deck_upd dk11 nBe, by omega, by omega, fun b o nb e => ?_, ?_, ?_, ?_, ?_, ?_, fun x hx => ?_⟩
        · rw [List.length_map]
          exact small1000 (by omega)
        · rw [upd_ne (ne_of_none e he0)]
          exact k11 _ _ nb (k010 _ _ nb e)
        · rw [upd_ne nre]
          exact lr11
        · rw [upd_same, List.map_append]
          rfl
        · rw [List.length_append, lv4]
          rfl
        · rw [List.length_append, lb4]
          rfl
        · rw [List.map_append]
          exact DtAll.keep (keep_store (.inr rfl)) _ _ (DtAll.keep (k11.wide hB3) _ _ dt10)
        · rcases List.mem_append.mp hx with hx | hx
          · exact dn4 x hx
          · rw [List.mem_singleton.mp hx]
            exact ⟨by omega, fun v hv => hrow _ hv v rfl⟩
    · rintro σ H4 ⟨⟨y6, y7, rfl⟩, cells4, n4, vs, rows, bs, dk4, a4, b4, k04, lr4, le4, lv4, lb4, dt4, dn4⟩
      have tb4 := tb_keep tb dk4 k04
      have hlr := dt4.len
      rw [List.length_map] at hlr
      refine ⟨_, rfl, _, rfl, pr, vs, rfl, .inl ⟨SqL.of lr4, fun q1 hq1 => ?_⟩⟩
      have d1 : Dt B K (upd H4 q1 (.tup vs)) (.ref q1) (.tuple (rows.map rowDt)) := (mk_tupB tb4 hq1 (DtAll.weak (fun b z => .inl (.inl z)) _ _ dt4)).1
      have s1 := same_new (o := .tup vs) hq1
      have tb5 : TB B (upd H4 q1 (.tup vs)) := tb_upd tb4
      refine ⟨_, rfl, pe, _, rfl, .inl ⟨SqL.of (s1 _ _ le4), fun q2 hq2 => ?_⟩⟩
      have d2 : Dt B K (upd (upd H4 q1 (.tup vs)) q2 (.tup (bs.map V.bl))) (.ref q2) (.tuple (bs.map PyData.bool)) := (mk_tupB tb5 hq2 (dt_cs b_cs bs)).1
      have s2 := same_new (o := .tup (bs.map V.bl)) hq2
      refine ⟨by show 3 ≤ sizeLine; decide, fun u hu => ?_⟩
      have s3 := same_new (o := .tup [.int (L : Int), .ref q1, .ref q2]) hu
      have sA := s1.trans (s2.trans s3)
      exact k _ cells4 n4 _ rows bs (deck_same sA dk4) a4 (by omega) (k04.trans (Keep.same sA)) (.tup (tb_off (tb_upd tb5) hu) (.inl upd_same) (.cons (.int _) (.cons (same_dt (s2.trans s3) d1) (.cons (same_dt s3 d2) .nil)))) ⟨by omega, by omega, fun row h => (dn4 row h).1, fun row h v hv => by
        have := (dn4 row h).2 v hv
        omega, by omega, L1', by omega⟩ (by omega)
end
section
variable {P : Program} {w : World} {K : PySem.W.Frag} {mg : Str → Option Value} {base : Heap}
theorem scQueryL : FnScope ["_law_deck_here", "_law_letters", "_law_depth", "_law_has_passes", "_law_way", "_law_line_here", "_law_step_here", "_law_some", "_law_k"] ["_law_deck_here", "_law_letters", "_law_depth", "_law_has_passes"] (defScope sQueryL) := ⟨rfl, rfl, rfl, by decide +kernel, rfl, by decide +kernel, by decide +kernel⟩
def qd : Nat → Int
  | 0 => 0
  | k + 1 => 205 + 3 * qd k
def nb : Nat → Nat
  | 0 => 0
  | 1 => 28
  | k + 2 => 111 + 3 * nb (k + 1)
theorem qd_nn : ∀ k, 0 ≤ qd k
  | 0 => Int.le_refl 0
  | k + 1 => by
    have := qd_nn k
    unfold qd
    omega
theorem nb_leaf : ∀ k, 28 ≤ nb (k + 1)
  | 0 => Nat.le_refl _
  | k + 1 => by
    have := nb_leaf k
    unfold nb
    omega
theorem nb_lot {k : Nat} (h : 1 ≤ k) : 111 + 3 * nb k = nb (k + 1) := by
  obtain ⟨m, rfl⟩ : ∃ m, k = m + 1 := ⟨k - 1, by omega⟩
  rfl
theorem nb_seen {k : Nat} (h : 1 ≤ k) : 111 + nb k ≤ nb (k + 1) := by
  rw [← nb_lot h]
  omega
theorem nodes_flat {α : Type} {f : α → PyData} {m : Nat} : ∀ {xs : List α}, (∀ x ∈ xs, nodes (f x) ≤ m) → nodesAll (xs.map f) ≤ m * xs.length := fun {xs} h => by
  have := nodes_all (N := m) (ds := xs.map f) fun d hd => by
    obtain ⟨x, hx, rfl⟩ := List.mem_map.mp hd
    exact h x hx
  rw [List.length_map] at this
  exact this
theorem mul_le3 {a b c d : Nat} (h : a ≤ c) (g : b ≤ d) : a * b ≤ c * d := Nat.mul_le_mul h g
theorem mach_nodes {L : Nat} {rs : Rows} {es : List Bool} (M : MOk L rs es) (h : rs.length ≤ 3) : nodes (machDt L rs es) ≤ 24 := by
  have L3 := M.L3
  have h1 : nodesAll (rs.map rowDt) ≤ 4 * rs.length := nodes_flat fun row hrow => by
    unfold rowDt
    rw [nodes_tup]
    have h2 : nodesAll (row.map oD) ≤ 1 * row.length := nodes_flat fun o _ => by
      cases o with
      | none => exact Nat.le_refl _
      | some k => exact Nat.le_refl _
    have := M.row row hrow
    omega
  have h3 : nodesAll (es.map PyData.bool) ≤ 1 * es.length := nodes_flat fun b _ => Nat.le_refl _
  have := M.es
  unfold machDt
  rw [nodes_tup, nodesAll_cons, nodesAll_cons, nodesAll_cons, nodesAll_nil, nodes_tup, nodes_tup, show nodes (.int (L : Int)) = 1 from rfl]
  omega
theorem step_nodes {L : Int} (L3 : L ≤ 3) {s : Stp} (h : s.Ok L) : nodes s.dat ≤ 52 := by
  have e1 : ("cut" : Str).length = 3 := rfl
  have e2 : ("stop" : Str).length = 4 := rfl
  have e3 : ("pass" : Str).length = 4 := rfl
  have e4 : ("swap" : Str).length = 4 := rfl
  cases s with
  | cut u m =>
    have h3 : nodesAll (u.map PyData.int) ≤ 1 * u.length := nodes_flat fun b _ => Nat.le_refl _
    have := h.1
    unfold Stp.dat
    rw [nodes_tup, nodesAll_cons, nodesAll_cons, nodesAll_cons, nodesAll_nil, nodes_tup, nodes_str', e1, show nodes (.int m) = 1 from rfl]
    omega
  | stop c =>
    unfold Stp.dat
    rw [nodes_tup, nodesAll_cons, nodesAll_cons, nodesAll_nil, nodes_str', e2, show nodes (sgD c) = 1 + 1 from nodes_str' _]
    omega
  | pass rows outs =>
    obtain ⟨r1, r4, ho, hr, hs⟩ := h
    have h1 : nodesAll (rows.map fun r => PyData.tuple (r.map natD)) ≤ 4 * rows.length := nodes_flat fun row hrow => by
      rw [nodes_tup]
      have h2 : nodesAll (row.map natD) ≤ 1 * row.length := nodes_flat fun o _ => Nat.le_refl _
      have := (hr row hrow).1
      omega
    have h3 : nodesAll (outs.map fun r => PyData.tuple (r.map sgD)) ≤ 7 * outs.length := nodes_flat fun row hrow => by
      rw [nodes_tup]
      have h2 : nodesAll (row.map sgD) ≤ 2 * row.length := nodes_flat fun o _ => by
        rw [show nodes (sgD o) = 1 + 1 from nodes_str' _]
        exact Nat.le_refl _
      have := (hs row hrow).1
      omega
    unfold Stp.dat
    rw [nodes_tup, nodesAll_cons, nodesAll_cons, nodesAll_cons, nodesAll_nil, nodes_tup, nodes_tup, nodes_str', e3]
    omega
  | swap ps =>
    obtain ⟨p4, hp⟩ := h
    have h1 : nodesAll (ps.map prD) ≤ 7 * ps.length := nodes_flat fun p hpp => by
      obtain ⟨_, _, l1, l2, l3⟩ := hp p hpp
      unfold prD
      rw [nodes_tup, nodesAll_cons, nodesAll_cons, nodesAll_nil, nodes_str', nodes_str']
      omega
    unfold Stp.dat
    rw [nodes_tup, nodesAll_cons, nodesAll_cons, nodesAll_nil, nodes_tup, nodes_str', e4]
    omega
theorem line_nodes {L : Int} (L3 : L ≤ 3) {ss : List Stp} (h : ∀ s ∈ ss, s.Ok L) (hl : ss.length ≤ 2) : nodes (.tuple (ss.map Stp.dat)) ≤ 105 := by
  have h1 : nodesAll (ss.map Stp.dat) ≤ 52 * ss.length := nodes_flat fun s hs => step_nodes L3 (h s hs)
  rw [nodes_tup]
  omega
def isPl : Stp → Bool
  | .cut _ _ => true
  | .stop _ => true
  | _ => false
theorem isPl_ok {s : Stp} (h : isPl s = true) : s.plain := by
  cases s with
  | cut _ _ => exact True.intro
  | stop _ => exact True.intro
  | pass _ _ => cases h
  | swap _ => cases h
theorem step_name {B : Addr → Prop} {H : Hp} {v : V} {sp : Stp} (h : Dt B K H v sp.dat) : ∃ (q : Addr) (nm : Str) (xr : List V), v = .ref q ∧ Rd H q (.tup (.str nm :: xr)) ∧ inV (.str nm) [.str "stop", .str "cut"] = isPl sp := by
  have one : ∀ {nm : Str} {ds : List PyData}, Dt B K H v (.tuple (.str nm :: ds)) → inV (.str nm) [.str "stop", .str "cut"] = isPl sp → ∃ (q : Addr) (nm : Str) (xr : List V), v = .ref q ∧ Rd H q (.tup (.str nm :: xr)) ∧ inV (.str nm) [.str "stop", .str "cut"] = isPl sp := fun h hne => by
    obtain ⟨q, xs, e, nq, hq, hxs, _⟩ := Dt.tup_rd h
    obtain ⟨v0, xs1, e2, h0, _⟩ := dt_cons hxs
    subst e2
    cases h0
    exact ⟨q, _, xs1, e, hq, hne⟩
  cases sp with
  | cut u m => exact one h (show inV (.str "cut") [.str "stop", .str "cut"] = true by decide +kernel)
  | stop c => exact one h (show inV (.str "stop") [.str "stop", .str "cut"] = true by decide +kernel)
  | pass _ _ => exact one h (show inV (.str "pass") [.str "stop", .str "cut"] = false by decide +kernel)
  | swap _ => exact one h (show inV (.str "swap") [.str "stop", .str "cut"] = false by decide +kernel)
def spQueryD (K : PySem.W.Frag) (p : Bool) (k : Nat) : Sp := fun vs H Q _ => ∃ (B : Addr → Prop) (a c : Addr) (cells : List Int) (n L : Int), vs = [.ref a, .int L, .int (k : Int), .bl p] ∧ (∀ b, Bd a c b → B b) ∧ TB B H ∧ DeckAt a c cells n H ∧ 0 ≤ n ∧ n + qd k ≤ 800000 ∧ 1 ≤ L ∧ L ≤ 3 ∧ 1 ≤ k ∧
  ∀ (H' : Hp) (cells' : List Int) (n' : Int) (v : V) (d : PyData), DeckAt a c cells' n' H' → n ≤ n' → n' ≤ n + qd k → Keep (Bd a c) H H' → Dt B K H' v d → (∀ C, ∃ f, Qn L C p k d f) → nodes d ≤ nb k → Q v H'
theorem queryD_body {f fD fO fWO fKI fLI : Addr} {fd fdD fdO fdWO fdKI fdLI : FuncData} {k0 kk : Nat} {p : Bool} (F : Fun K "_law_query" "_law_query" sQueryL f fd) (gREC : mg "_law_query" = some (.ref f)) (bREC : Binds K fd ["_law_deck_here", "_law_letters", "_law_depth", "_law_has_passes"] [])
    (hk : 5 ≤ kk) (REC : FnOk P w K mg base CX0 kk f fd ["_law_deck_here", "_law_letters", "_law_depth", "_law_has_passes"] (spQueryD K p k0))
    (D : FnOk P w K mg base CX0 1 fD fdD ["_law_deck_here", "_law_most"] spDraw) (FD : Fun K "_law_draw" "_law_draw" sDraw fD fdD) (bD : Binds K fdD ["_law_deck_here", "_law_most"] []) (gD : mg "_law_draw" = some (.ref fD))
    (O : FnOk P w K mg base CX0 2 fO fdO ["_law_deck_here", "_law_items"] (spOne K)) (FO : Fun K "_law_one" "_law_one" sOne fO fdO) (bO : Binds K fdO ["_law_deck_here", "_law_items"] []) (gO : mg "_law_one" = some (.ref fO))
    (Y : FnOk P w K mg base CX0 2 fO fdO ["_law_deck_here", "_law_items"] spOneS) (FY : Fun K "_law_one" "_law_one" sOne fO fdO) (bY : Binds K fdO ["_law_deck_here", "_law_items"] []) (gY : mg "_law_one" = some (.ref fO))
    (WO : FnOk P w K mg base CX0 3 fWO fdWO ["_law_deck_here", "_law_letters", "_law_most"] spWordL) (FWO : Fun K "_law_word" "_law_word" sWordL fWO fdWO) (bWO : Binds K fdWO ["_law_deck_here", "_law_letters", "_law_most"] []) (gWO : mg "_law_word" = some (.ref fWO))
    (KI : FnOk P w K mg base CX0 3 fKI fdKI ["_law_deck_here", "_law_letters", "_law_states"] (spKindL K)) (FKI : Fun K "_law_kind" "_law_kind" sKind fKI fdKI) (bKI : Binds K fdKI ["_law_deck_here", "_law_letters", "_law_states"] []) (gKI : mg "_law_kind" = some (.ref fKI))
    (LI : FnOk P w K mg base CX0 5 fLI fdLI ["_law_deck_here", "_law_letters", "_law_most"] (spLineL K)) (FLI : Fun K "_law_line" "_law_line" sLineL fLI fdLI) (bLI : Binds K fdLI ["_law_deck_here", "_law_letters", "_law_most"] []) (gLI : mg "_law_line" = some (.ref fLI)) (T : Mg mg) : FnOk P w K mg base CX0 (kk + 1) f fd ["_law_deck_here", "_law_letters", "_law_depth", "_law_has_passes"] (spQueryD K p (k0 + 1)) := by
  have FREC := F
  refine F.ok scQueryL (fun vs H Q E h => ?_) (fun cdv A outer s H vs Q E hr h => ?_)
  · obtain ⟨B, a, c, cells, n, L, rfl, _⟩ := h
    rfl
  · obtain ⟨B, a, c, cells, n, L, rfl, hB, tb, dk, n0, n1, L1, L3, _, k⟩ := h
    obtain ⟨ab1, ab3⟩ := abc_len L1 L3
    have hqd : qd (k0 + 1) = 205 + 3 * qd k0 := rfl
    have hq0 := qd_nn k0
    have hnl := nb_leaf k0
    rw [hqd] at n1 k
    refine ⟨_, (pss_cons (ps_set (i := 4) scQueryL.nd rfl (.inl rfl) (pe_call D (hr.mono (by omega)) (by rfl) gD FD.kp bD .nil pass0 (pa_cons (pv 0) (pa_cons (pe_ifExp (pt_cmpR op_gt (pv 2) pe_int (nomark _)) pe_int pe_int) pa_nil))))
      (pss_cons (ps_if (pt_cmpR op_lt (pv 4) pe_int (nomark _)) (pss_one (ps_ret (pe_tup (pa_cons (pe_call O (hr.mono (by omega)) (by rfl) gO FO.kp bO .nil pass0 (pa_cons (pv 0) (pa_cons (pe_lstA (pa_cons pe_str (pa_cons pe_str (pa_cons pe_str (pa_cons pe_str pa_nil))))) pa_nil))) (pa_cons (pe_call WO (hr.mono (by omega)) (by rfl) gWO FWO.kp bWO .nil pass0 (pa_cons (pv 0) (pa_cons (pv 1) (pa_cons (pe_call O (hr.mono (by omega)) (by rfl) gO FO.kp bO .nil pass0 (pa_cons (pv 0) (pa_cons (pe_lstA (pa_cons pe_int (pa_cons pe_int (pa_cons pe_int pa_nil)))) pa_nil))) pa_nil)))) pa_nil))))) pss_nil)
      (pss_cons (ps_if (pt_cmpR op_eq (pv 4) pe_int (nomark _)) (pss_one (ps_ret (pe_tup (pa_cons pe_str (pa_cons (pe_op op_add_str (pe_call Y (hr.mono (by omega)) (by rfl) gY FY.kp bY .nil pass0 (pa_cons (pv 0) (pa_cons (pe_slice sl_str pe_str po_none (po_some (pv 1))) pa_nil))) (pe_call WO (hr.mono (by omega)) (by rfl) gWO FWO.kp bWO .nil pass0 (pa_cons (pv 0) (pa_cons (pv 1) (pa_cons (pe_call O (hr.mono (by omega)) (by rfl) gO FO.kp bO .nil pass0 (pa_cons (pv 0) (pa_cons (pe_lstA (pa_cons pe_int (pa_cons pe_int (pa_cons pe_int pa_nil)))) pa_nil))) pa_nil))))) pa_nil))))) pss_nil)
      (pss_cons (ps_if (pt_cmpR op_eq (pv 4) pe_int (nomark _)) (pss_one (ps_ret (pe_tup (pa_cons pe_str (pa_cons (pe_call KI (hr.mono (by omega)) (by rfl) gKI FKI.kp bKI .nil pass0 (pa_cons (pv 0) (pa_cons (pv 1) (pa_cons pe_int pa_nil)))) pa_nil))))) pss_nil)
      (pss_cons (ps_if (pt_cmpR op_eq (pv 4) pe_int (nomark _)) (pss_cons (ps_set (i := 5) scQueryL.nd rfl (.inl rfl) (pe_call LI (hr.mono (by omega)) (by rfl) gLI FLI.kp bLI .nil pass0 (pa_cons (pv 0) (pa_cons (pv 1) (pa_cons pe_int pa_nil)))))
      (pss_cons (ps_set (i := 5) scQueryL.nd rfl (.inl rfl) (pe_ifExp (pt_val (pv 3)) (pv 5) (pe_callTy (r := rTup K) call_tuple_of (by rfl) T.tuple PyProof.Rows.boot_tuple (pa_cons (pe_lc (own := [("_law_step_here", 6)]) (g := gName 6) rfl scQueryL.nd (pi_tup (pv 5)) (blkOk_by (N := ["_law_deck_here", "_law_letters", "_law_depth", "_law_has_passes", "_law_way", "_law_line_here", "_law_step_here", "_law_some", "_law_k"]) (sc := defScope sQueryL) (by decide +kernel)) (fun _ _ _ _ _ => pg_name (i := 6) scQueryL.nd rfl (Or.inl rfl)) (fun _ _ _ _ _ => pts_one (pt_cmpR (r := rIn K false) op_in_seq (pe_ix (r := rIxT K) ix_tup (pv 6) pe_int (fun _ _ => rfl)) (pe_tup (pa_cons pe_str (pa_cons pe_str pa_nil))) (by rfl))) (fun _ _ _ _ _ => (pv 6))) pa_nil))))
      (pss_one (ps_ret (pe_tup (pa_cons pe_str (pa_cons (pv 5) (pa_cons (pe_call REC hr (by rfl) gREC FREC.kp bREC .nil pass0 (pa_cons (pv 0) (pa_cons (pv 1) (pa_cons (pe_op op_sub (pv 2) pe_int) (pa_cons (pv 3) pa_nil))))) pa_nil)))))))) pss_nil)
      (pss_cons (ps_if (pt_cmpR op_eq (pv 4) pe_int (nomark _)) (pss_one (ps_ret (pe_tup (pa_cons pe_str (pa_cons (pe_call REC hr (by rfl) gREC FREC.kp bREC .nil pass0 (pa_cons (pv 0) (pa_cons (pv 1) (pa_cons (pe_op op_sub (pv 2) pe_int) (pa_cons (pv 3) pa_nil))))) pa_nil))))) pss_nil)
      (pss_cons (ps_set (i := 7) scQueryL.nd rfl (.inl rfl) (pe_callTy (r := rTup K) call_tuple_of (by rfl) T.tuple PyProof.Rows.boot_tuple (pa_cons (pe_lc (own := [("_law_k", 8)]) (g := gName 8) (tt := tYes) rfl scQueryL.nd (pi_range1 (by rfl) T.range (pa_cons (pe_call D (hr.mono (by omega)) (by rfl) gD FD.kp bD .nil pass0 (pa_cons (pv 0) (pa_cons pe_int pa_nil))) pa_nil)) (blkOk_by (N := ["_law_deck_here", "_law_letters", "_law_depth", "_law_has_passes", "_law_way", "_law_line_here", "_law_step_here", "_law_some", "_law_k"]) (sc := defScope sQueryL) (by decide +kernel)) (fun _ _ _ _ _ => pg_name (i := 8) scQueryL.nd rfl (Or.inl rfl)) (fun _ _ _ _ _ => pts_nil) (fun _ _ _ _ _ => (pe_call REC hr (by rfl) gREC FREC.kp bREC .nil pass0 (pa_cons (pv 0) (pa_cons (pv 1) (pa_cons (pe_op op_sub (pv 2) pe_int) (pa_cons (pv 3) pa_nil))))))) pa_nil)))
      (pss_one (ps_ret (pe_tup (pa_cons (pe_call O (hr.mono (by omega)) (by rfl) gO FO.kp bO .nil pass0 (pa_cons (pv 0) (pa_cons (pe_lstA (pa_cons pe_str (pa_cons pe_str pa_nil))) pa_nil))) (pa_cons (pv 7) pa_nil)))))))))))), ?_⟩
    refine ⟨_, rfl, _, rfl, _, _, rfl, rfl, _, rfl, ite2 (fun hd => ?_) (fun hd => ?_)⟩
    · have hk1 : 1 ≤ k0 := by
        have := of_decide_eq_true hd
        omega
      refine ⟨a, c, cells, n, 9, rfl, dk, by decide, by decide, n0, by omega, fun H1 cells1 r r0 rM dk1 k1 => ?_⟩
      have tb1 := tb_keep tb dk1 k1
      refine ⟨_, rfl, _, _, rfl, rfl, _, rfl, ite2 (fun h1 => ?_) (fun h1 => ?_)⟩
      · refine ⟨_, rfl, by show 4 ≤ sizeLine; decide, fun p2 G2 s2 np2 _ lp2 => ?_⟩
        refine ⟨a, c, p2, cells1, n + 1, _, rfl, deck_same s2 dk1, by omega, by omega, SqL.of lp2, deck_off dk1 np2, List.cons_ne_nil _ _, by show 4 ≤ 1000; decide, fun H3 cells3 x hx dk3 k3 => ?_⟩
        refine ⟨_, rfl, _, rfl, _, rfl, by show 3 ≤ sizeLine; decide, fun p4 G4 s4 np4 _ lp4 => ?_⟩
        refine ⟨a, c, p4, cells3, n + 1 + 1, _, rfl, deck_same s4 dk3, by omega, by omega, SqL.of lp4, deck_off dk3 np4, List.cons_ne_nil _ _, by show 3 ≤ 1000; decide, fun H5 cells5 y hy dk5 k5 => ?_⟩
        obtain ⟨m, rfl, m0, m20⟩ : ∃ m : Int, y = .int m ∧ 0 ≤ m ∧ m ≤ 20 := by
          simp only [List.mem_cons, List.not_mem_nil, or_false] at hy
          rcases hy with rfl | rfl | rfl <;> exact ⟨_, rfl, by decide, by decide⟩
        refine ⟨a, c, cells5, n + 1 + 1 + 1, L, m, rfl, dk5, by omega, by omega, L1, L3, m0, by omega, fun H6 cells6 n6 cs dk6 g0 g1 k6 hw => ⟨by show 2 ≤ sizeLine; decide, fun u hu => ?_⟩⟩
        have k06 : Keep (Bd a c) H H6 := k1.trans ((Keep.same s2).trans (k3.trans ((Keep.same s4).trans (k5.trans k6))))
        have tb6 := tb_keep tb dk6 k06
        have hw20 : WOk L 20 (TL.tl (mkS cs)) := wok_up hw (by omega)
        have fin : ∀ nm : Str, x = .str nm → nm.length ≤ 5 → (∀ C, ∃ f, Qn L C p (k0 + 1) (.tuple [.str nm, .str (mkS cs)]) f) → Q (.ref u) (upd H6 u (.tup [x, .str (mkS cs)])) := fun nm e hl hq => by
          subst e
          refine k _ cells6 n6 _ (.tuple [.str nm, .str (mkS cs)]) (deck_new dk6 hu) (by omega) (by omega) (k06.trans (Keep.same (same_new hu))) (.tup (tb_off tb6 hu) (.inl upd_same) (.cons (.str _) (.cons (.str _) .nil))) hq ?_
          have hc := hw20.1
          rw [tl_mkS] at hc
          rw [nodes_tup, nodesAll_cons, nodesAll_cons, nodesAll_nil, nodes_str', nodes_str', mkS_len]
          omega
        simp only [List.mem_cons, List.not_mem_nil, or_false] at hx
        rcases hx with hx | hx | hx | hx
        · exact fin _ hx (by decide) fun C => ⟨_, .rel (.inl ⟨rfl, rfl⟩) hw20⟩
        · exact fin _ hx (by decide) fun C => ⟨_, .rel (.inr (.inr ⟨rfl, rfl⟩)) hw20⟩
        · exact fin _ hx (by decide) fun C => ⟨_, .rel (.inr (.inl ⟨rfl, rfl⟩)) hw20⟩
        · exact fin _ hx (by decide) fun C => ⟨_, .is hw20⟩
      have h1 : ¬ (r < 3) := fun q => h1 (decide_eq_true q)
      refine ⟨_, rfl, rfl, _, rfl, ite2 (fun h2 => ?_) (fun h2 => ?_)⟩
      · refine ⟨_, rfl, _, rfl, L, rfl, "abc", rfl, by show 3 ≤ sizeLine; decide, a, c, cells1, n + 1, abcS L, rfl, dk1, by omega, by omega, ab1, by omega, fun H3 cells3 x hx dk3 k3 => ?_⟩
        refine ⟨_, rfl, _, rfl, _, rfl, by show 3 ≤ sizeLine; decide, fun p4 G4 s4 np4 _ lp4 => ?_⟩
        refine ⟨a, c, p4, cells3, n + 1 + 1, _, rfl, deck_same s4 dk3, by omega, by omega, SqL.of lp4, deck_off dk3 np4, List.cons_ne_nil _ _, by show 3 ≤ 1000; decide, fun H5 cells5 y hy dk5 k5 => ?_⟩
        obtain ⟨m, rfl, m0, m3⟩ : ∃ m : Int, y = .int m ∧ 0 ≤ m ∧ m ≤ 3 := by
          simp only [List.mem_cons, List.not_mem_nil, or_false] at hy
          rcases hy with rfl | rfl | rfl <;> exact ⟨_, rfl, by decide, by decide⟩
        refine ⟨a, c, cells5, n + 1 + 1 + 1, L, m, rfl, dk5, by omega, by omega, L1, L3, m0, by omega, fun H6 cells6 n6 cs dk6 g0 g1 k6 hw => ?_⟩
        have hcl := hw.1
        have e1 : (⟨#[x]⟩ : Str) ++ mkS cs = mkS (x :: cs) := mkS_add [x] cs
        refine ⟨_, _, rfl, rfl, ?_, by show 2 ≤ sizeLine; decide, fun u hu => ?_⟩
        · rw [mkS_len]
          exact sz_of (show 1 + cs.length ≤ 100000 by omega)
        have k06 : Keep (Bd a c) H H6 := k1.trans (k3.trans ((Keep.same s4).trans (k5.trans k6)))
        have tb6 := tb_keep tb dk6 k06
        rw [e1] at *
        have hw20 : WOk L 20 (TL.tl (mkS (x :: cs))) := by
          refine ⟨by show cs.length + 1 ≤ 20; omega, fun c' hc' => ?_⟩
          rcases List.mem_cons.mp hc' with rfl | hc'
          · exact hx
          · exact hw.2 c' hc'
        refine k _ cells6 n6 _ (.tuple [.str "has", .str (mkS (x :: cs))]) (deck_new dk6 hu) (by omega) (by omega) (k06.trans (Keep.same (same_new hu))) (.tup (tb_off tb6 hu) (.inl upd_same) (.cons (.str _) (.cons (.str _) .nil))) (fun C => ⟨_, .has hw20⟩) ?_
        rw [nodes_tup, nodesAll_cons, nodesAll_cons, nodesAll_nil, nodes_str', nodes_str', mkS_len, List.length_cons]
        have e3 : ("has" : Str).length = 3 := rfl
        rw [e3]
        omega
      have h2 : r ≠ 3 := fun q => h2 (by rw [q]; exact decide_eq_true rfl)
      refine ⟨_, rfl, rfl, _, rfl, ite2 (fun h3 => ?_) (fun h3 => ?_)⟩
      · refine ⟨_, rfl, _, rfl, B, a, c, cells1, n + 1, L.toNat, congrArg (fun q : Int => [V.ref a, V.int q, V.int 3]) (Int.toNat_of_nonneg (show 0 ≤ L by omega)).symm, hB, tb1, dk1, by omega, by omega, by omega, by omega, fun H6 cells6 n6 v rs es dk6 g0 g1 k6 dv M h3r => ⟨by show 2 ≤ sizeLine; decide, fun u hu => ?_⟩⟩
        have k06 : Keep (Bd a c) H H6 := k1.trans k6
        have tb6 := tb_keep tb dk6 k06
        refine k _ cells6 n6 _ (.tuple [.str "of", machDt L.toNat rs es]) (deck_new dk6 hu) (by omega) (by omega) (k06.trans (Keep.same (same_new hu))) (.tup (tb_off tb6 hu) (.inl upd_same) (.cons (.str _) (.cons (same_dt (same_new hu) dv) .nil))) (fun C => ⟨_, .of M⟩) ?_
        have hm := mach_nodes M h3r
        rw [nodes_tup, nodesAll_cons, nodesAll_cons, nodesAll_nil, nodes_str']
        have e3 : ("of" : Str).length = 2 := rfl
        rw [e3]
        omega
      have h3 : r ≠ 4 := fun q => h3 (by rw [q]; exact decide_eq_true rfl)
      refine ⟨_, rfl, rfl, _, rfl, ite2 (fun h4 => ?_) (fun h4 => ?_)⟩
      · refine ⟨_, rfl, _, rfl, B, a, c, cells1, n + 1, L, rfl, hB, tb1, dk1, by omega, by omega, L1, L3, fun H3 cells3 n3 v ss dk3 g0 g1 k3 dv hok hss => ?_⟩
        have k03 := k1.trans k3
        have tb3 := tb_keep tb dk3 k03
        have tail : ∀ (G : Hp) (v2 : V) (ss2 : List Stp), Same H3 G → Dt B K G v2 (.tuple (ss2.map Stp.dat)) → (∀ s ∈ ss2, s.Ok L) → ss2.length ≤ 2 → (p = false → ∀ s ∈ ss2, s.plain) → ∃ (B' : Addr → Prop) (a' c' : Addr) (cells' : List Int) (n' L' : Int), [V.ref a, .int L, .int (((k0 + 1 : Nat) : Int) - 1), .bl p] = [V.ref a', .int L', .int (k0 : Int), .bl p] ∧ (∀ b, Bd a' c' b → B' b) ∧ TB B' G ∧ DeckAt a' c' cells' n' G ∧ 0 ≤ n' ∧ n' + qd k0 ≤ 800000 ∧ 1 ≤ L' ∧ L' ≤ 3 ∧ 1 ≤ k0 ∧
            ∀ (H' : Hp) (cells'' : List Int) (n'' : Int) (v' : V) (d' : PyData), DeckAt a' c' cells'' n'' H' → n' ≤ n'' → n'' ≤ n' + qd k0 → Keep (Bd a' c') G H' → Dt B' K H' v' d' → (∀ C, ∃ f, Qn L' C p k0 d' f) → nodes d' ≤ nb k0 → 3 ≤ sizeLine ∧ ∀ u, H' u = none → Q (.ref u) (upd H' u (.tup [.str "seen", v2, v'])) := fun G v2 ss2 sG dv2 ok2 hl2 pl2 => by
          refine ⟨B, a, c, cells3, n3, L, congrArg (fun q : Int => [V.ref a, V.int L, V.int q, V.bl p]) (show ((k0 + 1 : Nat) : Int) - 1 = (k0 : Int) by omega), hB, tb_same sG tb3, deck_same sG dk3, by omega, by omega, L1, L3, hk1, fun H5 cells5 n5 v5 d5 dk5 g2 g3 k5 dv5 hq5 hn5 => ⟨by decide, fun u hu => ?_⟩⟩
          have k05 := k03.trans ((Keep.same sG).trans k5)
          have tb5 := tb_keep tb dk5 k05
          have dv2' := Dt.keep (k5.wide hB) _ _ dv2
          refine k _ cells5 n5 _ (.tuple [.str "seen", .tuple (ss2.map Stp.dat), d5]) (deck_new dk5 hu) (by omega) (by omega) (k05.trans (Keep.same (same_new hu))) (.tup (tb_off tb5 hu) (.inl upd_same) (.cons (.str _) (.cons (same_dt (same_new hu) dv2') (.cons (same_dt (same_new hu) dv5) .nil)))) (fun C => ?_) ?_
          · obtain ⟨f, hf⟩ := hq5 C
            exact ⟨_, .seen ok2 pl2 hf⟩
          · have hm := line_nodes (ss := ss2) L3 ok2 hl2
            have hq := nb_seen hk1
            rw [nodes_tup, nodesAll_cons, nodesAll_cons, nodesAll_cons, nodesAll_nil, nodes_str']
            have e3 : ("seen" : Str).length = 4 := rfl
            rw [e3]
            omega
        refine ⟨_, rfl, _, rfl, ?_⟩
        cases p with
        | true =>
          refine ite2 (fun _ => ⟨_, rfl, ?_⟩) (fun q => absurd rfl q)
          refine ⟨_, rfl, _, rfl, _, rfl, _, rfl, _, _, rfl, rfl, _, rfl, ?_⟩
          exact tail H3 v ss (Same.refl H3) dv hok hss (fun e => by cases e)
        | false =>
          refine ite2 (fun q => by cases q) (fun _ => ?_)
          obtain ⟨pl, xs, rfl, npl, hpl, hxs, hlx⟩ := dv.tup_ref
          refine ⟨_, rfl, pl, rfl, ⟨xs, hpl⟩, fun D hD => ?_⟩
          have hoff := DtAll.off hD _ _ hxs
          refine lc_tup (K := K) (a := pl) (xs := xs) (fun i H' => Same H3 H' ∧ ∃ vs, H' D = some (.lst vs) ∧ vs.length ≤ i ∧ DtAll (BD B D) K H' vs (((ss.take i).filter isPl).map Stp.dat)) ⟨same_new hD, [], upd_same, Nat.le_refl _, .nil⟩ (fun i H' _ q => same_seqT q.1 hpl) ?_ ?_
          · rintro i y H5 hy ⟨sm, vs, hl5, lv5, ha5⟩
            obtain ⟨dd, hdi, hdd⟩ := (same_all sm hoff).getV hy
            rw [List.getElem?_map] at hdi
            obtain ⟨sp, hsp, rfl⟩ := Option.map_eq_some_iff.mp hdi
            have hi2 := (List.getElem?_eq_some_iff.mp hsp).1
            obtain ⟨q, nm, xr, rfl, hq, hnm⟩ := step_name hdd
            refine ⟨rfl, _, rfl, q, _, 0, _, rfl, rfl, .inl hq, atI_nat (j := 0) rfl, by show 2 ≤ sizeLine; decide, fun tt ntt => ⟨tt, _, rfl, .inr (SqT.of upd_same), rfl, rfl, _, rfl, ?_⟩⟩
            rw [show (if false = true then !inV (.str nm) [.str "stop", .str "cut"] else inV (.str nm) [.str "stop", .str "cut"]) = isPl sp from hnm]
            have st := same_new (o := .tup [.str "stop", .str "cut"]) ntt
            have ft : (ss.take (i + 1)).filter isPl = (ss.take i).filter isPl ++ [sp].filter isPl := by
              rw [List.take_add_one, hsp, List.filter_append]
              rfl
            refine ite2 (fun e => ?_) (fun e => ?_)
            · refine ⟨_, rfl, vs, st _ _ hl5, small1000 (by omega), fun b o z => ?_, vs ++ [.ref q], upd_same, by rw [List.length_append, List.length_singleton]; omega, ?_⟩
              · rw [upd_ne (ne_of_none z hD)]
                exact st _ _ (sm _ _ z)
              · rw [ft, List.map_append]
                refine (DtAll.keep (keep_store (.inr rfl)) _ _ (same_all st ha5)).append ?_
                rw [List.filter_cons, if_pos e]
                exact .cons (Dt.keep (keep_store (.inr rfl)) _ _ (same_dt st hdd)) .nil
            · refine ⟨sm.trans st, vs, st _ _ hl5, by omega, ?_⟩
              rw [ft, List.filter_cons, if_neg e, List.filter_nil, List.append_nil]
              exact same_all st ha5
          · rintro H5 ⟨sm, vs, hl5, lv5, ha5⟩
            have hlx' : xs.length = ss.length := by rw [hlx, List.length_map]
            rw [hlx', List.take_length] at ha5
            refine ⟨D, vs, rfl, .inl ⟨SqL.of hl5, fun q hq => ?_⟩⟩
            have tb5 := tb_same sm tb3
            have dq := (mk_tupB tb5 hq (DtAll.weak (fun b z => .inl z) _ _ ha5)).1
            refine ⟨_, rfl, _, rfl, _, rfl, _, rfl, _, _, rfl, rfl, _, rfl, ?_⟩
            exact tail _ _ (ss.filter isPl) (sm.trans (same_new hq)) dq (fun s hs => hok s (List.mem_filter.mp hs).1) (Nat.le_trans (List.length_filter_le _ _) hss) (fun _ s hs => isPl_ok (List.mem_filter.mp hs).2)
      have h4 : r ≠ 5 := fun q => h4 (by rw [q]; exact decide_eq_true rfl)
      refine ⟨_, rfl, rfl, _, rfl, ite2 (fun h5 => ?_) (fun h5 => ?_)⟩
      · refine ⟨_, rfl, _, rfl, _, rfl, _, _, rfl, rfl, _, rfl, B, a, c, cells1, n + 1, L, congrArg (fun q : Int => [V.ref a, V.int L, V.int q, V.bl p]) (show ((k0 + 1 : Nat) : Int) - 1 = (k0 : Int) by omega), hB, tb1, dk1, by omega, by omega, L1, L3, hk1, fun H5 cells5 n5 v5 d5 dk5 g2 g3 k5 dv5 hq5 hn5 => ⟨by show 2 ≤ sizeLine; decide, fun u hu => ?_⟩⟩
        have k05 := k1.trans k5
        have tb5 := tb_keep tb dk5 k05
        refine k _ cells5 n5 _ (.tuple [.str "not", d5]) (deck_new dk5 hu) (by omega) (by omega) (k05.trans (Keep.same (same_new hu))) (.tup (tb_off tb5 hu) (.inl upd_same) (.cons (.str _) (.cons (same_dt (same_new hu) dv5) .nil))) (fun C => ?_) ?_
        · obtain ⟨f, hf⟩ := hq5 C
          exact ⟨_, .no hf⟩
        · have hq := nb_seen hk1
          rw [nodes_tup, nodesAll_cons, nodesAll_cons, nodesAll_nil, nodes_str']
          have e3 : ("not" : Str).length = 3 := rfl
          rw [e3]
          omega
      refine ⟨_, rfl, a, c, cells1, n + 1, 4, rfl, dk1, by decide, by decide, by omega, by omega, fun H2 cells2 q q0 q4 dk2 k2 => ⟨q, rfl, by omega, by omega, fun D hD => ?_⟩⟩
      have k02 := k1.trans k2
      have tb2 := tb_keep tb dk2 k02
      have qd0 := qd_nn k0
      refine lc_range (lo := 0) (n := q.toNat) (LInv K B a c D H2 (n + 2) (qd k0) (fun d => ∃ d' : PyData, d = d' ∧ ((∀ C, ∃ f, Qn L C p k0 d' f) ∧ nodes d' ≤ nb k0))) (linv_start (by rw [show n + 2 = n + 1 + 1 by omega]; exact dk2) hD) ?_ ?_
      · rintro j H3 hj ⟨cells3, n3, vs3, ds3, dk3, g0, g1, k3, lD, hl3, ha3, hN3⟩
        have hqj : qd k0 * (j : Int) ≤ 2 * qd k0 := by
          have : (j : Int) = 0 ∨ (j : Int) = 1 ∨ (j : Int) = 2 := by omega
          rcases this with e | e | e <;> rw [e] <;> omega
        refine ⟨rfl, _, rfl, _, rfl, _, rfl, _, _, rfl, rfl, _, rfl, BD B D, a, c, cells3, n3, L, congrArg (fun q : Int => [V.ref a, V.int L, V.int q, V.bl p]) (show ((k0 + 1 : Nat) : Int) - 1 = (k0 : Int) by omega), fun b z => .inl (hB b z), tb_bd tb2 dk3 k3 lD, dk3, by omega, by omega, L1, L3, hk1, fun H5 cells5 n5 v5 d5 dk5 g2 g3 k5 dv5 hq5 hn5 => ?_⟩
        exact linv_step hB hD (deck_off dk2 hD) (by omega) g0 g1 k3 lD hl3 ha3 hN3 dk5 k5 (by omega) (by omega) dv5 ⟨d5, rfl, hq5, hn5⟩
      · rintro H3 ⟨cells3, n3, vs3, ds3, dk3, g0, g1, k3, lD, hl3, ha3, hN3⟩
        have hqj : qd k0 * (q.toNat : Int) ≤ 3 * qd k0 := by
          have : (q.toNat : Int) = 0 ∨ (q.toNat : Int) = 1 ∨ (q.toNat : Int) = 2 ∨ (q.toNat : Int) = 3 := by omega
          rcases this with e | e | e | e <;> rw [e] <;> omega
        have k03 := k02.trans k3
        have tb3 := tb_keep tb dk3 k03
        obtain ⟨ds, rfl, hds⟩ := all_of hN3
        rw [show ds.map (fun d => d) = ds from List.map_id ds] at ha3
        have hlds := ha3.len
        refine ⟨D, vs3, rfl, .inl ⟨SqL.of lD, fun p4 np4 => ?_⟩⟩
        have d4 := dt_tup tb3 np4 ha3
        have s4 := same_new (o := .tup vs3) np4
        have tb4 : TB B (upd H3 p4 (.tup vs3)) := tb_upd tb3
        have dk4 := deck_same s4 dk3
        have k04 := k03.trans (Keep.same s4)
        generalize upd H3 p4 (.tup vs3) = H4 at *
        refine ⟨_, rfl, by show 2 ≤ sizeLine; decide, fun p5 G5 s5 np5 _ lp5 => ?_⟩
        refine ⟨a, c, p5, cells3, n3, _, rfl, deck_same s5 dk4, by omega, by omega, SqL.of lp5, deck_off dk4 np5, List.cons_ne_nil _ _, by show 2 ≤ 1000; decide, fun H6 cells6 x hx dk6 k6 => ⟨_, rfl, by show 2 ≤ sizeLine; decide, fun u hu => ?_⟩⟩
        have k46 := (Keep.same s5).trans k6
        have k06 := k04.trans k46
        have tb6 := tb_keep tb dk6 k06
        have d6 := Dt.keep (k46.wide hB) _ _ d4
        have hn3 : nodesAll ds ≤ nb k0 * ds.length := nodes_all fun e he => (hds e he).2
        have hl3' : ds.length ≤ 3 := by omega
        have hnn : nodesAll ds ≤ 3 * nb k0 := Nat.le_trans hn3 (by rw [Nat.mul_comm 3]; exact Nat.mul_le_mul_left _ hl3')
        have hq := nb_lot hk1
        have fin : ∀ (nm : Str) (b : Bool), x = .str nm → nm.length ≤ 4 → ((nm = "all" ∧ b = true) ∨ (nm = "some" ∧ b = false)) → Q (.ref u) (upd H6 u (.tup [x, .ref p4])) := fun nm b e hl hnm => by
          subst e
          refine k _ cells6 (n3 + 1) _ (.tuple [.str nm, .tuple ds]) (deck_new dk6 hu) (by omega) (by omega) (k06.trans (Keep.same (same_new hu))) (.tup (tb_off tb6 hu) (.inl upd_same) (.cons (.str _) (.cons (same_dt (same_new hu) d6) .nil))) (fun C => ?_) ?_
          · have pick : ∀ i : Nat, ∃ f : Str → Bool, ∀ q, ds[i]? = some q → Qn L C p k0 q f := fun i => by
              cases e : ds[i]? with
              | none => exact ⟨fun _ => false, fun q z => by cases z⟩
              | some q =>
                obtain ⟨f, hf⟩ := (hds q (List.mem_of_getElem? e)).1 C
                exact ⟨f, fun q' z => by cases z; exact hf⟩
            exact ⟨_, .lot (fs := fun i => Classical.choose (pick i)) hnm (by omega) fun i q e => Classical.choose_spec (pick i) q e⟩
          · rw [nodes_tup, nodesAll_cons, nodesAll_cons, nodesAll_nil, nodes_str', nodes_tup]
            omega
        simp only [List.mem_cons, List.not_mem_nil, or_false] at hx
        rcases hx with hx | hx
        · exact fin _ true hx (by decide) (.inl ⟨rfl, rfl⟩)
        · exact fin _ false hx (by decide) (.inr ⟨rfl, rfl⟩)
    · refine ⟨a, c, cells, n, 5, rfl, dk, by decide, by decide, n0, by omega, fun H1 cells1 r r0 rM dk1 k1 => ?_⟩
      have tb1 := tb_keep tb dk1 k1
      refine ⟨_, rfl, _, _, rfl, rfl, _, rfl, ite2 (fun h1 => ?_) (fun h1 => ?_)⟩
      · refine ⟨_, rfl, by show 4 ≤ sizeLine; decide, fun p2 G2 s2 np2 _ lp2 => ?_⟩
        refine ⟨a, c, p2, cells1, n + 1, _, rfl, deck_same s2 dk1, by omega, by omega, SqL.of lp2, deck_off dk1 np2, List.cons_ne_nil _ _, by show 4 ≤ 1000; decide, fun H3 cells3 x hx dk3 k3 => ?_⟩
        refine ⟨_, rfl, _, rfl, _, rfl, by show 3 ≤ sizeLine; decide, fun p4 G4 s4 np4 _ lp4 => ?_⟩
        refine ⟨a, c, p4, cells3, n + 1 + 1, _, rfl, deck_same s4 dk3, by omega, by omega, SqL.of lp4, deck_off dk3 np4, List.cons_ne_nil _ _, by show 3 ≤ 1000; decide, fun H5 cells5 y hy dk5 k5 => ?_⟩
        obtain ⟨m, rfl, m0, m20⟩ : ∃ m : Int, y = .int m ∧ 0 ≤ m ∧ m ≤ 20 := by
          simp only [List.mem_cons, List.not_mem_nil, or_false] at hy
          rcases hy with rfl | rfl | rfl <;> exact ⟨_, rfl, by decide, by decide⟩
        refine ⟨a, c, cells5, n + 1 + 1 + 1, L, m, rfl, dk5, by omega, by omega, L1, L3, m0, by omega, fun H6 cells6 n6 cs dk6 g0 g1 k6 hw => ⟨by show 2 ≤ sizeLine; decide, fun u hu => ?_⟩⟩
        have k06 : Keep (Bd a c) H H6 := k1.trans ((Keep.same s2).trans (k3.trans ((Keep.same s4).trans (k5.trans k6))))
        have tb6 := tb_keep tb dk6 k06
        have hw20 : WOk L 20 (TL.tl (mkS cs)) := wok_up hw (by omega)
        have fin : ∀ nm : Str, x = .str nm → nm.length ≤ 5 → (∀ C, ∃ f, Qn L C p (k0 + 1) (.tuple [.str nm, .str (mkS cs)]) f) → Q (.ref u) (upd H6 u (.tup [x, .str (mkS cs)])) := fun nm e hl hq => by
          subst e
          refine k _ cells6 n6 _ (.tuple [.str nm, .str (mkS cs)]) (deck_new dk6 hu) (by omega) (by omega) (k06.trans (Keep.same (same_new hu))) (.tup (tb_off tb6 hu) (.inl upd_same) (.cons (.str _) (.cons (.str _) .nil))) hq ?_
          have hc := hw20.1
          rw [tl_mkS] at hc
          rw [nodes_tup, nodesAll_cons, nodesAll_cons, nodesAll_nil, nodes_str', nodes_str', mkS_len]
          omega
        simp only [List.mem_cons, List.not_mem_nil, or_false] at hx
        rcases hx with hx | hx | hx | hx
        · exact fin _ hx (by decide) fun C => ⟨_, .rel (.inl ⟨rfl, rfl⟩) hw20⟩
        · exact fin _ hx (by decide) fun C => ⟨_, .rel (.inr (.inr ⟨rfl, rfl⟩)) hw20⟩
        · exact fin _ hx (by decide) fun C => ⟨_, .rel (.inr (.inl ⟨rfl, rfl⟩)) hw20⟩
        · exact fin _ hx (by decide) fun C => ⟨_, .is hw20⟩
      have h1 : ¬ (r < 3) := fun q => h1 (decide_eq_true q)
      refine ⟨_, rfl, rfl, _, rfl, ite2 (fun h2 => ?_) (fun h2 => ?_)⟩
      · refine ⟨_, rfl, _, rfl, L, rfl, "abc", rfl, by show 3 ≤ sizeLine; decide, a, c, cells1, n + 1, abcS L, rfl, dk1, by omega, by omega, ab1, by omega, fun H3 cells3 x hx dk3 k3 => ?_⟩
        refine ⟨_, rfl, _, rfl, _, rfl, by show 3 ≤ sizeLine; decide, fun p4 G4 s4 np4 _ lp4 => ?_⟩
        refine ⟨a, c, p4, cells3, n + 1 + 1, _, rfl, deck_same s4 dk3, by omega, by omega, SqL.of lp4, deck_off dk3 np4, List.cons_ne_nil _ _, by show 3 ≤ 1000; decide, fun H5 cells5 y hy dk5 k5 => ?_⟩
        obtain ⟨m, rfl, m0, m3⟩ : ∃ m : Int, y = .int m ∧ 0 ≤ m ∧ m ≤ 3 := by
          simp only [List.mem_cons, List.not_mem_nil, or_false] at hy
          rcases hy with rfl | rfl | rfl <;> exact ⟨_, rfl, by decide, by decide⟩
        refine ⟨a, c, cells5, n + 1 + 1 + 1, L, m, rfl, dk5, by omega, by omega, L1, L3, m0, by omega, fun H6 cells6 n6 cs dk6 g0 g1 k6 hw => ?_⟩
        have hcl := hw.1
        have e1 : (⟨#[x]⟩ : Str) ++ mkS cs = mkS (x :: cs) := mkS_add [x] cs
        refine ⟨_, _, rfl, rfl, ?_, by show 2 ≤ sizeLine; decide, fun u hu => ?_⟩
        · rw [mkS_len]
          exact sz_of (show 1 + cs.length ≤ 100000 by omega)
        have k06 : Keep (Bd a c) H H6 := k1.trans (k3.trans ((Keep.same s4).trans (k5.trans k6)))
        have tb6 := tb_keep tb dk6 k06
        rw [e1] at *
        have hw20 : WOk L 20 (TL.tl (mkS (x :: cs))) := by
          refine ⟨by show cs.length + 1 ≤ 20; omega, fun c' hc' => ?_⟩
          rcases List.mem_cons.mp hc' with rfl | hc'
          · exact hx
          · exact hw.2 c' hc'
        refine k _ cells6 n6 _ (.tuple [.str "has", .str (mkS (x :: cs))]) (deck_new dk6 hu) (by omega) (by omega) (k06.trans (Keep.same (same_new hu))) (.tup (tb_off tb6 hu) (.inl upd_same) (.cons (.str _) (.cons (.str _) .nil))) (fun C => ⟨_, .has hw20⟩) ?_
        rw [nodes_tup, nodesAll_cons, nodesAll_cons, nodesAll_nil, nodes_str', nodes_str', mkS_len, List.length_cons]
        have e3 : ("has" : Str).length = 3 := rfl
        rw [e3]
        omega
      have h2 : r ≠ 3 := fun q => h2 (by rw [q]; exact decide_eq_true rfl)
      refine ⟨_, rfl, rfl, _, rfl, ite2 (fun h3 => ?_) (fun h3 => ?_)⟩
      · refine ⟨_, rfl, _, rfl, B, a, c, cells1, n + 1, L.toNat, congrArg (fun q : Int => [V.ref a, V.int q, V.int 3]) (Int.toNat_of_nonneg (show 0 ≤ L by omega)).symm, hB, tb1, dk1, by omega, by omega, by omega, by omega, fun H6 cells6 n6 v rs es dk6 g0 g1 k6 dv M h3r => ⟨by show 2 ≤ sizeLine; decide, fun u hu => ?_⟩⟩
        have k06 : Keep (Bd a c) H H6 := k1.trans k6
        have tb6 := tb_keep tb dk6 k06
        refine k _ cells6 n6 _ (.tuple [.str "of", machDt L.toNat rs es]) (deck_new dk6 hu) (by omega) (by omega) (k06.trans (Keep.same (same_new hu))) (.tup (tb_off tb6 hu) (.inl upd_same) (.cons (.str _) (.cons (same_dt (same_new hu) dv) .nil))) (fun C => ⟨_, .of M⟩) ?_
        have hm := mach_nodes M h3r
        rw [nodes_tup, nodesAll_cons, nodesAll_cons, nodesAll_nil, nodes_str']
        have e3 : ("of" : Str).length = 2 := rfl
        rw [e3]
        omega
      have h3 : r ≠ 4 := fun q => h3 (by rw [q]; exact decide_eq_true rfl)
      omega
theorem ok_queryD {f fD fO fWO fKI fLI : Addr} {fd fdD fdO fdWO fdKI fdLI : FuncData} {p : Bool} (F : Fun K "_law_query" "_law_query" sQueryL f fd) (gREC : mg "_law_query" = some (.ref f)) (bREC : Binds K fd ["_law_deck_here", "_law_letters", "_law_depth", "_law_has_passes"] [])
    (D : FnOk P w K mg base CX0 1 fD fdD ["_law_deck_here", "_law_most"] spDraw) (FD : Fun K "_law_draw" "_law_draw" sDraw fD fdD) (bD : Binds K fdD ["_law_deck_here", "_law_most"] []) (gD : mg "_law_draw" = some (.ref fD))
    (O : FnOk P w K mg base CX0 2 fO fdO ["_law_deck_here", "_law_items"] (spOne K)) (FO : Fun K "_law_one" "_law_one" sOne fO fdO) (bO : Binds K fdO ["_law_deck_here", "_law_items"] []) (gO : mg "_law_one" = some (.ref fO))
    (Y : FnOk P w K mg base CX0 2 fO fdO ["_law_deck_here", "_law_items"] spOneS) (FY : Fun K "_law_one" "_law_one" sOne fO fdO) (bY : Binds K fdO ["_law_deck_here", "_law_items"] []) (gY : mg "_law_one" = some (.ref fO))
    (WO : FnOk P w K mg base CX0 3 fWO fdWO ["_law_deck_here", "_law_letters", "_law_most"] spWordL) (FWO : Fun K "_law_word" "_law_word" sWordL fWO fdWO) (bWO : Binds K fdWO ["_law_deck_here", "_law_letters", "_law_most"] []) (gWO : mg "_law_word" = some (.ref fWO))
    (KI : FnOk P w K mg base CX0 3 fKI fdKI ["_law_deck_here", "_law_letters", "_law_states"] (spKindL K)) (FKI : Fun K "_law_kind" "_law_kind" sKind fKI fdKI) (bKI : Binds K fdKI ["_law_deck_here", "_law_letters", "_law_states"] []) (gKI : mg "_law_kind" = some (.ref fKI))
    (LI : FnOk P w K mg base CX0 5 fLI fdLI ["_law_deck_here", "_law_letters", "_law_most"] (spLineL K)) (FLI : Fun K "_law_line" "_law_line" sLineL fLI fdLI) (bLI : Binds K fdLI ["_law_deck_here", "_law_letters", "_law_most"] []) (gLI : mg "_law_line" = some (.ref fLI)) (T : Mg mg) : ∀ n : Nat, FnOk P w K mg base CX0 (5 + n) f fd ["_law_deck_here", "_law_letters", "_law_depth", "_law_has_passes"] (spQueryD K p n)
  | 0 => by
    have no : ∀ {vs : List V} {H : Hp} {Q : VK} {E : XK}, spQueryD K p 0 vs H Q E → False := fun h => by
      obtain ⟨_, _, _, _, _, _, _, _, _, _, _, _, _, _, h1, _⟩ := h
      exact absurd h1 (by decide)
    exact ⟨fun _ _ _ _ h => (no h).elim, fun _ _ _ _ _ _ _ _ _ _ _ _ _ h => (no h).elim⟩
  | n + 1 => queryD_body F gREC bREC (Nat.le_add_right 5 n) (ok_queryD F gREC bREC D FD bD gD O FO bO gO Y FY bY gY WO FWO bWO gWO KI FKI bKI gKI LI FLI bLI gLI T n) D FD bD gD O FO bO gO Y FY bY gY WO FWO bWO gWO KI FKI bKI gKI LI FLI bLI gLI T
end
/-! ### drawn queries are what both looks agree on -/
theorem step_not {L : Int} {nm : Str} {r : List PyData} (h1 : nm ≠ "cut") (h2 : nm ≠ "stop") (h3 : nm ≠ "pass") (h4 : nm ≠ "swap") : stepL L (.str nm) r = false := by
  have e : ∀ z : Str, nm ≠ z → ¬ (strIs (.str nm) z = true) := fun z h q => h (of_decide_eq_true q)
  unfold stepL
  rw [if_neg (e _ h1), if_neg (e _ h2), if_neg (e _ h3), if_neg (e _ h4)]
theorem stepD_not {L : Int} {nm : Str} {y : PyData} {r : List PyData} (h : nm ≠ "cut" ∧ nm ≠ "stop" ∧ nm ≠ "pass" ∧ nm ≠ "swap") : stepD L (.tuple (.str nm :: y :: r)) = false := step_not h.1 h.2.1 h.2.2.1 h.2.2.2
theorem vnm_not {nm : Str} {v : Int} (h : VNm nm v) : nm ≠ "seen" ∧ nm ≠ "cut" ∧ nm ≠ "stop" ∧ nm ≠ "pass" ∧ nm ≠ "swap" := by
  rcases h with ⟨rfl, _⟩ | ⟨rfl, _⟩ | ⟨rfl, _⟩ <;> decide +kernel
theorem lot_not {nm : Str} {b : Bool} (h : (nm = "all" ∧ b = true) ∨ (nm = "some" ∧ b = false)) : nm ≠ "seen" ∧ nm ≠ "cut" ∧ nm ≠ "stop" ∧ nm ≠ "pass" ∧ nm ≠ "swap" := by
  rcases h with ⟨rfl, _⟩ | ⟨rfl, _⟩ <;> decide +kernel
section
variable {L : Int} {C : Str → Str → Int} {p : Bool} {n : Nat} {d : PyData} {f : Str → Bool}
theorem qn_shape (h : Qn L C p n d f) : ∃ (nm : Str) (r : PyData) (rs : List PyData), d = .tuple (.str nm :: r :: rs) ∧ rs.length ≤ 1 := by
  cases h with
  | rel _ _ => exact ⟨_, _, [], rfl, Nat.zero_le _⟩
  | is _ => exact ⟨_, _, [], rfl, Nat.zero_le _⟩
  | has _ => exact ⟨_, _, [], rfl, Nat.zero_le _⟩
  | of _ => exact ⟨_, _, [], rfl, Nat.zero_le _⟩
  | seen _ _ _ => exact ⟨_, _, [_], rfl, Nat.le_refl _⟩
  | no _ => exact ⟨_, _, [], rfl, Nat.zero_le _⟩
  | lot _ _ _ => exact ⟨_, _, [], rfl, Nat.zero_le _⟩
theorem qn_step (h : Qn L C p n d f) : stepD L d = false := by
  cases h with
  | rel h _ => exact stepD_not (vnm_not h).2
  | is _ => exact stepD_not (by decide +kernel)
  | has _ => exact stepD_not (by decide +kernel)
  | of _ => exact stepD_not (by decide +kernel)
  | seen _ _ _ => exact stepD_not (by decide +kernel)
  | no _ => exact stepD_not (by decide +kernel)
  | lot h _ _ => exact stepD_not (lot_not h).2
theorem tup_step {x y : List PyData} : stepD L (.tuple (.tuple x :: y)) = false := by
  cases y <;> rfl
theorem dat_tup (s : Stp) : ∃ x, s.dat = .tuple x := by
  cases s <;> exact ⟨_, rfl⟩
theorem line_step {ss : List Stp} : stepD L (.tuple (ss.map Stp.dat)) = false := by
  cases ss with
  | nil => rfl
  | cons s ss =>
    obtain ⟨x, e⟩ := dat_tup s
    rw [List.map_cons, e]
    exact tup_step
theorem lot_step {fs : Nat → Str → Bool} : ∀ {qs : List PyData}, (∀ (i : Nat) (q : PyData), qs[i]? = some q → Qn L C p n q (fs i)) → stepD L (.tuple qs) = false
  | [], _ => rfl
  | q :: qs, h => by
    obtain ⟨nm, r, rs, e, _⟩ := qn_shape (h 0 q rfl)
    rw [e]
    exact tup_step
theorem qn_qs (h : Qn L C p n d f) : QS L d := by
  have one : ∀ {y : PyData}, stepD L y = false → ∀ z ∈ [y], stepD L z = false := fun h z hz => by
    rw [List.mem_singleton.mp hz]
    exact h
  cases h with
  | rel _ _ => exact ⟨_, _, [], rfl, one rfl⟩
  | is _ => exact ⟨_, _, [], rfl, one rfl⟩
  | has _ => exact ⟨_, _, [], rfl, one rfl⟩
  | of _ => exact ⟨_, _, [], rfl, one rfl⟩
  | seen _ _ h =>
    refine ⟨_, _, [_], rfl, fun z hz => ?_⟩
    rcases List.mem_cons.mp hz with rfl | hz
    · exact line_step
    · rw [List.mem_singleton.mp hz]
      exact qn_step h
  | no h => exact ⟨_, _, [], rfl, one (qn_step h)⟩
  | lot _ _ h =>
    exact ⟨_, _, [], rfl, one (lot_step h)⟩
theorem src_int (i : Int) : Src L (.int i) := .leaf (int_no i)
theorem src_str (z : Str) : Src L (.str z) := .leaf (str_no z)
theorem src_map {α : Type} {g : α → PyData} (h : ∀ x, Src L (g x)) (n : ∀ x z, g x ≠ .str z) (xs : List α) : Src L (.tuple (xs.map g)) := by
  refine .tup (fun y hy => ?_) (fun q => ?_)
  · obtain ⟨x, _, rfl⟩ := List.mem_map.mp hy
    exact h x
  · obtain ⟨x, _, e⟩ := List.mem_map.mp q
    exact n x _ e
theorem src_two {nm : Str} {y : PyData} (h : Src L y) (n1 : nm ≠ "seen") (n2 : y ≠ .str "seen") : Src L (.tuple [.str nm, y]) := by
  refine .tup (fun z hz => ?_) (fun q => ?_)
  · rcases List.mem_cons.mp hz with rfl | hz
    · exact src_str nm
    · rw [List.mem_singleton.mp hz]
      exact h
  · rcases List.mem_cons.mp q with q | q
    · exact n1 (PyData.str.inj q).symm
    · exact n2 (List.mem_singleton.mp q).symm
theorem src_three {x y z : PyData} (hx : Src L x) (hy : Src L y) (hz : Src L z) (n : x ≠ .str "seen" ∧ y ≠ .str "seen" ∧ z ≠ .str "seen") : Src L (.tuple [x, y, z]) := by
  refine .tup (fun u hu => ?_) (fun q => ?_)
  · rcases List.mem_cons.mp hu with rfl | hu
    · exact hx
    · rcases List.mem_cons.mp hu with rfl | hu
      · exact hy
      · rw [List.mem_singleton.mp hu]
        exact hz
  · rcases List.mem_cons.mp q with q | q
    · exact n.1 q.symm
    · rcases List.mem_cons.mp q with q | q
      · exact n.2.1 q.symm
      · exact n.2.2 (List.mem_singleton.mp q).symm
theorem src_mach {k : Nat} {rs : Rows} {es : List Bool} : Src L (machDt k rs es) := by
  refine src_three (src_int _) (src_map (fun row => src_map (fun o => ?_) (fun o z e => ?_) row) (fun _ _ e => by cases e) rs) (src_map (fun b => .leaf fun _ e => by cases e) (fun _ _ e => by cases e) es) ⟨(fun e => by cases e), (fun e => by cases e), (fun e => by cases e)⟩
  · cases o with
    | none => exact .leaf fun _ e => by cases e
    | some k => exact src_int _
  · cases o <;> cases e
theorem len_ne {x : Str} {c : Nat} (h : x.length ≠ 1) : chr1 c ≠ x := fun e => h (by rw [← e]; rfl)
theorem src_stp (s : Stp) (h : s.plain) : Src L s.dat ∧ StepS s.dat := by
  cases s with
  | cut u m =>
    refine ⟨src_three (src_str _) (src_map (fun i => src_int i) (fun _ _ e => by cases e) u) (src_int m) ⟨(fun e => absurd (PyData.str.inj e) (by decide +kernel)), (fun e => by cases e), (fun e => by cases e)⟩, .inl ⟨_, _, rfl, fun x hx => ?_⟩⟩
    obtain ⟨i, _, rfl⟩ := List.mem_map.mp hx
    exact ⟨i, rfl⟩
  | stop c =>
    exact ⟨src_two (src_str _) (by decide +kernel) fun e => len_ne (by decide) (PyData.str.inj e), .inr ⟨_, rfl, len_ne (by decide), len_ne (by decide)⟩⟩
  | pass _ _ => exact h.elim
  | swap _ => exact h.elim
theorem seen_abc (L1 : 1 ≤ L) (L3 : L ≤ 3) {m : Nat} {x : Str} (h : WOk L m (TL.tl x)) : x ≠ "seen" := fun e => by
  subst e
  have h1 := (ltr_mem L1 L3 115 (h.2 115 (by decide +kernel))).2
  have : ((115 - 97 : Nat) : Int) = 18 := rfl
  omega
theorem qn_src (L1 : 1 ≤ L) (L3 : L ≤ 3) (h : Qn L C false n d f) : Src L d := by
  have nt : ∀ {x : Str} {m : Nat}, WOk L m (TL.tl x) → PyData.str x ≠ .str "seen" := fun h e => seen_abc L1 L3 h (PyData.str.inj e)
  induction h with
  | rel h hw => exact src_two (src_str _) (vnm_not h).1 (nt hw)
  | is hw => exact src_two (src_str _) (by decide +kernel) (nt hw)
  | has hw => exact src_two (src_str _) (by decide +kernel) (nt hw)
  | of _ => exact src_two src_mach (by decide +kernel) fun e => by cases e
  | seen hs hp h ih =>
    rename_i ss q f
    refine .seen (.tup (fun y hy => ?_) (fun q => ?_)) ih ⟨_, rfl, fun s hs => ?_⟩ (qn_qs h)
    · obtain ⟨s, hm, rfl⟩ := List.mem_map.mp hy
      exact (src_stp s (hp rfl s hm)).1
    · obtain ⟨s, _, e⟩ := List.mem_map.mp q
      obtain ⟨x, e2⟩ := dat_tup s
      rw [e2] at e
      cases e
    · obtain ⟨s, hm, rfl⟩ := List.mem_map.mp hs
      exact (src_stp (L := L) s (hp rfl s hm)).2
  | no h ih =>
    obtain ⟨_, _, _, e, _⟩ := qn_shape h
    exact src_two ih (by decide +kernel) fun q => by rw [e] at q; cases q
  | lot hn hl h ih =>
    rename_i n nm b qs fs
    refine src_two (.tup (fun y hy => ?_) (fun q => ?_)) (lot_not hn).1 fun e => by cases e
    · obtain ⟨i, hi⟩ := List.mem_iff_getElem?.mp hy
      exact ih i y hi
    · obtain ⟨i, hi⟩ := List.mem_iff_getElem?.mp q
      obtain ⟨_, _, _, e, _⟩ := qn_shape (h i _ hi)
      cases e
end
/-- both looks tell the same of this value -/
def Eq2 (L : Int) (d : PyData) : Prop := isQ L (fullLine L) 4 d = isQ L (lawLine L) 4 d
theorem eq2_none {L : Int} : Eq2 L .none := rfl
theorem eq2_int {L : Int} (i : Int) : Eq2 L (.int i) := rfl
theorem eq2_str {L : Int} (z : Str) : Eq2 L (.str z) := rfl
theorem eq2_list {L : Int} (z : List PyData) : Eq2 L (.list z) := rfl
theorem eq2_dict {L : Int} : Eq2 L (.dict []) := rfl
theorem eq2_nil {L : Int} : Eq2 L (.tuple []) := rfl
theorem eq2_one {L : Int} (x : PyData) : Eq2 L (.tuple [x]) := rfl
theorem eq2_below {L : Int} (y : PyData) : Eq2 L (.tuple [.str "below", y]) := by
  have : ∀ F, isQ L F 4 (.tuple [.str "below", y]) = wordD L 20 y := fun F => by
    show (if strIs (.str "below") "seen" = true then false else heldQ L (isQ L F 3) (.str "below") y) = _
    rw [if_neg (by decide +kernel)]
    unfold heldQ
    rw [if_pos (by decide +kernel)]
  exact (this _).trans (this _).symm
theorem eq2_has {L : Int} (y : PyData) : Eq2 L (.tuple [.str "has", y]) := by
  have : ∀ F, isQ L F 4 (.tuple [.str "has", y]) = (wordD L 4 y && !(strIs y "")) := fun F => by
    show (if strIs (.str "has") "seen" = true then false else heldQ L (isQ L F 3) (.str "has") y) = _
    rw [if_neg (by decide +kernel)]
    unfold heldQ
    rw [if_neg (by decide +kernel), if_pos (by decide +kernel)]
  exact (this _).trans (this _).symm
theorem eq2_zero {L : Int} (x y : PyData) (r : List PyData) (hr : r.length ≤ 1) : Eq2 L (.tuple (x :: y :: r ++ [.int 0])) := by
  match r, hr with
  | [], _ =>
    have : ∀ F, isQ L F 4 (.tuple [x, y, .int 0]) = false := fun F => by
      show (if strIs x "seen" = true then F y && isQ L F 3 (.int 0) else false) = false
      rw [show isQ L F 3 (.int 0) = false from rfl, Bool.and_false]
      split <;> rfl
    exact (this _).trans (this _).symm
  | [_], _ => rfl
  | _ :: _ :: _, h => exact absurd h (by simp)
theorem eq2_near {L : Int} (L1 : 1 ≤ L) {s d : PyData} (hs : Src L s) (h : Near 3 s d) : Eq2 L d := isq_eq L1 4 d ⟨s, hs, h⟩
/-! ### what stands while the law goes on -/
structure Stb (K : PySem.W.Frag) (B : Addr → Prop) (a c : Addr) (cells : List Int) (n : Int) (L : Int) (v : V) (d : PyData) (vals : List V) (H : Hp) : Prop where
  tb : TB B H
  hB : ∀ b, Bd a c b → B b
  dk : DeckAt a c cells n H
  ln : Dt B K H v d
  vs : ∀ u ∈ vals, ∃ e, Dt B K H u e ∧ nodes e ≤ 100000 ∧ Eq2 L e
section
variable {K : PySem.W.Frag} {B : Addr → Prop} {a c p : Addr} {cells : List Int} {n L : Int} {v : V} {d : PyData} {vals : List V} {H H' : Hp} {o : HO}
theorem Stb.keepB {cells' : List Int} {n' : Int} (b : Stb K B a c cells n L v d vals H) (k : Keep B H H') (tb : TB B H') (dk : DeckAt a c cells' n' H') : Stb K B a c cells' n' L v d vals H' :=
  ⟨tb, b.hB, dk, Dt.keep k _ _ b.ln, fun u hu => by
    obtain ⟨e, h1, h2⟩ := b.vs u hu
    exact ⟨e, Dt.keep k _ _ h1, h2⟩⟩
theorem Stb.same (b : Stb K B a c cells n L v d vals H) (s : Same H H') : Stb K B a c cells n L v d vals H' := b.keepB (Keep.same s) (tb_same s b.tb) (deck_same s b.dk)
theorem Stb.drawn {cells' : List Int} {n' : Int} (b : Stb K B a c cells n L v d vals H) (dk : DeckAt a c cells' n' H') (k : Keep (Bd a c) H H') : Stb K B a c cells' n' L v d vals H' := b.keepB (k.wide b.hB) (tb_keep b.tb dk k) dk
theorem Stb.add {u : V} {e : PyData} (b : Stb K B a c cells n L v d vals H) (h : Dt B K H u e) (h1 : nodes e ≤ 100000) (h2 : Eq2 L e) : Stb K B a c cells n L v d (vals ++ [u]) H :=
  ⟨b.tb, b.hB, b.dk, b.ln, fun x hx => by
    rcases List.mem_append.mp hx with hx | hx
    · exact b.vs x hx
    · rw [List.mem_singleton.mp hx]
      exact ⟨e, h, h1, h2⟩⟩
theorem Stb.off (o : HO) (b : Stb K B a c cells n L v d vals H) (h : H p = none) : Stb K (fun b => B b ∨ b = p) a c cells n L v d vals (upd H p o) := by
  have tb0 : TB (fun b => B b ∨ b = p) (upd H p o) := fun x z e => by
    rcases z with z | z
    · exact tb_upd b.tb x z e
    · rw [z, upd_same] at e
      cases e
  have s := same_new (o := o) h
  refine ⟨tb0, fun x z => .inl (b.hB x z), deck_same s b.dk, same_dt s (Dt.off h _ _ b.ln), fun u hu => ?_⟩
  obtain ⟨e, h1, h2⟩ := b.vs u hu
  exact ⟨e, same_dt s (Dt.off h _ _ h1), h2⟩
theorem Stb.store (o : HO) (b : Stb K B a c cells n L v d vals H) (hp : B p) (np : ¬ Bd a c p) : Stb K B a c cells n L v d vals (upd H p o) := b.keepB (keep_store hp) (tb_upd b.tb) (deck_upd b.dk np)
end
def bn (j : Nat) : Nat := if j % 3 = 0 then 53704 else if j % 3 = 1 then 13426 else 26852
theorem bn_le (j : Nat) : bn j ≤ 53704 := by
  unfold bn
  split
  · omega
  · split <;> omega
theorem bn_in {j : Nat} (h : j % 3 ≠ 0) : bn j ≤ 26852 := by
  unfold bn
  rw [if_neg h]
  split <;> omega
theorem bn_step {j : Nat} (h : j % 3 ≠ 0) : bn (j + 1) = 2 * bn j := by
  have e : j % 3 = 1 ∨ j % 3 = 2 := by omega
  unfold bn
  rcases e with e | e
  · rw [e, show (j + 1) % 3 = 2 by omega]
    rfl
  · rw [e, show (j + 1) % 3 = 0 by omega]
    rfl
theorem bn_one {j : Nat} (h : j % 3 = 0) : bn (j + 1) = 13426 := by
  unfold bn
  rw [show (j + 1) % 3 = 1 by omega]
  rfl
theorem str_ne_false (x : Str) : ¬ (!decide (V.str x = V.str x)) = true := by
  rw [decide_eq_true rfl]
  exact Bool.false_ne_true
theorem bool_shown (b : Bool) : (PyData.bool b).showable = true ∧ (PyData.bool b).depth ≤ 60 ∧ (PyData.bool b).shown.length ≤ sizeLine := by
  cases b <;> decide +kernel
theorem nb_le5 : ∀ {k : Nat}, k ≤ 5 → nb k ≤ 6708 := by
  intro k h
  have : k = 0 ∨ k = 1 ∨ k = 2 ∨ k = 3 ∨ k = 4 ∨ k = 5 := by omega
  rcases this with rfl | rfl | rfl | rfl | rfl | rfl <;> decide
theorem qd_le5 : ∀ {k : Nat}, k ≤ 5 → qd k ≤ 24805 := by
  intro k h
  have : k = 0 ∨ k = 1 ∨ k = 2 ∨ k = 3 ∨ k = 4 ∨ k = 5 := by omega
  rcases this with rfl | rfl | rfl | rfl | rfl | rfl <;> decide
theorem cut1 (x : V) (xs : List V) : cutV (x :: xs) none (some 1) = [x] := cut_take (x :: xs) 1 (by rw [List.length_cons]; omega)
def spQD (K : PySem.W.Frag) : Sp := fun vs H Q E => ∃ (p : Bool) (k : Nat), k ≤ 5 ∧ spQueryD K p k vs H Q E
theorem ok_QD {P : Program} {w : World} {K : PySem.W.Frag} {mg : Str → Option Value} {base : Heap} {f : Addr} {fd : FuncData} {ps : List Str} (h : ∀ (p : Bool) (n : Nat), FnOk P w K mg base CX0 (5 + n) f fd ps (spQueryD K p n)) : FnOk P w K mg base CX0 10 f fd ps (spQD K) :=
  ⟨fun vs H Q E q => by
    obtain ⟨p, k, _, q⟩ := q
    exact (h p k).len vs H Q E q, fun A outer s H args us vs Q E hr he hb hv q => by
    obtain ⟨p, k, hk, q⟩ := q
    exact ((h p k).mono (show 5 + k ≤ 10 by omega)).run A outer s H args us vs Q E hr he hb hv q⟩
section
variable {P : Program} {w : World} {K : PySem.W.Frag} {mg : Str → Option Value} {base : Heap}
theorem scLaw : FnScope ["_law_script", "_law_deck_here", "_law_turn", "_law_letters", "_law_query_here", "_law_values", "_law_value", "_law_k", "_law_comp_here", "_law_word_here"] ["_law_script"] (defScope sLaw) := ⟨rfl, rfl, rfl, by decide +kernel, rfl, by decide +kernel, by decide +kernel⟩
def spLaw (K : PySem.W.Frag) : Sp := fun vs H Q _ => ∃ (l : Addr) (ns : List Int), vs = [.ref l] ∧ SqL K H l (ns.map V.int) ∧ ns.length ≤ 63 ∧ ∀ H', Q (.bl true) H'
theorem ok_law {f fJ fD fO fY fZ fQE fIQ fCO fWO fAN fAL : Addr} {fd fdJ fdD fdO fdY fdZ fdQE fdIQ fdCO fdWO fdAN fdAL : FuncData} (F : Fun K "law" "law" sLaw f fd)
    (J : FnOk P w K mg base CX0 1 fJ fdJ ["_law_script"] (spDeck K)) (FJ : Fun K "_law_deck" "_law_deck" sDeck fJ fdJ) (bJ : Binds K fdJ ["_law_script"] []) (gJ : mg "_law_deck" = some (.ref fJ))
    (D : FnOk P w K mg base CX0 1 fD fdD ["_law_deck_here", "_law_most"] spDraw) (FD : Fun K "_law_draw" "_law_draw" sDraw fD fdD) (bD : Binds K fdD ["_law_deck_here", "_law_most"] []) (gD : mg "_law_draw" = some (.ref fD))
    (O : FnOk P w K mg base CX0 2 fO fdO ["_law_deck_here", "_law_items"] (spOne K)) (FO : Fun K "_law_one" "_law_one" sOne fO fdO) (bO : Binds K fdO ["_law_deck_here", "_law_items"] []) (gO : mg "_law_one" = some (.ref fO))
    (Y : FnOk P w K mg base CX0 10 fY fdY ["_law_deck_here", "_law_letters", "_law_depth", "_law_has_passes"] (spQD K)) (FY : Fun K "_law_query" "_law_query" sQueryL fY fdY) (bY : Binds K fdY ["_law_deck_here", "_law_letters", "_law_depth", "_law_has_passes"] []) (gY : mg "_law_query" = some (.ref fY))
    (Z : FnOk P w K mg base CX0 9 fZ fdZ ["_law_deck_here", "_law_value", "_law_deep"] (spOther K 6)) (FZ : Fun K "_law_otherwise" "_law_otherwise" sOther fZ fdZ) (bZ : Binds K fdZ ["_law_deck_here", "_law_value", "_law_deep"] []) (gZ : mg "_law_otherwise" = some (.ref fZ))
    (QE : FnOk P w K mg base CX0 11 fQE fdQE ["letters", "value"] (spQErr K)) (FQE : Fun K "query_error" "query_error" sQErr fQE fdQE) (bQE : Binds K fdQE ["letters", "value"] []) (gQE : mg "query_error" = some (.ref fQE))
    (IQ : FnOk P w K mg base CX0 7 fIQ fdIQ ["_law_letters", "_law_value", "_law_depth"] (spQueryL K 4)) (FIQ : Fun K "_law_is_query" "_law_is_query" sIsQueryL fIQ fdIQ) (bIQ : Binds K fdIQ ["_law_letters", "_law_value", "_law_depth"] []) (gIQ : mg "_law_is_query" = some (.ref fIQ))
    (CO : FnOk P w K mg base CX0 3 fCO fdCO ["_law_deck_here", "_law_letters", "_law_many"] spComp) (FCO : Fun K "_law_comp" "_law_comp" sComp fCO fdCO) (bCO : Binds K fdCO ["_law_deck_here", "_law_letters", "_law_many"] []) (gCO : mg "_law_comp" = some (.ref fCO))
    (WO : FnOk P w K mg base CX0 3 fWO fdWO ["_law_deck_here", "_law_letters", "_law_most"] spWordL) (FWO : Fun K "_law_word" "_law_word" sWordL fWO fdWO) (bWO : Binds K fdWO ["_law_deck_here", "_law_letters", "_law_most"] []) (gWO : mg "_law_word" = some (.ref fWO))
    (AN : FnOk P w K mg base CX0 7 fAN fdAN ["comp", "query", "word"] (spAns K 4)) (FAN : Fun K "answers" "answers" sAnswers fAN fdAN) (bAN : Binds K fdAN ["comp", "query", "word"] []) (gAN : mg "answers" = some (.ref fAN))
    (AL : FnOk P w K mg base CX0 7 fAL fdAL ["_law_comp_here", "_law_query_here", "_law_word_here"] (spAns K 4)) (FAL : Fun K "_law_answers" "_law_answers" sAnswersL fAL fdAL) (bAL : Binds K fdAL ["_law_comp_here", "_law_query_here", "_law_word_here"] []) (gAL : mg "_law_answers" = some (.ref fAL)) (T : Mg mg) :
    GRun P w K mg base 12 f fd ["_law_script"] (spLaw K) := by
  refine grun F scLaw (fun cdv A outer s H vs Q hG0 hr h => ?_)
  obtain ⟨l, ns, rfl, hS, hlen, k⟩ := h
  have hG : (A.deeper (envOfC "law" (defScope sLaw) s.heap.objs.size f cdv)).guards = some [] := hG0
  have hu := hr.units
  refine ⟨_, (pss_cons (ps_set (i := 1) scLaw.nd rfl (.inl rfl) (pe_call J (hr.mono (by decide)) (by rfl) gJ FJ.kp bJ .nil pass0 (pa_cons (pv 0) pa_nil)))
      (pss_cons (ps_for PassesOwn.never rfl (pi_range1 (by rfl) T.range (pa_cons pe_int pa_nil)) (pg_name (i := 2) scLaw.nd rfl (.inl rfl)) (pss_cons (ps_set (i := 3) scLaw.nd rfl (.inl rfl) (pe_op op_add pe_int (pe_call D (hr.mono (by decide)) (by rfl) gD FD.kp bD .nil pass0 (pa_cons (pv 1) (pa_cons pe_int pa_nil)))))
      (pss_cons (ps_set (i := 4) scLaw.nd rfl (.inl rfl) (pe_call Y (hr.mono (by decide)) (by rfl) gY FY.kp bY .nil pass0 (pa_cons (pv 1) (pa_cons (pv 3) (pa_cons (pe_op op_add pe_int (pe_call D (hr.mono (by decide)) (by rfl) gD FD.kp bD .nil pass0 (pa_cons (pv 1) (pa_cons pe_int pa_nil)))) (pa_cons pe_bl pa_nil))))))
      (pss_cons (ps_par (i := 5) (j := 6) rfl scLaw.nd rfl rfl (by decide) rfl rfl (pa_cons (pe_lst (pa_cons (pv 4) (pa_cons (pe_callTy (r := rListN K) call_listN (by rfl) T.list (by decide +kernel) (pa_cons (pv 4) pa_nil)) (pa_cons (pe_slice (r := rSlS K) sl_tupS (pv 4) po_none (po_some pe_int)) (pa_cons (pe_op op_catS (pv 4) (pe_tup (pa_cons pe_int pa_nil))) (pa_cons pe_non (pa_cons pe_str (pa_cons pe_int (pa_cons (pe_tup pa_nil) (pa_cons pe_dnewK (pa_cons (pe_tup (pa_cons pe_str (pa_cons (pe_op op_strRep pe_str pe_int) pa_nil))) (pa_cons (pe_tup (pa_cons pe_str (pa_cons pe_str pa_nil))) pa_nil)))))))))))) (pa_cons (pv 4) pa_nil)) (by rfl))
      (pss_cons (ps_for PassesOwn.never rfl (pi_range1 (by rfl) T.range (pa_cons pe_int pa_nil)) (pg_name (i := 7) scLaw.nd rfl (.inl rfl)) (pss_cons (ps_set (i := 6) scLaw.nd rfl (.inl rfl) (pe_call Z (hr.mono (by decide)) (by rfl) gZ FZ.kp bZ .nil pass0 (pa_cons (pv 1) (pa_cons (pe_ifExp (pt_cmpR op_gt (pe_op op_mod (pv 7) pe_int) pe_int (nomark _)) (pv 6) (pv 4)) (pa_cons pe_int pa_nil)))))
      (pss_one (ps_expr (pe_bm PySem.F.plainAttrs_list PySem.F.slot_list_append PySem.F.type_list_append mt_append (pv 5) (pa_cons (pv 6) pa_nil))))))
      (pss_cons (ps_for PassesOwn.never rfl (pi_list (pv 5)) (pg_name (i := 6) scLaw.nd rfl (.inl rfl)) (pss_one (ps_if (pt_cmpR op_ne (pe_callB (call_reprD hG hu) (by rfl) T.repr (by decide +kernel) (pa_cons (pe_call QE (hr.mono (by decide)) (by rfl) gQE FQE.kp bQE .nil pass0 (pa_cons (pv 3) (pa_cons (pv 6) pa_nil))) pa_nil)) (pe_callB (call_reprD hG hu) (by rfl) T.repr (by decide +kernel) (pa_cons (pe_ifExp (pt_val (pe_call IQ (hr.mono (by decide)) (by rfl) gIQ FIQ.kp bIQ .nil pass0 (pa_cons (pv 3) (pa_cons (pv 6) (pa_cons pe_int pa_nil))))) pe_non pe_str) pa_nil)) (nomark _)) (pss_one (ps_ret pe_bl)) pss_nil)))
      (pss_cons (ps_par (i := 4) (j := 8) rfl scLaw.nd rfl rfl (by decide) rfl rfl (pa_cons (pe_call Y (hr.mono (by decide)) (by rfl) gY FY.kp bY .nil pass0 (pa_cons (pv 1) (pa_cons (pv 3) (pa_cons pe_int (pa_cons pe_bl pa_nil))))) (pa_cons (pe_call CO (hr.mono (by decide)) (by rfl) gCO FCO.kp bCO .nil pass0 (pa_cons (pv 1) (pa_cons (pv 3) (pa_cons (pe_op op_add pe_int (pe_call D (hr.mono (by decide)) (by rfl) gD FD.kp bD .nil pass0 (pa_cons (pv 1) (pa_cons pe_int pa_nil)))) pa_nil)))) pa_nil)) (by rfl))
      (pss_one (ps_for PassesOwn.never rfl (pi_range1 (by rfl) T.range (pa_cons pe_int pa_nil)) (pg_name (i := 7) scLaw.nd rfl (.inl rfl)) (pss_cons (ps_set (i := 9) scLaw.nd rfl (.inl rfl) (pe_call O (hr.mono (by decide)) (by rfl) gO FO.kp bO .nil pass0 (pa_cons (pv 1) (pa_cons (pe_lstA (pa_cons (pe_call WO (hr.mono (by decide)) (by rfl) gWO FWO.kp bWO .nil pass0 (pa_cons (pv 1) (pa_cons (pv 3) (pa_cons pe_int pa_nil)))) (pa_cons (pe_call WO (hr.mono (by decide)) (by rfl) gWO FWO.kp bWO .nil pass0 (pa_cons (pv 1) (pa_cons (pv 3) (pa_cons pe_int pa_nil)))) pa_nil))) pa_nil))))
      (pss_one (ps_if (pt_cmpR op_ne (pe_callB (call_reprD hG hu) (by rfl) T.repr (by decide +kernel) (pa_cons (pe_call AN (hr.mono (by decide)) (by rfl) gAN FAN.kp bAN .nil pass0 (pa_cons (pv 8) (pa_cons (pv 4) (pa_cons (pv 9) pa_nil)))) pa_nil)) (pe_callB (call_reprD hG hu) (by rfl) T.repr (by decide +kernel) (pa_cons (pe_call AL (hr.mono (by decide)) (by rfl) gAL FAL.kp bAL .nil pass0 (pa_cons (pv 8) (pa_cons (pv 4) (pa_cons (pv 9) pa_nil)))) pa_nil)) (nomark _)) (pss_one (ps_ret pe_bl)) pss_nil))))))))))))
      (pss_one (ps_ret pe_bl)))), ?_⟩
  refine ⟨_, rfl, l, ns, rfl, hS, hlen, fun H1 a c cells0 s1 na nc dk0 => ?_⟩
  refine ⟨14, rfl, by decide, by decide, for_range (lo := 0) (n := 14) (fun i σ H' => (∃ y2 y3 y4 y5 y6 y7 y8 y9, σ = [some (V.ref l), some (V.ref a), y2, y3, y4, y5, y6, y7, y8, y9]) ∧ ∃ cells n, DeckAt a c cells n H' ∧ 0 ≤ n ∧ n ≤ 40000 * (i : Int)) ⟨⟨none, none, none, none, none, none, none, none, rfl⟩, cells0, 0, dk0, Int.le_refl _, by omega⟩ ?_ (fun σ H' _ => k H')⟩
  rintro i σ H2 hi ⟨⟨y2, y3, y4, y5, y6, y7, y8, y9, rfl⟩, cells, n, dk, n0, n1⟩
  refine ⟨_, rfl, a, c, cells, n, 3, rfl, dk, by decide, by decide, n0, by omega, fun H3 cells3 r r0 r3 dk3 k3 => ?_⟩
  refine ⟨1, r, rfl, rfl, ?_⟩
  obtain ⟨L, hL, L1, L3⟩ : ∃ L : Int, 1 + r = L ∧ 1 ≤ L ∧ L ≤ 3 := ⟨_, rfl, by omega, by omega⟩
  show gName 3 (V.int (1 + r)) _ _ _
  rw [hL]
  refine ⟨_, rfl, _, rfl, _, rfl, a, c, cells3, n + 1, 5, rfl, dk3, by decide, by decide, by omega, by omega, fun H4 cells4 r4 r40 r45 dk4 k4 => ?_⟩
  refine ⟨1, r4, rfl, rfl, ?_⟩
  obtain ⟨dp, hdp, dp1, dp5⟩ : ∃ m : Nat, 1 + r4 = (m : Int) ∧ 1 ≤ m ∧ m ≤ 5 := ⟨(1 + r4).toNat, by omega, by omega, by omega⟩
  have q5 := qd_le5 dp5
  refine ⟨false, dp, dp5, Bd a c, a, c, cells4, n + 1 + 1, L, congrArg (fun q : Int => [V.ref a, V.int L, V.int q, V.bl false]) hdp, fun b z => z, fun b z e => deck_off dk4 e z, dk4, by omega, by omega, L1, L3, dp1, fun H6 cells6 n6 v d dk6 n6a n6b k6 hdv hqn ndv => ?_⟩
  have ndv := Nat.le_trans ndv (nb_le5 dp5)
  obtain ⟨f0, hq0⟩ := hqn (fun _ _ => 0)
  have hsrc : Src L d := qn_src L1 L3 hq0
  obtain ⟨nm, r1, rs1, ed, lrs⟩ := qn_shape hq0
  subst ed
  have eq0 : Eq2 L (.tuple (.str nm :: r1 :: rs1)) := eq2_near L1 hsrc .same
  have st0 : Stb K (Bd a c) a c cells6 n6 L v (.tuple (.str nm :: r1 :: rs1)) [] H6 := ⟨fun b z e => deck_off dk6 e z, fun b z => z, dk6, hdv, fun u hu => absurd hu List.not_mem_nil⟩
  obtain ⟨q, xs, rfl, nq, hq, hds, lxs⟩ := hdv.tup_rd
  have lds : xs.length ≤ 3 := by
    rw [lxs, List.length_cons, List.length_cons]
    omega
  have nds : nodesAll (.str nm :: r1 :: rs1) ≤ 6707 := by
    rw [nodes_tup] at ndv
    omega
  -- the values
  have st1 := st0.add hdv (by omega) eq0
  refine ⟨_, rfl, _, rfl, q, xs, rfl, .inl hq, fun l1 hl1 nl1 => ?_⟩
  have e1 := same_new (o := .lst xs) hl1
  have st2 := (st1.same e1).add (u := .ref l1) (e := .list (.str nm :: r1 :: rs1)) (.lst (tb_off st1.tb hl1) nl1 (.inl upd_same) (same_all e1 hds)) (by rw [nodes_lst]; omega) (eq2_list _)
  have hq2 := same_rd e1 hq
  have hds2 := same_all e1 hds
  generalize upd H6 l1 (.lst xs) = G6 at *
  obtain ⟨v0, xs1, exs, hv0, _⟩ := dt_cons hds2
  refine ⟨_, rfl, 1, rfl, q, xs, rfl, hq2, fun q3 H8 s8 hc3 w3 => ?_⟩
  rw [exs, cut1] at hc3
  have st3 := (st2.same s8).add (u := .ref q3) (e := .tuple [.str nm]) (.tup (nb_of st2.tb nq w3) hc3 (.cons (same_dt s8 hv0) .nil)) (by rw [nodes_tup]; rw [nodesAll_cons] at nds; rw [nodesAll_cons, nodesAll_nil]; omega) (eq2_one _)
  have hq3 := same_rd s8 hq2
  have hds3 := same_all s8 hds2
  refine ⟨_, rfl, by show 1 ≤ sizeLine; decide, fun u1 hu1 => ?_⟩
  have e1' := same_new (o := .tup [.int 0]) hu1
  have st4 := st3.same e1'
  refine ⟨q, u1, _, _, rfl, rfl, same_rd e1' hq3, .inl upd_same, sz_of (by rw [List.length_singleton]; omega), fun q4 H9 s9 hc4 w4 => ?_⟩
  have st5 := (st4.same s9).add (u := .ref q4) (e := .tuple ((.str nm :: r1 :: rs1) ++ [.int 0])) (.tup (nb_of2 st4.tb nq (tb_off st3.tb hu1) w4) hc4 ((same_all s9 (same_all e1' hds3)).append (.cons (.int 0) .nil))) (by rw [nodes_tup, nodesAll_append, nodesAll_cons (.int 0), nodesAll_nil, show nodes (.int 0) = 1 from rfl]; omega) (eq2_zero _ _ _ lrs)
  have st6 := st5.add (u := .non) (e := .none) .non (by decide +kernel) eq2_none
  have st7 := st6.add (u := .str "below") (e := .str "below") (.str "below") (by decide +kernel) (eq2_str _)
  have st7 := st7.add (u := .int 3) (e := .int 3) (.int 3) (by decide +kernel) (eq2_int _)
  refine ⟨Nat.zero_le _, fun u5 hu5 => ?_⟩
  have e5 := same_new (o := .tup []) hu5
  have st8 := (st7.same e5).add (u := .ref u5) (e := .tuple []) (.tup (tb_off st7.tb hu5) (.inl upd_same) .nil) (by decide +kernel) eq2_nil
  generalize upd H9 u5 (.tup []) = G9 at *
  intro d6 hd6
  have e6 := same_new (o := .dK []) hd6
  have st9 := (st8.same e6).add (u := .ref d6) (e := .dict []) (.emp (tb_off st8.tb hd6) upd_same) (by decide +kernel) eq2_dict
  generalize upd G9 d6 (.dK []) = G10 at *
  refine ⟨"a", 21, rfl, rfl, by unfold MulOk; decide +kernel, by show 2 ≤ sizeLine; decide, fun u7 hu7 => ?_⟩
  have e7 := same_new (o := .tup [.str "below", .str (Txt.mul "a" 21)]) hu7
  have st11 := (st9.same e7).add (u := .ref u7) (e := .tuple [.str "below", .str (Txt.mul "a" 21)]) (.tup (tb_off st9.tb hu7) (.inl upd_same) (.cons (.str _) (.cons (.str _) .nil))) (by decide +kernel) (eq2_below _)
  generalize upd G10 u7 (.tup [.str "below", .str (Txt.mul "a" 21)]) = G11 at *
  refine ⟨by show 2 ≤ sizeLine; decide, fun u8 hu8 => ?_⟩
  have e8 := same_new (o := .tup [.str "has", .str ""]) hu8
  have st12 := (st11.same e8).add (u := .ref u8) (e := .tuple [.str "has", .str ""]) (.tup (tb_off st11.tb hu8) (.inl upd_same) (.cons (.str _) (.cons (.str _) .nil))) (by decide +kernel) (eq2_has _)
  generalize upd G11 u8 (.tup [.str "has", .str ""]) = G15 at *
  refine ⟨by show 11 ≤ sizeLine; decide, fun Lf hLf => ?_⟩
  refine ⟨_, rfl, _, _, rfl, ?_⟩
  have stA := st12.off (.lst [V.ref q, .ref l1, .ref q3, .ref q4, .non, .str "below", .int 3, .ref u5, .ref d6, .ref u7, .ref u8]) hLf
  have nLf := deck_off st12.dk hLf
  have hL0 : (upd G15 Lf (.lst [V.ref q, .ref l1, .ref q3, .ref q4, .non, .str "below", .int 3, .ref u5, .ref d6, .ref u7, .ref u8])) Lf = some (.lst [V.ref q, .ref l1, .ref q3, .ref q4, .non, .str "below", .int 3, .ref u5, .ref d6, .ref u7, .ref u8]) := upd_same
  have stB : Stb K (fun b => Bd a c b ∨ b = Lf) a c cells6 n6 L (.ref q) (.tuple (.str nm :: r1 :: rs1)) [V.ref q, .ref l1, .ref q3, .ref q4, .non, .str "below", .int 3, .ref u5, .ref d6, .ref u7, .ref u8] (upd G15 Lf (.lst [V.ref q, .ref l1, .ref q3, .ref q4, .non, .str "below", .int 3, .ref u5, .ref d6, .ref u7, .ref u8])) := ⟨stA.tb, stA.hB, stA.dk, stA.ln, fun u hu => stA.vs u hu⟩
  clear stA
  generalize upd G15 Lf (.lst [V.ref q, .ref l1, .ref q3, .ref q4, .non, .str "below", .int 3, .ref u5, .ref d6, .ref u7, .ref u8]) = G16 at *
  refine ⟨9, rfl, by decide, by decide, for_range (lo := 0) (n := 9) (fun j σ H' => (∃ (vj : V) (dj : PyData) (y7 : Option V), σ = [some (V.ref l), some (V.ref a), some (V.int (0 + i)), some (V.int L), some (V.ref q), some (V.ref Lf), some vj, y7, y8, y9] ∧ Dt (fun b => Bd a c b ∨ b = Lf) K H' vj dj ∧ nodes dj + 5 ≤ bn j ∧ (j % 3 ≠ 0 → Near (j % 3) (.tuple (.str nm :: r1 :: rs1)) dj)) ∧ ∃ cells' n' vals, Stb K (fun b => Bd a c b ∨ b = Lf) a c cells' n' L (.ref q) (.tuple (.str nm :: r1 :: rs1)) vals H' ∧ n6 ≤ n' ∧ n' ≤ n6 + 28 * (j : Int) ∧ H' Lf = some (.lst vals) ∧ vals.length = 11 + j)
    ⟨⟨_, _, _, rfl, stB.ln, by show _ ≤ 53704; omega, fun z => absurd rfl z⟩, cells6, n6, _, stB, Int.le_refl _, by omega, hL0, rfl⟩ ?_ ?_⟩
  · rintro j σ H' hj ⟨⟨vj, dj, y7', rfl, hdj, ndj, hnr⟩, cells', n', vals, st, g1, g2, hL, hlv⟩
    have bl := bn_le (j + 1)
    refine ⟨_, rfl, _, rfl, _, 3, rfl, rfl, (by show (0 : Int) < 3; decide), _, 0, rfl, rfl, _, rfl, ite2 (fun h1 => ⟨_, rfl, ?_⟩) (fun h1 => ⟨_, rfl, ?_⟩)⟩
    · have hz : j % 3 ≠ 0 := by
        have := of_decide_eq_true h1
        omega
      have eb := bn_step hz
      have bi := bn_in hz
      refine ⟨(fun b => Bd a c b ∨ b = Lf), a, c, cells', n', vj, dj, rfl, st.hB, st.tb, st.dk, by omega, by omega, by decide, hdj, by omega, fun H3 cells3 n3 v3 d3 dk3 m1' m2' k3 hd3 hn3 hch => ?_⟩
      have hb : nodes d3 + 5 ≤ bn (j + 1) := by
        rw [eb]
        omega
      have nr3 : Near (j % 3 + 1) (.tuple (.str nm :: r1 :: rs1)) d3 := .step (hnr hz) hch
      have st3 := (st.drawn dk3 k3).add hd3 (by omega) (eq2_near L1 hsrc (nr3.mono 3 (by omega)))
      have hL3 := k3 _ _ nLf hL
      refine ⟨_, rfl, .inl ⟨rfl, _, SqL.of hL3⟩, _, rfl, Lf, vals, v3, rfl, rfl, hL3, small1000 (by omega), ?_⟩
      have st4 := st3.store (.lst (vals ++ [v3])) (.inr rfl) nLf
      exact ⟨⟨v3, d3, _, rfl, Dt.keep (keep_store (.inr rfl)) _ _ hd3, hb, fun z => by rw [show (j + 1) % 3 = j % 3 + 1 by omega]; exact nr3⟩, cells3, n3, _, st4, by omega, by omega, upd_same, by rw [List.length_append, hlv]; rfl⟩
    · have hz : j % 3 = 0 := by
        have : ¬ ((0 : Int) < (0 + (j : Int)) % 3) := fun z => h1 (decide_eq_true z)
        omega
      have eb := bn_one hz
      refine ⟨(fun b => Bd a c b ∨ b = Lf), a, c, cells', n', (.ref q), (.tuple (.str nm :: r1 :: rs1)), rfl, st.hB, st.tb, st.dk, by omega, by omega, by decide, st.ln, by omega, fun H3 cells3 n3 v3 d3 dk3 m1' m2' k3 hd3 hn3 hch => ?_⟩
      have hb : nodes d3 + 5 ≤ bn (j + 1) := by
        rw [eb]
        omega
      have nr3 : Near 1 (.tuple (.str nm :: r1 :: rs1)) d3 := .step .same hch
      have st3 := (st.drawn dk3 k3).add hd3 (by omega) (eq2_near L1 hsrc (nr3.mono 3 (by omega)))
      have hL3 := k3 _ _ nLf hL
      refine ⟨_, rfl, .inl ⟨rfl, _, SqL.of hL3⟩, _, rfl, Lf, vals, v3, rfl, rfl, hL3, small1000 (by omega), ?_⟩
      have st4 := st3.store (.lst (vals ++ [v3])) (.inr rfl) nLf
      exact ⟨⟨v3, d3, _, rfl, Dt.keep (keep_store (.inr rfl)) _ _ hd3, hb, fun z => by rw [show (j + 1) % 3 = 1 by omega]; exact nr3⟩, cells3, n3, _, st4, by omega, by omega, upd_same, by rw [List.length_append, hlv]; rfl⟩
  · rintro σ H' ⟨⟨vj, dj, y7', rfl, hdj, ndj, hnr⟩, cells', n', vals, st, g1, g2, hL, hlv⟩
    refine ⟨_, rfl, Lf, rfl, ⟨_, SqL.of hL⟩, ?_⟩
    refine for_list (K := K) (a := Lf) (xs := vals) (fun j σ H'' => (∃ y6, σ = [some (V.ref l), some (V.ref a), some (V.int (0 + i)), some (V.int L), some (V.ref q), some (V.ref Lf), y6, y7', y8, y9]) ∧ Same H' H'') ⟨⟨_, rfl⟩, Same.refl H'⟩ (fun j σ H'' _ q' => SqL.of (q'.2 _ _ hL)) ?_ ?_
    · rintro j v σ H'' hv ⟨⟨z6, rfl⟩, sf'⟩
      obtain ⟨d, hd0, hn0, he0⟩ := st.vs v (List.mem_of_getElem? hv)
      have hd := same_dt sf' hd0
      refine ⟨_, rfl, _, rfl, _, v, d, L, rfl, hd, hn0, L1, L3, fun H4 s4 => ?_⟩
      cases hb : isQ L (lawLine L) 4 d with
      | true =>
        rw [if_pos (Eq.trans he0 hb)]
        refine ⟨_, .none, Bd a c, rfl, .non, by decide +kernel, by decide +kernel, by decide +kernel, ?_⟩
        refine ⟨_, rfl, _, rfl, _, v, d, L, rfl, same_dt s4 hd, hn0, L1, L3, fun H5 s5 => ?_⟩
        rw [hb]
        refine ⟨_, rfl, ite2 (fun _ => ?_) (fun z => absurd rfl z)⟩
        refine ⟨_, .none, Bd a c, rfl, .non, by decide +kernel, by decide +kernel, by decide +kernel, ?_⟩
        refine ⟨rfl, _, rfl, ite2 (fun h => absurd h (str_ne_false _)) (fun _ => ?_)⟩
        exact ⟨⟨_, rfl⟩, sf'.trans (s4.trans s5)⟩
      | false =>
        have hb' : ¬ (isQ L (fullLine L) 4 d = true) := fun z => by
          rw [Eq.trans he0 hb] at z
          cases z
        rw [if_neg hb']
        refine ⟨_, .str "query", Bd a c, rfl, .str _, by decide +kernel, by decide +kernel, by decide +kernel, ?_⟩
        refine ⟨_, rfl, _, rfl, _, v, d, L, rfl, same_dt s4 hd, hn0, L1, L3, fun H5 s5 => ?_⟩
        rw [hb]
        refine ⟨_, rfl, ite2 (fun z => nomatch z) (fun _ => ?_)⟩
        refine ⟨_, .str "query", Bd a c, rfl, .str _, by decide +kernel, by decide +kernel, by decide +kernel, ?_⟩
        refine ⟨rfl, _, rfl, ite2 (fun h => absurd h (str_ne_false _)) (fun _ => ?_)⟩
        exact ⟨⟨_, rfl⟩, sf'.trans (s4.trans s5)⟩
    · rintro σ H'' ⟨⟨z6, rfl⟩, sf'⟩
      have dkx := deck_same sf' st.dk
      have q4 : qd 4 = 8200 := rfl
      refine ⟨_, rfl, _, rfl, true, 4, by decide, Bd a c, a, c, cells', n', L, rfl, fun b z => z, fun b z e => deck_off dkx e z, dkx, by omega, by omega, L1, L3, by decide, fun J1 cells1 m1 vq dq dk1 p1 p2 k1 hvq hqq _ => ?_⟩
      refine ⟨_, rfl, _, rfl, _, rfl, a, c, cells1, m1, 4, rfl, dk1, by decide, by decide, by omega, by omega, fun J2 cells2 t t0 t4 dk2 k2 => ⟨1, t, rfl, rfl, ?_⟩⟩
      refine ⟨a, c, cells2, m1 + 1, L, 1 + t, rfl, dk2, by omega, by omega, L1, L3, by omega, by omega, fun J3 cells3 m3 vc rws vds dk3 p3 p4 k3 hca _ => ?_⟩
      obtain ⟨ff, hff⟩ := hqq (cmpC L rws vds)
      have hvq3 := Dt.keep (k2.trans k3) _ _ hvq
      refine ⟨_, _, rfl, ?_⟩
      refine ⟨12, rfl, by decide, by decide, for_range (lo := 0) (n := 12) (fun j σ H' => (∃ y7 y9, σ = [some (V.ref l), some (V.ref a), some (V.int (0 + i)), some (V.int L), some vq, some (V.ref Lf), z6, y7, some vc, y9]) ∧ Keep (Bd a c) J3 H' ∧ ∃ cells' n', DeckAt a c cells' n' H' ∧ m3 ≤ n' ∧ n' ≤ m3 + 48 * (j : Int)) ⟨⟨_, _, rfl⟩, Keep.same (Same.refl _), cells3, m3, dk3, Int.le_refl _, by omega⟩ ?_ ?_⟩
      · rintro j σ X1 hj ⟨⟨w7, w9, rfl⟩, kx, cellsx, nx, dkx, p5, p6⟩
        refine ⟨_, rfl, _, rfl, _, rfl, a, c, cellsx, nx, L, 5, rfl, dkx, by omega, by omega, L1, L3, by decide, by decide, fun X2 cells2' n2 cs2 dk2' p7 p8 k2' hw2 => ?_⟩
        refine ⟨_, rfl, _, rfl, a, c, cells2', n2, L, 40, rfl, dk2', by omega, by omega, L1, L3, by decide, by decide, fun X3 cells3' n3 cs3 dk3' p9 pa k3' hw3 => ?_⟩
        refine ⟨by show 2 ≤ sizeLine; decide, fun p4 G4 s4 np4 _ lp4 => ?_⟩
        refine ⟨a, c, p4, cells3', n3, _, rfl, deck_same s4 dk3', by omega, by omega, SqL.of lp4, deck_off dk3' np4, List.cons_ne_nil _ _, by show 2 ≤ 1000; decide, fun H5 cells5 y hy dk5 k5 => ?_⟩
        obtain ⟨cs, rfl, hwz⟩ : ∃ cs : List Nat, y = .str (mkS cs) ∧ WOk L 1000 (TL.tl (mkS cs)) := by
          simp only [List.mem_cons, List.not_mem_nil, or_false] at hy
          rcases hy with hy | hy
          · exact ⟨_, hy, wok_up hw2 (by decide)⟩
          · exact ⟨_, hy, wok_up hw3 (by decide)⟩
        have kz : Keep (Bd a c) J3 H5 := kx.trans (k2'.trans (k3'.trans ((Keep.same s4).trans k5)))
        have hcz := hca.keep kz
        have hqz := Dt.keep kz _ _ hvq3
        obtain ⟨o1, o2, o3⟩ := bool_shown (ff (mkS cs))
        refine ⟨_, rfl, _, rfl, _, rfl, Bd a c, Bd a c, vc, vq, L, rws, vds, dq, ff, _, true, rfl, hcz, hqz, hff, hwz, fun H6 s6 => ?_⟩
        refine ⟨_, _, Bd a c, rfl, .bl _, o1, o2, o3, ?_⟩
        refine ⟨_, rfl, _, rfl, _, rfl, Bd a c, Bd a c, vc, vq, L, rws, vds, dq, ff, _, true, rfl, hcz.keep (Keep.same s6), same_dt s6 hqz, hff, hwz, fun H7 s7 => ?_⟩
        refine ⟨_, _, Bd a c, rfl, .bl _, o1, o2, o3, ?_⟩
        refine ⟨rfl, _, rfl, ite2 (fun h => absurd h (str_ne_false _)) (fun _ => ?_)⟩
        exact ⟨⟨_, _, rfl⟩, kz.trans (Keep.same (s6.trans s7)), cells5, n3 + 1, deck_same (s6.trans s7) dk5, by omega, by omega⟩
      · rintro σ X1 ⟨⟨w7, w9, rfl⟩, kx, cellsx, nx, dkx, p5, p6⟩
        exact ⟨⟨_, _, _, _, _, _, _, _, rfl⟩, _, _, dkx, by omega, by omega⟩
end
theorem all_mk {l : PySem.W.OpenLaw} {w : World} {K : PySem.W.Frag} {h : Heap} {mg : Str → Option Value} {fa f0 f1 f2 f3 f4 f5 f6 f7 f8 f9 f10 f11 f12 f13 f14 f15 f16 f17 f18 f19 f20 f21 f22 f23 f24 f25 f26 f27 f28 f29 f30 f31 f32 f33 f34 f35 f36 f37 f38 f39 f40 f41 f42 f43 f44 f45 f46 dV : Addr} (inK : K.In h) (atG : h.Ns mainGlobals mg) (hfa : mg "law" = some (.ref fa))
    {odd0 and0 odd1 and1 odd2 and2 odd3 and3 odd4 and4 odd5 and5 odd6 and6 odd7 and7 odd8 and8 odd9 and9 odd10 and10 odd11 and11 odd12 and12 odd13 and13 odd14 and14 odd15 and15 odd16 and16 odd17 and17 odd18 and18 odd19 and19 odd20 and20 odd21 and21 odd22 and22 odd23 and23 odd24 and24 odd25 and25 odd26 and26 odd27 and27 odd28 and28 odd29 and29 odd30 and30 odd31 and31 odd32 and32 odd33 and33 odd34 and34 odd35 and35 odd36 and36 odd37 and37 odd38 and38 odd39 and39 odd40 and40 odd41 and41 odd42 and42 odd43 and43 odd44 and44 odd45 and45 odd46 and46 : Option Addr} {sld0 sld1 sld2 sld3 sld4 sld5 sld6 sld7 sld8 sld9 sld10 sld11 sld12 sld13 sld14 sld15 sld16 sld17 sld18 sld19 sld20 sld21 sld22 sld23 sld24 sld25 sld26 sld27 sld28 sld29 sld30 sld31 sld32 sld33 sld34 sld35 sld36 sld37 sld38 sld39 sld40 sld41 sld42 sld43 sld44 sld45 sld46 : Array (Option Value)} {ocd0 kVd0 dcd0 pmd0 cdd0 ctd0 ocd1 kVd1 dcd1 pmd1 cdd1 ctd1 ocd2 kVd2 dcd2 pmd2 cdd2 ctd2 ocd3 kVd3 dcd3 pmd3 cdd3 ctd3 ocd4 kVd4 dcd4 pmd4 cdd4 ctd4 ocd5 kVd5 dcd5 pmd5 cdd5 ctd5 ocd6 kVd6 dcd6 pmd6 cdd6 ctd6 ocd7 kVd7 dcd7 pmd7 cdd7 ctd7 ocd8 kVd8 dcd8 pmd8 cdd8 ctd8 ocd9 kVd9 dcd9 pmd9 cdd9 ctd9 ocd10 kVd10 dcd10 pmd10 cdd10 ctd10 ocd11 kVd11 dcd11 pmd11 cdd11 ctd11 ocd12 kVd12 dcd12 pmd12 cdd12 ctd12 ocd13 kVd13 dcd13 pmd13 cdd13 ctd13 ocd14 kVd14 dcd14 pmd14 cdd14 ctd14 ocd15 kVd15 dcd15 pmd15 cdd15 ctd15 ocd16 kVd16 dcd16 pmd16 cdd16 ctd16 ocd17 kVd17 dcd17 pmd17 cdd17 ctd17 ocd18 kVd18 dcd18 pmd18 cdd18 ctd18 ocd19 kVd19 dcd19 pmd19 cdd19 ctd19 ocd20 kVd20 dcd20 pmd20 cdd20 ctd20 ocd21 kVd21 dcd21 pmd21 cdd21 ctd21 ocd22 kVd22 dcd22 pmd22 cdd22 ctd22 ocd23 kVd23 dcd23 pmd23 cdd23 ctd23 ocd24 kVd24 dcd24 pmd24 cdd24 ctd24 ocd25 kVd25 dcd25 pmd25 cdd25 ctd25 ocd26 kVd26 dcd26 pmd26 cdd26 ctd26 ocd27 kVd27 dcd27 pmd27 cdd27 ctd27 ocd28 kVd28 dcd28 pmd28 cdd28 ctd28 ocd29 kVd29 dcd29 pmd29 cdd29 ctd29 ocd30 kVd30 dcd30 pmd30 cdd30 ctd30 ocd31 kVd31 dcd31 pmd31 cdd31 ctd31 ocd32 kVd32 dcd32 pmd32 cdd32 ctd32 ocd33 kVd33 dcd33 pmd33 cdd33 ctd33 ocd34 kVd34 dcd34 pmd34 cdd34 ctd34 ocd35 kVd35 dcd35 pmd35 cdd35 ctd35 ocd36 kVd36 dcd36 pmd36 cdd36 ctd36 ocd37 kVd37 dcd37 pmd37 cdd37 ctd37 ocd38 kVd38 dcd38 pmd38 cdd38 ctd38 ocd39 kVd39 dcd39 pmd39 cdd39 ctd39 ocd40 kVd40 dcd40 pmd40 cdd40 ctd40 ocd41 kVd41 dcd41 pmd41 cdd41 ctd41 ocd42 kVd42 dcd42 pmd42 cdd42 ctd42 ocd43 kVd43 dcd43 pmd43 cdd43 ctd43 ocd44 kVd44 dcd44 pmd44 cdd44 ctd44 ocd45 kVd45 dcd45 pmd45 cdd45 ctd45 ocd46 kVd46 dcd46 pmd46 cdd46 ctd46 : Value} {t0 t1 t2 t3 t4 t5 t6 t7 t8 t9 t10 t11 t12 t13 tv0 tv1 tv2 : Tok}
    (a0 : PySem.W.nsIn K mainGlobals "is_integer" = some (some (.ref f0)))
    (l0 : K.lookup f0 = some ⟨ocd0, odd0, .func (PySem.W.fnOf "is_integer" "is_integer" (defArgs sInteger) (defBody sInteger) (defScope sInteger) .none kVd0 dcd0 pmd0 and0 cdd0 ctd0), sld0⟩)
    (c0 : PySem.W.codeIn K cdd0 "is_integer" = true)
    (k0 : PySem.W.keepIn K (.ref f0) = true)
    (a1 : PySem.W.nsIn K mainGlobals "is_number" = some (some (.ref f1)))
    (l1 : K.lookup f1 = some ⟨ocd1, odd1, .func (PySem.W.fnOf "is_number" "is_number" (defArgs sNumber) (defBody sNumber) (defScope sNumber) .none kVd1 dcd1 pmd1 and1 cdd1 ctd1), sld1⟩)
    (c1 : PySem.W.codeIn K cdd1 "is_number" = true)
    (k1 : PySem.W.keepIn K (.ref f1) = true)
    (a2 : PySem.W.nsIn K mainGlobals "is_word" = some (some (.ref f2)))
    (l2 : K.lookup f2 = some ⟨ocd2, odd2, .func (PySem.W.fnOf "is_word" "is_word" (defArgs sWord) (defBody sWord) (defScope sWord) .none kVd2 dcd2 pmd2 and2 cdd2 ctd2), sld2⟩)
    (c2 : PySem.W.codeIn K cdd2 "is_word" = true)
    (k2 : PySem.W.keepIn K (.ref f2) = true)
    (a3 : PySem.W.nsIn K mainGlobals "is_unit" = some (some (.ref f3)))
    (l3 : K.lookup f3 = some ⟨ocd3, odd3, .func (PySem.W.fnOf "is_unit" "is_unit" (defArgs sUnit) (defBody sUnit) (defScope sUnit) .none kVd3 dcd3 pmd3 and3 cdd3 ctd3), sld3⟩)
    (c3 : PySem.W.codeIn K cdd3 "is_unit" = true)
    (k3 : PySem.W.keepIn K (.ref f3) = true)
    (a4 : PySem.W.nsIn K mainGlobals "tells" = some (some (.ref f4)))
    (l4 : K.lookup f4 = some ⟨ocd4, odd4, .func (PySem.W.fnOf "tells" "tells" (defArgs sTells) (defBody sTells) (defScope sTells) .none kVd4 dcd4 pmd4 and4 cdd4 ctd4), sld4⟩)
    (c4 : PySem.W.codeIn K cdd4 "tells" = true)
    (k4 : PySem.W.keepIn K (.ref f4) = true)
    (a5 : PySem.W.nsIn K mainGlobals "sign_at" = some (some (.ref f5)))
    (l5 : K.lookup f5 = some ⟨ocd5, odd5, .func (PySem.W.fnOf "sign_at" "sign_at" (defArgs sSignAt) (defBody sSignAt) (defScope sSignAt) .none kVd5 dcd5 pmd5 and5 cdd5 ctd5), sld5⟩)
    (c5 : PySem.W.codeIn K cdd5 "sign_at" = true)
    (k5 : PySem.W.keepIn K (.ref f5) = true)
    (a6 : PySem.W.nsIn K mainGlobals "machine_error" = some (some (.ref f6)))
    (l6 : K.lookup f6 = some ⟨ocd6, odd6, .func (PySem.W.fnOf "machine_error" "machine_error" (defArgs sErr) (defBody sErr) (defScope sErr) .none kVd6 dcd6 pmd6 and6 cdd6 ctd6), sld6⟩)
    (c6 : PySem.W.codeIn K cdd6 "machine_error" = true)
    (k6 : PySem.W.keepIn K (.ref f6) = true)
    (a7 : PySem.W.nsIn K mainGlobals "is_row" = some (some (.ref f7)))
    (l7 : K.lookup f7 = some ⟨ocd7, odd7, .func (PySem.W.fnOf "is_row" "is_row" (defArgs sRow) (defBody sRow) (defScope sRow) .none kVd7 dcd7 pmd7 and7 cdd7 ctd7), sld7⟩)
    (c7 : PySem.W.codeIn K cdd7 "is_row" = true)
    (k7 : PySem.W.keepIn K (.ref f7) = true)
    (a8 : PySem.W.nsIn K mainGlobals "is_of" = some (some (.ref f8)))
    (l8 : K.lookup f8 = some ⟨ocd8, odd8, .func (PySem.W.fnOf "is_of" "is_of" (defArgs sIsOf) (defBody sIsOf) (defScope sIsOf) .none kVd8 dcd8 pmd8 and8 cdd8 ctd8), sld8⟩)
    (c8 : PySem.W.codeIn K cdd8 "is_of" = true)
    (k8 : PySem.W.keepIn K (.ref f8) = true)
    (a9 : PySem.W.nsIn K mainGlobals "line_error" = some (some (.ref f9)))
    (l9 : K.lookup f9 = some ⟨ocd9, odd9, .func (PySem.W.fnOf "line_error" "line_error" (defArgs sLErr) (defBody sLErr) (defScope sLErr) .none kVd9 dcd9 pmd9 and9 cdd9 ctd9), sld9⟩)
    (c9 : PySem.W.codeIn K cdd9 "line_error" = true)
    (k9 : PySem.W.keepIn K (.ref f9) = true)
    (a10 : PySem.W.nsIn K mainGlobals "is_step" = some (some (.ref f10)))
    (l10 : K.lookup f10 = some ⟨ocd10, odd10, .func (PySem.W.fnOf "is_step" "is_step" (defArgs sStep) (defBody sStep) (defScope sStep) .none kVd10 dcd10 pmd10 and10 cdd10 ctd10), sld10⟩)
    (c10 : PySem.W.codeIn K cdd10 "is_step" = true)
    (k10 : PySem.W.keepIn K (.ref f10) = true)
    (a11 : PySem.W.nsIn K mainGlobals "is_letter" = some (some (.ref f11)))
    (l11 : K.lookup f11 = some ⟨ocd11, odd11, .func (PySem.W.fnOf "is_letter" "is_letter" (defArgs sLetter) (defBody sLetter) (defScope sLetter) .none kVd11 dcd11 pmd11 and11 cdd11 ctd11), sld11⟩)
    (c11 : PySem.W.codeIn K cdd11 "is_letter" = true)
    (k11 : PySem.W.keepIn K (.ref f11) = true)
    (a12 : PySem.W.nsIn K mainGlobals "is_turning" = some (some (.ref f12)))
    (l12 : K.lookup f12 = some ⟨ocd12, odd12, .func (PySem.W.fnOf "is_turning" "is_turning" (defArgs sTurning) (defBody sTurning) (defScope sTurning) .none kVd12 dcd12 pmd12 and12 cdd12 ctd12), sld12⟩)
    (c12 : PySem.W.codeIn K cdd12 "is_turning" = true)
    (k12 : PySem.W.keepIn K (.ref f12) = true)
    (a13 : PySem.W.nsIn K mainGlobals "is_putting" = some (some (.ref f13)))
    (l13 : K.lookup f13 = some ⟨ocd13, odd13, .func (PySem.W.fnOf "is_putting" "is_putting" (defArgs sPutting) (defBody sPutting) (defScope sPutting) .none kVd13 dcd13 pmd13 and13 cdd13 ctd13), sld13⟩)
    (c13 : PySem.W.codeIn K cdd13 "is_putting" = true)
    (k13 : PySem.W.keepIn K (.ref f13) = true)
    (a14 : PySem.W.nsIn K mainGlobals "is_swapping" = some (some (.ref f14)))
    (l14 : K.lookup f14 = some ⟨ocd14, odd14, .func (PySem.W.fnOf "is_swapping" "is_swapping" (defArgs sSwapping) (defBody sSwapping) (defScope sSwapping) .none kVd14 dcd14 pmd14 and14 cdd14 ctd14), sld14⟩)
    (c14 : PySem.W.codeIn K cdd14 "is_swapping" = true)
    (k14 : PySem.W.keepIn K (.ref f14) = true)
    (a15 : PySem.W.nsIn K mainGlobals "image" = some (some (.ref f15)))
    (l15 : K.lookup f15 = some ⟨ocd15, odd15, .func (PySem.W.fnOf "image" "image" (defArgs sImage) (defBody sImage) (defScope sImage) .none kVd15 dcd15 pmd15 and15 cdd15 ctd15), sld15⟩)
    (c15 : PySem.W.codeIn K cdd15 "image" = true)
    (k15 : PySem.W.keepIn K (.ref f15) = true)
    (a16 : PySem.W.nsIn K mainGlobals "stepped" = some (some (.ref f16)))
    (l16 : K.lookup f16 = some ⟨ocd16, odd16, .func (PySem.W.fnOf "stepped" "stepped" (defArgs sStepped) (defBody sStepped) (defScope sStepped) .none kVd16 dcd16 pmd16 and16 cdd16 ctd16), sld16⟩)
    (c16 : PySem.W.codeIn K cdd16 "stepped" = true)
    (k16 : PySem.W.keepIn K (.ref f16) = true)
    (a17 : PySem.W.nsIn K mainGlobals "cut" = some (some (.ref f17)))
    (l17 : K.lookup f17 = some ⟨ocd17, odd17, .func (PySem.W.fnOf "cut" "cut" (defArgs sCut) (defBody sCut) (defScope sCut) .none kVd17 dcd17 pmd17 and17 cdd17 ctd17), sld17⟩)
    (c17 : PySem.W.codeIn K cdd17 "cut" = true)
    (k17 : PySem.W.keepIn K (.ref f17) = true)
    (a18 : PySem.W.nsIn K mainGlobals "passed" = some (some (.ref f18)))
    (l18 : K.lookup f18 = some ⟨ocd18, odd18, .func (PySem.W.fnOf "passed" "passed" (defArgs sPassed) (defBody sPassed) (defScope sPassed) .none kVd18 dcd18 pmd18 and18 cdd18 ctd18), sld18⟩)
    (c18 : PySem.W.codeIn K cdd18 "passed" = true)
    (k18 : PySem.W.keepIn K (.ref f18) = true)
    (a19 : PySem.W.nsIn K mainGlobals "swapped" = some (some (.ref f19)))
    (l19 : K.lookup f19 = some ⟨ocd19, odd19, .func (PySem.W.fnOf "swapped" "swapped" (defArgs sSwapped) (defBody sSwapped) (defScope sSwapped) .none kVd19 dcd19 pmd19 and19 cdd19 ctd19), sld19⟩)
    (c19 : PySem.W.codeIn K cdd19 "swapped" = true)
    (k19 : PySem.W.keepIn K (.ref f19) = true)
    (a20 : PySem.W.nsIn K mainGlobals "query_error" = some (some (.ref f20)))
    (l20 : K.lookup f20 = some ⟨ocd20, odd20, .func (PySem.W.fnOf "query_error" "query_error" (defArgs sQErr) (defBody sQErr) (defScope sQErr) .none kVd20 dcd20 pmd20 and20 cdd20 ctd20), sld20⟩)
    (c20 : PySem.W.codeIn K cdd20 "query_error" = true)
    (k20 : PySem.W.keepIn K (.ref f20) = true)
    (a21 : PySem.W.nsIn K mainGlobals "is_query" = some (some (.ref f21)))
    (l21 : K.lookup f21 = some ⟨ocd21, odd21, .func (PySem.W.fnOf "is_query" "is_query" (defArgs sQuery) (defBody sQuery) (defScope sQuery) .none kVd21 dcd21 pmd21 and21 cdd21 ctd21), sld21⟩)
    (c21 : PySem.W.codeIn K cdd21 "is_query" = true)
    (k21 : PySem.W.keepIn K (.ref f21) = true)
    (a22 : PySem.W.nsIn K mainGlobals "answers" = some (some (.ref f22)))
    (l22 : K.lookup f22 = some ⟨ocd22, odd22, .func (PySem.W.fnOf "answers" "answers" (defArgs sAnswers) (defBody sAnswers) (defScope sAnswers) .none kVd22 dcd22 pmd22 and22 cdd22 ctd22), sld22⟩)
    (c22 : PySem.W.codeIn K cdd22 "answers" = true)
    (k22 : PySem.W.keepIn K (.ref f22) = true)
    (a23 : PySem.W.nsIn K mainGlobals "_law_deck" = some (some (.ref f23)))
    (l23 : K.lookup f23 = some ⟨ocd23, odd23, .func (PySem.W.fnOf "_law_deck" "_law_deck" (defArgs sDeck) (defBody sDeck) (defScope sDeck) .none kVd23 dcd23 pmd23 and23 cdd23 ctd23), sld23⟩)
    (c23 : PySem.W.codeIn K cdd23 "_law_deck" = true)
    (k23 : PySem.W.keepIn K (.ref f23) = true)
    (a24 : PySem.W.nsIn K mainGlobals "_law_draw" = some (some (.ref f24)))
    (l24 : K.lookup f24 = some ⟨ocd24, odd24, .func (PySem.W.fnOf "_law_draw" "_law_draw" (defArgs sDraw) (defBody sDraw) (defScope sDraw) .none kVd24 dcd24 pmd24 and24 cdd24 ctd24), sld24⟩)
    (c24 : PySem.W.codeIn K cdd24 "_law_draw" = true)
    (k24 : PySem.W.keepIn K (.ref f24) = true)
    (a25 : PySem.W.nsIn K mainGlobals "_law_one" = some (some (.ref f25)))
    (l25 : K.lookup f25 = some ⟨ocd25, odd25, .func (PySem.W.fnOf "_law_one" "_law_one" (defArgs sOne) (defBody sOne) (defScope sOne) .none kVd25 dcd25 pmd25 and25 cdd25 ctd25), sld25⟩)
    (c25 : PySem.W.codeIn K cdd25 "_law_one" = true)
    (k25 : PySem.W.keepIn K (.ref f25) = true)
    (a26 : PySem.W.nsIn K mainGlobals "_law_kind" = some (some (.ref f26)))
    (l26 : K.lookup f26 = some ⟨ocd26, odd26, .func (PySem.W.fnOf "_law_kind" "_law_kind" (defArgs sKind) (defBody sKind) (defScope sKind) .none kVd26 dcd26 pmd26 and26 cdd26 ctd26), sld26⟩)
    (c26 : PySem.W.codeIn K cdd26 "_law_kind" = true)
    (k26 : PySem.W.keepIn K (.ref f26) = true)
    (a27 : PySem.W.nsIn K mainGlobals "_law_state" = some (some (.ref f27)))
    (l27 : K.lookup f27 = some ⟨ocd27, odd27, .func (PySem.W.fnOf "_law_state" "_law_state" (defArgs sStateL) (defBody sStateL) (defScope sStateL) .none kVd27 dcd27 pmd27 and27 cdd27 ctd27), sld27⟩)
    (c27 : PySem.W.codeIn K cdd27 "_law_state" = true)
    (k27 : PySem.W.keepIn K (.ref f27) = true)
    (a28 : PySem.W.nsIn K mainGlobals "_law_is_of" = some (some (.ref f28)))
    (l28 : K.lookup f28 = some ⟨ocd28, odd28, .func (PySem.W.fnOf "_law_is_of" "_law_is_of" (defArgs sIsOfL) (defBody sIsOfL) (defScope sIsOfL) .none kVd28 dcd28 pmd28 and28 cdd28 ctd28), sld28⟩)
    (c28 : PySem.W.codeIn K cdd28 "_law_is_of" = true)
    (k28 : PySem.W.keepIn K (.ref f28) = true)
    (a29 : PySem.W.nsIn K mainGlobals "_law_step" = some (some (.ref f29)))
    (l29 : K.lookup f29 = some ⟨ocd29, odd29, .func (PySem.W.fnOf "_law_step" "_law_step" (defArgs sStepL) (defBody sStepL) (defScope sStepL) .none kVd29 dcd29 pmd29 and29 cdd29 ctd29), sld29⟩)
    (c29 : PySem.W.codeIn K cdd29 "_law_step" = true)
    (k29 : PySem.W.keepIn K (.ref f29) = true)
    (a30 : PySem.W.nsIn K mainGlobals "_law_swap" = some (some (.ref f30)))
    (l30 : K.lookup f30 = some ⟨ocd30, odd30, .func (PySem.W.fnOf "_law_swap" "_law_swap" (defArgs sSwapL) (defBody sSwapL) (defScope sSwapL) .none kVd30 dcd30 pmd30 and30 cdd30 ctd30), sld30⟩)
    (c30 : PySem.W.codeIn K cdd30 "_law_swap" = true)
    (k30 : PySem.W.keepIn K (.ref f30) = true)
    (a31 : PySem.W.nsIn K mainGlobals "_law_line" = some (some (.ref f31)))
    (l31 : K.lookup f31 = some ⟨ocd31, odd31, .func (PySem.W.fnOf "_law_line" "_law_line" (defArgs sLineL) (defBody sLineL) (defScope sLineL) .none kVd31 dcd31 pmd31 and31 cdd31 ctd31), sld31⟩)
    (c31 : PySem.W.codeIn K cdd31 "_law_line" = true)
    (k31 : PySem.W.keepIn K (.ref f31) = true)
    (a32 : PySem.W.nsIn K mainGlobals "_law_stepped" = some (some (.ref f32)))
    (l32 : K.lookup f32 = some ⟨ocd32, odd32, .func (PySem.W.fnOf "_law_stepped" "_law_stepped" (defArgs sSteppedL) (defBody sSteppedL) (defScope sSteppedL) .none kVd32 dcd32 pmd32 and32 cdd32 ctd32), sld32⟩)
    (c32 : PySem.W.codeIn K cdd32 "_law_stepped" = true)
    (k32 : PySem.W.keepIn K (.ref f32) = true)
    (a33 : PySem.W.nsIn K mainGlobals "_law_swapped" = some (some (.ref f33)))
    (l33 : K.lookup f33 = some ⟨ocd33, odd33, .func (PySem.W.fnOf "_law_swapped" "_law_swapped" (defArgs sSwappedL) (defBody sSwappedL) (defScope sSwappedL) .none kVd33 dcd33 pmd33 and33 cdd33 ctd33), sld33⟩)
    (c33 : PySem.W.codeIn K cdd33 "_law_swapped" = true)
    (k33 : PySem.W.keepIn K (.ref f33) = true)
    (a34 : PySem.W.nsIn K mainGlobals "_law_image" = some (some (.ref f34)))
    (l34 : K.lookup f34 = some ⟨ocd34, odd34, .func (PySem.W.fnOf "_law_image" "_law_image" (defArgs sImageL) (defBody sImageL) (defScope sImageL) .none kVd34 dcd34 pmd34 and34 cdd34 ctd34), sld34⟩)
    (c34 : PySem.W.codeIn K cdd34 "_law_image" = true)
    (k34 : PySem.W.keepIn K (.ref f34) = true)
    (a35 : PySem.W.nsIn K mainGlobals "_law_columns" = some (some (.ref f35)))
    (l35 : K.lookup f35 = some ⟨ocd35, odd35, .func (PySem.W.fnOf "_law_columns" "_law_columns" (defArgs sColsL) (defBody sColsL) (defScope sColsL) .none kVd35 dcd35 pmd35 and35 cdd35 ctd35), sld35⟩)
    (c35 : PySem.W.codeIn K cdd35 "_law_columns" = true)
    (k35 : PySem.W.keepIn K (.ref f35) = true)
    (a36 : PySem.W.nsIn K mainGlobals "_law_comp" = some (some (.ref f36)))
    (l36 : K.lookup f36 = some ⟨ocd36, odd36, .func (PySem.W.fnOf "_law_comp" "_law_comp" (defArgs sComp) (defBody sComp) (defScope sComp) .none kVd36 dcd36 pmd36 and36 cdd36 ctd36), sld36⟩)
    (c36 : PySem.W.codeIn K cdd36 "_law_comp" = true)
    (k36 : PySem.W.keepIn K (.ref f36) = true)
    (a37 : PySem.W.nsIn K mainGlobals "_law_tells" = some (some (.ref f37)))
    (l37 : K.lookup f37 = some ⟨ocd37, odd37, .func (PySem.W.fnOf "_law_tells" "_law_tells" (defArgs sTellsL) (defBody sTellsL) (defScope sTellsL) .none kVd37 dcd37 pmd37 and37 cdd37 ctd37), sld37⟩)
    (c37 : PySem.W.codeIn K cdd37 "_law_tells" = true)
    (k37 : PySem.W.keepIn K (.ref f37) = true)
    (a38 : PySem.W.nsIn K mainGlobals "_law_word" = some (some (.ref f38)))
    (l38 : K.lookup f38 = some ⟨ocd38, odd38, .func (PySem.W.fnOf "_law_word" "_law_word" (defArgs sWordL) (defBody sWordL) (defScope sWordL) .none kVd38 dcd38 pmd38 and38 cdd38 ctd38), sld38⟩)
    (c38 : PySem.W.codeIn K cdd38 "_law_word" = true)
    (k38 : PySem.W.keepIn K (.ref f38) = true)
    (a39 : PySem.W.nsIn K mainGlobals "_law_query" = some (some (.ref f39)))
    (l39 : K.lookup f39 = some ⟨ocd39, odd39, .func (PySem.W.fnOf "_law_query" "_law_query" (defArgs sQueryL) (defBody sQueryL) (defScope sQueryL) .none kVd39 dcd39 pmd39 and39 cdd39 ctd39), sld39⟩)
    (c39 : PySem.W.codeIn K cdd39 "_law_query" = true)
    (k39 : PySem.W.keepIn K (.ref f39) = true)
    (a40 : PySem.W.nsIn K mainGlobals "_law_answers" = some (some (.ref f40)))
    (l40 : K.lookup f40 = some ⟨ocd40, odd40, .func (PySem.W.fnOf "_law_answers" "_law_answers" (defArgs sAnswersL) (defBody sAnswersL) (defScope sAnswersL) .none kVd40 dcd40 pmd40 and40 cdd40 ctd40), sld40⟩)
    (c40 : PySem.W.codeIn K cdd40 "_law_answers" = true)
    (k40 : PySem.W.keepIn K (.ref f40) = true)
    (a41 : PySem.W.nsIn K mainGlobals "_law_otherwise" = some (some (.ref f41)))
    (l41 : K.lookup f41 = some ⟨ocd41, odd41, .func (PySem.W.fnOf "_law_otherwise" "_law_otherwise" (defArgs sOther) (defBody sOther) (defScope sOther) .none kVd41 dcd41 pmd41 and41 cdd41 ctd41), sld41⟩)
    (c41 : PySem.W.codeIn K cdd41 "_law_otherwise" = true)
    (k41 : PySem.W.keepIn K (.ref f41) = true)
    (a42 : PySem.W.nsIn K mainGlobals "_law_whole" = some (some (.ref f42)))
    (l42 : K.lookup f42 = some ⟨ocd42, odd42, .func (PySem.W.fnOf "_law_whole" "_law_whole" (defArgs sWhole) (defBody sWhole) (defScope sWhole) .none kVd42 dcd42 pmd42 and42 cdd42 ctd42), sld42⟩)
    (c42 : PySem.W.codeIn K cdd42 "_law_whole" = true)
    (k42 : PySem.W.keepIn K (.ref f42) = true)
    (a43 : PySem.W.nsIn K mainGlobals "_law_is_query" = some (some (.ref f43)))
    (l43 : K.lookup f43 = some ⟨ocd43, odd43, .func (PySem.W.fnOf "_law_is_query" "_law_is_query" (defArgs sIsQueryL) (defBody sIsQueryL) (defScope sIsQueryL) .none kVd43 dcd43 pmd43 and43 cdd43 ctd43), sld43⟩)
    (c43 : PySem.W.codeIn K cdd43 "_law_is_query" = true)
    (k43 : PySem.W.keepIn K (.ref f43) = true)
    (a44 : PySem.W.nsIn K mainGlobals "_law_is_line" = some (some (.ref f44)))
    (l44 : K.lookup f44 = some ⟨ocd44, odd44, .func (PySem.W.fnOf "_law_is_line" "_law_is_line" (defArgs sIsLineL) (defBody sIsLineL) (defScope sIsLineL) .none kVd44 dcd44 pmd44 and44 cdd44 ctd44), sld44⟩)
    (c44 : PySem.W.codeIn K cdd44 "_law_is_line" = true)
    (k44 : PySem.W.keepIn K (.ref f44) = true)
    (a45 : PySem.W.nsIn K mainGlobals "_law_is_kind" = some (some (.ref f45)))
    (l45 : K.lookup f45 = some ⟨ocd45, odd45, .func (PySem.W.fnOf "_law_is_kind" "_law_is_kind" (defArgs sIsKindL) (defBody sIsKindL) (defScope sIsKindL) .none kVd45 dcd45 pmd45 and45 cdd45 ctd45), sld45⟩)
    (c45 : PySem.W.codeIn K cdd45 "_law_is_kind" = true)
    (k45 : PySem.W.keepIn K (.ref f45) = true)
    (a46 : PySem.W.nsIn K mainGlobals "law" = some (some (.ref f46)))
    (l46 : K.lookup f46 = some ⟨ocd46, odd46, .func (PySem.W.fnOf "law" "law" (defArgs sLaw) (defBody sLaw) (defScope sLaw) .none kVd46 dcd46 pmd46 and46 cdd46 ctd46), sld46⟩)
    (c46 : PySem.W.codeIn K cdd46 "law" = true)
    (k46 : PySem.W.keepIn K (.ref f46) = true)
    (z0 : PySem.W.nsIn K mainGlobals "len" = some none)
    (z1 : PySem.W.nsIn K mainGlobals "int" = some none)
    (z2 : PySem.W.nsIn K mainGlobals "range" = some none)
    (z3 : PySem.W.nsIn K mainGlobals "tuple" = some none)
    (z4 : PySem.W.nsIn K mainGlobals "list" = some none)
    (z5 : PySem.W.nsIn K mainGlobals "isinstance" = some none)
    (z6 : PySem.W.nsIn K mainGlobals "all" = some none)
    (z7 : PySem.W.nsIn K mainGlobals "abs" = some none)
    (z8 : PySem.W.nsIn K mainGlobals "bool" = some none)
    (z9 : PySem.W.nsIn K mainGlobals "repr" = some none)
    (z10 : PySem.W.nsIn K mainGlobals "set" = some none)
    (z11 : PySem.W.nsIn K mainGlobals "str" = some none)
    (z12 : PySem.W.nsIn K mainGlobals "enumerate" = some none)
    (z13 : PySem.W.nsIn K mainGlobals "max" = some none)
    (z14 : PySem.W.nsIn K mainGlobals "sum" = some none)
    (z15 : PySem.W.nsIn K mainGlobals "any" = some none)
    (m0 : PySem.W.nsIn K mainGlobals "MAX_COUNT" = some (some (.int 9 t0)))
    (m1 : PySem.W.nsIn K mainGlobals "MAX_CUT" = some (some (.int 30 t1)))
    (m2 : PySem.W.nsIn K mainGlobals "MAX_LINE" = some (some (.int 3 t2)))
    (m3 : PySem.W.nsIn K mainGlobals "MAX_PAIRS" = some (some (.int 4 t3)))
    (m4 : PySem.W.nsIn K mainGlobals "MAX_PASS" = some (some (.int 4 t4)))
    (m5 : PySem.W.nsIn K mainGlobals "MAX_PIECE" = some (some (.int 2 t5)))
    (m6 : PySem.W.nsIn K mainGlobals "MAX_LETTERS" = some (some (.int 3 t6)))
    (m7 : PySem.W.nsIn K mainGlobals "MAX_ROWS" = some (some (.int 400 t7)))
    (m8 : PySem.W.nsIn K mainGlobals "MAX_STATES" = some (some (.int 6 t8)))
    (m9 : PySem.W.nsIn K mainGlobals "MAX_ASKED" = some (some (.int 20 t9)))
    (m10 : PySem.W.nsIn K mainGlobals "MAX_DEPTH" = some (some (.int 4 t10)))
    (m11 : PySem.W.nsIn K mainGlobals "MANY" = some (some (.int 4 t11)))
    (m12 : PySem.W.nsIn K mainGlobals "LONGEST_PIECE" = some (some (.int 4 t12)))
    (m13 : PySem.W.nsIn K mainGlobals "LETTERS" = some (some (.str "abc" t13)))
    (gV : PySem.W.nsIn K mainGlobals "VERDICTS" = some (some (.ref dV)))
    (vd : He.dicW K dV = some (He.keysIn w.params ["below", "like", "above"]))
    (v0 : PySem.W.nsIn K dV "below" = some (some (.int (-1) tv0)))
    (v1 : PySem.W.nsIn K dV "like" = some (some (.int (0) tv1)))
    (v2 : PySem.W.nsIn K dV "above" = some (some (.int (1) tv2)))
    (w0 : PySem.W.nsIn K dV "is" = some none)
    (w1 : PySem.W.nsIn K dV "has" = some none)
    (w2 : PySem.W.nsIn K dV "of" = some none)
    (w3 : PySem.W.nsIn K dV "seen" = some none)
    (w4 : PySem.W.nsIn K dV "not" = some none)
    (w5 : PySem.W.nsIn K dV "all" = some none)
    (w6 : PySem.W.nsIn K dV "some" = some none) :
    ∃ fd : FuncData, (∀ (s : Shared) (v : Value), BindsTo s fd ⟨[v], []⟩ [("_law_script", v)]) ∧ ∀ base : Heap, K.In base → base.Ns mainGlobals mg → GRun l.prog w K mg base 12 fa fd ["_law_script"] (spLaw K) := by
  have e := hfa.symm.trans (PySem.W.mg_of inK atG a46)
  cases e
  have T : Mg mg := ⟨PySem.W.mg_none_of inK atG z0, PySem.W.mg_none_of inK atG z1, PySem.W.mg_none_of inK atG z2, PySem.W.mg_none_of inK atG z3, PySem.W.mg_none_of inK atG z4, PySem.W.mg_none_of inK atG z5, PySem.W.mg_none_of inK atG z6, PySem.W.mg_none_of inK atG z7, PySem.W.mg_none_of inK atG z8, PySem.W.mg_none_of inK atG z9, PySem.W.mg_none_of inK atG z10, PySem.W.mg_none_of inK atG z11, PySem.W.mg_none_of inK atG z12, ⟨_, PySem.W.mg_of inK atG m0⟩, ⟨_, PySem.W.mg_of inK atG m1⟩, ⟨_, PySem.W.mg_of inK atG m2⟩, ⟨_, PySem.W.mg_of inK atG m3⟩, ⟨_, PySem.W.mg_of inK atG m4⟩, ⟨_, PySem.W.mg_of inK atG m5⟩, PySem.W.mg_none_of inK atG z13, PySem.W.mg_none_of inK atG z14, PySem.W.mg_none_of inK atG z15, ⟨_, PySem.W.mg_of inK atG m6⟩, ⟨_, PySem.W.mg_of inK atG m7⟩, ⟨_, PySem.W.mg_of inK atG m8⟩, ⟨_, PySem.W.mg_of inK atG m9⟩, ⟨_, PySem.W.mg_of inK atG m10⟩, ⟨_, PySem.W.mg_of inK atG m11⟩, ⟨_, PySem.W.mg_of inK atG m12⟩, ⟨_, PySem.W.mg_of inK atG m13⟩⟩
  have F0 := fun_mk (st := sInteger) l0 c0 k0
  have b0 := F0.binds (ps := ["value"]) fun _ _ _ _ _ _ us hl => match us, hl with | [_], _ => rfl
  have g0 := PySem.W.mg_of inK atG a0
  have F1 := fun_mk (st := sNumber) l1 c1 k1
  have b1 := F1.binds (ps := ["value", "least", "most"]) fun _ _ _ _ _ _ us hl => match us, hl with | [_, _, _], _ => rfl
  have g1 := PySem.W.mg_of inK atG a1
  have F2 := fun_mk (st := sWord) l2 c2 k2
  have b2 := F2.binds (ps := ["value", "letters", "most"]) fun _ _ _ _ _ _ us hl => match us, hl with | [_, _, _], _ => rfl
  have g2 := PySem.W.mg_of inK atG a2
  have F3 := fun_mk (st := sUnit) l3 c3 k3
  have b3 := F3.binds (ps := ["value", "letters"]) fun _ _ _ _ _ _ us hl => match us, hl with | [_, _], _ => rfl
  have g3 := PySem.W.mg_of inK atG a3
  have F4 := fun_mk (st := sTells) l4 c4 k4
  have b4 := F4.binds (ps := ["comp", "one", "other"]) fun _ _ _ _ _ _ us hl => match us, hl with | [_, _, _], _ => rfl
  have g4 := PySem.W.mg_of inK atG a4
  have F5 := fun_mk (st := sSignAt) l5 c5 k5
  have b5 := F5.binds (ps := ["word", "place", "letters"]) fun _ _ _ _ _ _ us hl => match us, hl with | [_, _, _], _ => rfl
  have g5 := PySem.W.mg_of inK atG a5
  have F6 := fun_mk (st := sErr) l6 c6 k6
  have b6 := F6.binds (ps := ["value"]) fun _ _ _ _ _ _ us hl => match us, hl with | [_], _ => rfl
  have g6 := PySem.W.mg_of inK atG a6
  have F7 := fun_mk (st := sRow) l7 c7 k7
  have b7 := F7.binds (ps := ["value", "letters", "states"]) fun _ _ _ _ _ _ us hl => match us, hl with | [_, _, _], _ => rfl
  have g7 := PySem.W.mg_of inK atG a7
  have F8 := fun_mk (st := sIsOf) l8 c8 k8
  have b8 := F8.binds (ps := ["machine", "word"]) fun _ _ _ _ _ _ us hl => match us, hl with | [_, _], _ => rfl
  have g8 := PySem.W.mg_of inK atG a8
  have F9 := fun_mk (st := sLErr) l9 c9 k9
  have b9 := F9.binds (ps := ["letters", "value"]) fun _ _ _ _ _ _ us hl => match us, hl with | [_, _], _ => rfl
  have g9 := PySem.W.mg_of inK atG a9
  have F10 := fun_mk (st := sStep) l10 c10 k10
  have b10 := F10.binds (ps := ["value", "letters"]) fun _ _ _ _ _ _ us hl => match us, hl with | [_, _], _ => rfl
  have g10 := PySem.W.mg_of inK atG a10
  have F11 := fun_mk (st := sLetter) l11 c11 k11
  have b11 := F11.binds (ps := ["value", "letters"]) fun _ _ _ _ _ _ us hl => match us, hl with | [_, _], _ => rfl
  have g11 := PySem.W.mg_of inK atG a11
  have F12 := fun_mk (st := sTurning) l12 c12 k12
  have b12 := F12.binds (ps := ["value", "letters"]) fun _ _ _ _ _ _ us hl => match us, hl with | [_, _], _ => rfl
  have g12 := PySem.W.mg_of inK atG a12
  have F13 := fun_mk (st := sPutting) l13 c13 k13
  have b13 := F13.binds (ps := ["value", "letters", "turns"]) fun _ _ _ _ _ _ us hl => match us, hl with | [_, _, _], _ => rfl
  have g13 := PySem.W.mg_of inK atG a13
  have F14 := fun_mk (st := sSwapping) l14 c14 k14
  have b14 := F14.binds (ps := ["value", "letters"]) fun _ _ _ _ _ _ us hl => match us, hl with | [_, _], _ => rfl
  have g14 := PySem.W.mg_of inK atG a14
  have F15 := fun_mk (st := sImage) l15 c15 k15
  have b15 := F15.binds (ps := ["line", "word"]) fun _ _ _ _ _ _ us hl => match us, hl with | [_, _], _ => rfl
  have g15 := PySem.W.mg_of inK atG a15
  have F16 := fun_mk (st := sStepped) l16 c16 k16
  have b16 := F16.binds (ps := ["step", "word"]) fun _ _ _ _ _ _ us hl => match us, hl with | [_, _], _ => rfl
  have g16 := PySem.W.mg_of inK atG a16
  have F17 := fun_mk (st := sCut) l17 c17 k17
  have b17 := F17.binds (ps := ["unit", "most", "word"]) fun _ _ _ _ _ _ us hl => match us, hl with | [_, _, _], _ => rfl
  have g17 := PySem.W.mg_of inK atG a17
  have F18 := fun_mk (st := sPassed) l18 c18 k18
  have b18 := F18.binds (ps := ["rows", "outs", "word"]) fun _ _ _ _ _ _ us hl => match us, hl with | [_, _, _], _ => rfl
  have g18 := PySem.W.mg_of inK atG a18
  have F19 := fun_mk (st := sSwapped) l19 c19 k19
  have b19 := F19.binds (ps := ["pairs", "word"]) fun _ _ _ _ _ _ us hl => match us, hl with | [_, _], _ => rfl
  have g19 := PySem.W.mg_of inK atG a19
  have F20 := fun_mk (st := sQErr) l20 c20 k20
  have b20 := F20.binds (ps := ["letters", "value"]) fun _ _ _ _ _ _ us hl => match us, hl with | [_, _], _ => rfl
  have g20 := PySem.W.mg_of inK atG a20
  have F21 := fun_mk (st := sQuery) l21 c21 k21
  have b21 := F21.binds (ps := ["letters", "value", "depth"]) fun _ _ _ _ _ _ us hl => match us, hl with | [_, _, _], _ => rfl
  have g21 := PySem.W.mg_of inK atG a21
  have F22 := fun_mk (st := sAnswers) l22 c22 k22
  have b22 := F22.binds (ps := ["comp", "query", "word"]) fun _ _ _ _ _ _ us hl => match us, hl with | [_, _, _], _ => rfl
  have g22 := PySem.W.mg_of inK atG a22
  have F23 := fun_mk (st := sDeck) l23 c23 k23
  have b23 := F23.binds (ps := ["_law_script"]) fun _ _ _ _ _ _ us hl => match us, hl with | [_], _ => rfl
  have g23 := PySem.W.mg_of inK atG a23
  have F24 := fun_mk (st := sDraw) l24 c24 k24
  have b24 := F24.binds (ps := ["_law_deck_here", "_law_most"]) fun _ _ _ _ _ _ us hl => match us, hl with | [_, _], _ => rfl
  have g24 := PySem.W.mg_of inK atG a24
  have F25 := fun_mk (st := sOne) l25 c25 k25
  have b25 := F25.binds (ps := ["_law_deck_here", "_law_items"]) fun _ _ _ _ _ _ us hl => match us, hl with | [_, _], _ => rfl
  have g25 := PySem.W.mg_of inK atG a25
  have F26 := fun_mk (st := sKind) l26 c26 k26
  have b26 := F26.binds (ps := ["_law_deck_here", "_law_letters", "_law_states"]) fun _ _ _ _ _ _ us hl => match us, hl with | [_, _, _], _ => rfl
  have g26 := PySem.W.mg_of inK atG a26
  have F27 := fun_mk (st := sStateL) l27 c27 k27
  have b27 := F27.binds (ps := ["_law_machine", "_law_word_here"]) fun _ _ _ _ _ _ us hl => match us, hl with | [_, _], _ => rfl
  have g27 := PySem.W.mg_of inK atG a27
  have F28 := fun_mk (st := sIsOfL) l28 c28 k28
  have b28 := F28.binds (ps := ["_law_machine", "_law_word_here"]) fun _ _ _ _ _ _ us hl => match us, hl with | [_, _], _ => rfl
  have g28 := PySem.W.mg_of inK atG a28
  have F29 := fun_mk (st := sStepL) l29 c29 k29
  have b29 := F29.binds (ps := ["_law_deck_here", "_law_letters", "_law_word_here"]) fun _ _ _ _ _ _ us hl => match us, hl with | [_, _, _], _ => rfl
  have g29 := PySem.W.mg_of inK atG a29
  have F30 := fun_mk (st := sSwapL) l30 c30 k30
  have b30 := F30.binds (ps := ["_law_deck_here", "_law_letters"]) fun _ _ _ _ _ _ us hl => match us, hl with | [_, _], _ => rfl
  have g30 := PySem.W.mg_of inK atG a30
  have F31 := fun_mk (st := sLineL) l31 c31 k31
  have b31 := F31.binds (ps := ["_law_deck_here", "_law_letters", "_law_most"]) fun _ _ _ _ _ _ us hl => match us, hl with | [_, _, _], _ => rfl
  have g31 := PySem.W.mg_of inK atG a31
  have F32 := fun_mk (st := sSteppedL) l32 c32 k32
  have b32 := F32.binds (ps := ["_law_step_here", "_law_word_here"]) fun _ _ _ _ _ _ us hl => match us, hl with | [_, _], _ => rfl
  have g32 := PySem.W.mg_of inK atG a32
  have F33 := fun_mk (st := sSwappedL) l33 c33 k33
  have b33 := F33.binds (ps := ["_law_pairs", "_law_word_here"]) fun _ _ _ _ _ _ us hl => match us, hl with | [_, _], _ => rfl
  have g33 := PySem.W.mg_of inK atG a33
  have F34 := fun_mk (st := sImageL) l34 c34 k34
  have b34 := F34.binds (ps := ["_law_line_here", "_law_word_here"]) fun _ _ _ _ _ _ us hl => match us, hl with | [_, _], _ => rfl
  have g34 := PySem.W.mg_of inK atG a34
  have F35 := fun_mk (st := sColsL) l35 c35 k35
  have b35 := F35.binds (ps := ["_law_letters"]) fun _ _ _ _ _ _ us hl => match us, hl with | [_], _ => rfl
  have g35 := PySem.W.mg_of inK atG a35
  have F36 := fun_mk (st := sComp) l36 c36 k36
  have b36 := F36.binds (ps := ["_law_deck_here", "_law_letters", "_law_many"]) fun _ _ _ _ _ _ us hl => match us, hl with | [_, _, _], _ => rfl
  have g36 := PySem.W.mg_of inK atG a36
  have F37 := fun_mk (st := sTellsL) l37 c37 k37
  have b37 := F37.binds (ps := ["_law_comp_here", "_law_one_here", "_law_other"]) fun _ _ _ _ _ _ us hl => match us, hl with | [_, _, _], _ => rfl
  have g37 := PySem.W.mg_of inK atG a37
  have F38 := fun_mk (st := sWordL) l38 c38 k38
  have b38 := F38.binds (ps := ["_law_deck_here", "_law_letters", "_law_most"]) fun _ _ _ _ _ _ us hl => match us, hl with | [_, _, _], _ => rfl
  have g38 := PySem.W.mg_of inK atG a38
  have F39 := fun_mk (st := sQueryL) l39 c39 k39
  have b39 := F39.binds (ps := ["_law_deck_here", "_law_letters", "_law_depth", "_law_has_passes"]) fun _ _ _ _ _ _ us hl => match us, hl with | [_, _, _, _], _ => rfl
  have g39 := PySem.W.mg_of inK atG a39
  have F40 := fun_mk (st := sAnswersL) l40 c40 k40
  have b40 := F40.binds (ps := ["_law_comp_here", "_law_query_here", "_law_word_here"]) fun _ _ _ _ _ _ us hl => match us, hl with | [_, _, _], _ => rfl
  have g40 := PySem.W.mg_of inK atG a40
  have F41 := fun_mk (st := sOther) l41 c41 k41
  have b41 := F41.binds (ps := ["_law_deck_here", "_law_value", "_law_deep"]) fun _ _ _ _ _ _ us hl => match us, hl with | [_, _, _], _ => rfl
  have g41 := PySem.W.mg_of inK atG a41
  have F42 := fun_mk (st := sWhole) l42 c42 k42
  have b42 := F42.binds (ps := ["_law_value", "_law_least", "_law_most"]) fun _ _ _ _ _ _ us hl => match us, hl with | [_, _, _], _ => rfl
  have g42 := PySem.W.mg_of inK atG a42
  have F43 := fun_mk (st := sIsQueryL) l43 c43 k43
  have b43 := F43.binds (ps := ["_law_letters", "_law_value", "_law_depth"]) fun _ _ _ _ _ _ us hl => match us, hl with | [_, _, _], _ => rfl
  have g43 := PySem.W.mg_of inK atG a43
  have F44 := fun_mk (st := sIsLineL) l44 c44 k44
  have b44 := F44.binds (ps := ["_law_letters", "_law_value"]) fun _ _ _ _ _ _ us hl => match us, hl with | [_, _], _ => rfl
  have g44 := PySem.W.mg_of inK atG a44
  have F45 := fun_mk (st := sIsKindL) l45 c45 k45
  have b45 := F45.binds (ps := ["_law_letters", "_law_value"]) fun _ _ _ _ _ _ us hl => match us, hl with | [_, _], _ => rfl
  have g45 := PySem.W.mg_of inK atG a45
  have F46 := fun_mk (st := sLaw) l46 c46 k46
  refine ⟨PySem.W.fnOf "law" "law" (defArgs sLaw) (defBody sLaw) (defScope sLaw) .none kVd46 dcd46 pmd46 and46 cdd46 ctd46, fun s v => .of_eq rfl, fun base _ _ => ?_⟩
  have I := ok_Integer (P := l.prog) (w := w) (mg := mg) (base := base) F0  T
  have N := ok_Number F1 I F0 b0 g0
  have W := ok_word (P := l.prog) (w := w) (mg := mg) (base := base) F2  T
  have U := ok_unit F3 N F1 b1 g1 T
  have G := ok_letter F11 W F2 b2 g2 T
  have R := ok_turning F12 N F1 b1 g1 T
  have P := ok_putting F13 G F11 b11 g11 T
  have S := ok_swapping F14 W F2 b2 g2 T
  have ST := ok_step F10 U F3 b3 g3 N F1 b1 g1 G F11 b11 g11 R F12 b12 g12 P F13 b13 g13 S F14 b14 g14 T
  have LE := ok_lErr F9 ST F10 b10 g10 T
  have RW := ok_isRow F7 N F1 b1 g1 T
  have ME := ok_merr F6 N F1 b1 g1 RW F7 b7 g7 T
  have SG := ok_sign (P := l.prog) (w := w) (mg := mg) (base := base) F5  T
  have TE := ok_tells F4 SG F5 b5 g5 T
  have IO := ok_isOf (P := l.prog) (w := w) (mg := mg) (base := base) F8  T
  have CU := ok_cut (P := l.prog) (w := w) (mg := mg) (base := base) F17  T
  have PA := ok_passed (P := l.prog) (w := w) (mg := mg) (base := base) F18  T
  have SP := ok_swapped (P := l.prog) (w := w) (mg := mg) (base := base) F19  T
  have SD := ok_stepped F16 CU F17 b17 g17 PA F18 b18 g18 SP F19 b19 g19 T
  have IM := ok_image F15 SD F16 b16 g16 T
  have IQ := ok_query F21 g21 b21 LE F9 b9 g9 W F2 b2 g2 ME F6 b6 g6 T 4
  have QE := ok_qErr F20 IQ F21 b21 g21 T
  obtain ⟨esV, nV, kdV⟩ := He.dicW_ok vd
  have VD : VDs K w mg dV esV nV := ⟨PySem.W.mg_of inK atG gV, kdV, ⟨_, v0⟩, ⟨_, v1⟩, ⟨_, v2⟩, w0, w1, w2, w3, w4, w5, w6⟩
  have AN := ok_answers (P := l.prog) (base := base) F22 g22 b22 TE F4 b4 g4 IO F8 b8 g8 IM F15 b15 g15 VD T 4
  have DK := ok_deck (P := l.prog) (w := w) (mg := mg) (base := base) F23 T.abs
  have D := ok_draw (P := l.prog) (w := w) (mg := mg) (base := base) F24 T.len T.int
  have O := ok_one F25 D F24 b24 g24 T.len
  have OS := ok_oneS F25 D F24 b24 g24 T.len
  have KI := ok_kindL F26 D F24 b24 g24 O F25 b25 g25 T
  have SS := ok_stateL (P := l.prog) (w := w) (mg := mg) (base := base) F27  T
  have IOL := ok_isOfL F28 SS F27 b27 g27 T
  have SW := ok_swapL F30 D F24 b24 g24 OS F25 b25 g25 T
  have SL := ok_stepL F29 D F24 b24 g24 O F25 b25 g25 OS F25 b25 g25 SW F30 b30 g30 T
  have LL := ok_lineL F31 D F24 b24 g24 O F25 b25 g25 SL F29 b29 g29 T
  have SWD := ok_swappedL (P := l.prog) (w := w) (mg := mg) (base := base) F33  T
  have STD := ok_steppedL F32 SWD F33 b33 g33 T
  have IML := ok_imageL F34 STD F32 b32 g32 T
  have CL := ok_colsL (P := l.prog) (w := w) (mg := mg) (base := base) F35  T
  have CP := ok_comp F36 D F24 b24 g24 O F25 b25 g25 CL F35 b35 g35 T
  have TEL := ok_tellsL F37 CL F35 b35 g35 T
  have WO := ok_wordL F38 D F24 b24 g24 OS F25 b25 g25 T
  have QD := ok_QD fun p n => ok_queryD (p := p) F39 g39 b39 D F24 b24 g24 O F25 b25 g25 OS F25 b25 g25 WO F38 b38 g38 KI F26 b26 g26 LL F31 b31 g31 T n
  have ANL := ok_answersL F40 g40 b40 TEL F37 b37 g37 IOL F28 b28 g28 IML F34 b34 g34 T 4
  have OT := ok_other F41 g41 b41 D F24 b24 g24 O F25 b25 g25 T 6
  have WH := ok_Whole (P := l.prog) (w := w) (mg := mg) (base := base) F42  T
  have IK := ok_isKindL F45 WH F42 b42 g42 T
  have IL := ok_isLineL F44 WH F42 b42 g42 T
  have IQL := ok_queryL F43 g43 b43 IL F44 b44 g44 IK F45 b45 g45 T 4
  exact ok_law F46 DK F23 b23 g23 D F24 b24 g24 O F25 b25 g25 QD F39 b39 g39 OT F41 b41 g41 QE F20 b20 g20 IQL F43 b43 g43 CP F36 b36 g36 WO F38 b38 g38 AN F22 b22 g22 ANL F40 b40 g40 T
end Ver
open PySem PySem.W PyProof.Rows in
set_option maxRecDepth 100000 in
set_option maxHeartbeats 0 in
theorem PySem.Challenge.cw_sortedshelves_k50_queries_with_errors_holds : PySem.Challenge.rw_sortedshelves_k50_queries_with_errors.Holds := by
  w_on; o_law; k_head; (case hw => w_witness2)
  k_fill
  refine Ver.gwalk (l := PySem.Challenge.rw_sortedshelves_k50_queries_with_errors) (n := 63) (k := 12) (x := "_law_script") (sp := fun w => Ver.spLaw _) rfl (by decide) rfl ⟨rfl, by decide, by decide⟩ (fun w h Y => PySem.W.kIn_of Y) ?F (fun _ _ a ns hl hS => ⟨a, ns, rfl, hS, hl, fun _ => rfl⟩)
  case F =>
    intro w mg fa h inK atG hmg
    refine' Ver.all_mk inK atG hmg ?a0 ?l0 ?c0 ?k0 ?a1 ?l1 ?c1 ?k1 ?a2 ?l2 ?c2 ?k2 ?a3 ?l3 ?c3 ?k3 ?a4 ?l4 ?c4 ?k4 ?a5 ?l5 ?c5 ?k5 ?a6 ?l6 ?c6 ?k6 ?a7 ?l7 ?c7 ?k7 ?a8 ?l8 ?c8 ?k8 ?a9 ?l9 ?c9 ?k9 ?a10 ?l10 ?c10 ?k10 ?a11 ?l11 ?c11 ?k11 ?a12 ?l12 ?c12 ?k12 ?a13 ?l13 ?c13 ?k13 ?a14 ?l14 ?c14 ?k14 ?a15 ?l15 ?c15 ?k15 ?a16 ?l16 ?c16 ?k16 ?a17 ?l17 ?c17 ?k17 ?a18 ?l18 ?c18 ?k18 ?a19 ?l19 ?c19 ?k19 ?a20 ?l20 ?c20 ?k20 ?a21 ?l21 ?c21 ?k21 ?a22 ?l22 ?c22 ?k22 ?a23 ?l23 ?c23 ?k23 ?a24 ?l24 ?c24 ?k24 ?a25 ?l25 ?c25 ?k25 ?a26 ?l26 ?c26 ?k26 ?a27 ?l27 ?c27 ?k27 ?a28 ?l28 ?c28 ?k28 ?a29 ?l29 ?c29 ?k29 ?a30 ?l30 ?c30 ?k30 ?a31 ?l31 ?c31 ?k31 ?a32 ?l32 ?c32 ?k32 ?a33 ?l33 ?c33 ?k33 ?a34 ?l34 ?c34 ?k34 ?a35 ?l35 ?c35 ?k35 ?a36 ?l36 ?c36 ?k36 ?a37 ?l37 ?c37 ?k37 ?a38 ?l38 ?c38 ?k38 ?a39 ?l39 ?c39 ?k39 ?a40 ?l40 ?c40 ?k40 ?a41 ?l41 ?c41 ?k41 ?a42 ?l42 ?c42 ?k42 ?a43 ?l43 ?c43 ?k43 ?a44 ?l44 ?c44 ?k44 ?a45 ?l45 ?c45 ?k45 ?a46 ?l46 ?c46 ?k46 ?z0 ?z1 ?z2 ?z3 ?z4 ?z5 ?z6 ?z7 ?z8 ?z9 ?z10 ?z11 ?z12 ?z13 ?z14 ?z15 ?m0 ?m1 ?m2 ?m3 ?m4 ?m5 ?m6 ?m7 ?m8 ?m9 ?m10 ?m11 ?m12 ?m13 ?gV ?vd ?v0 ?v1 ?v2 ?w0 ?w1 ?w2 ?w3 ?w4 ?w5 ?w6
    (case a0 => k_is)
    (case l0 => k_is)
    (case c0 => k_is)
    (case k0 => k_is)
    (case a1 => k_is)
    (case l1 => k_is)
    (case c1 => k_is)
    (case k1 => k_is)
    (case a2 => k_is)
    (case l2 => k_is)
    (case c2 => k_is)
    (case k2 => k_is)
    (case a3 => k_is)
    (case l3 => k_is)
    (case c3 => k_is)
    (case k3 => k_is)
    (case a4 => k_is)
    (case l4 => k_is)
    (case c4 => k_is)
    (case k4 => k_is)
    (case a5 => k_is)
    (case l5 => k_is)
    (case c5 => k_is)
    (case k5 => k_is)
    (case a6 => k_is)
    (case l6 => k_is)
    (case c6 => k_is)
    (case k6 => k_is)
    (case a7 => k_is)
    (case l7 => k_is)
    (case c7 => k_is)
    (case k7 => k_is)
    (case a8 => k_is)
    (case l8 => k_is)
    (case c8 => k_is)
    (case k8 => k_is)
    (case a9 => k_is)
    (case l9 => k_is)
    (case c9 => k_is)
    (case k9 => k_is)
    (case a10 => k_is)
    (case l10 => k_is)
    (case c10 => k_is)
    (case k10 => k_is)
    (case a11 => k_is)
    (case l11 => k_is)
    (case c11 => k_is)
    (case k11 => k_is)
    (case a12 => k_is)
    (case l12 => k_is)
    (case c12 => k_is)
    (case k12 => k_is)
    (case a13 => k_is)
    (case l13 => k_is)
    (case c13 => k_is)
    (case k13 => k_is)
    (case a14 => k_is)
    (case l14 => k_is)
    (case c14 => k_is)
    (case k14 => k_is)
    (case a15 => k_is)
    (case l15 => k_is)
    (case c15 => k_is)
    (case k15 => k_is)
    (case a16 => k_is)
    (case l16 => k_is)
    (case c16 => k_is)
    (case k16 => k_is)
    (case a17 => k_is)
    (case l17 => k_is)
    (case c17 => k_is)
    (case k17 => k_is)
    (case a18 => k_is)
    (case l18 => k_is)
    (case c18 => k_is)
    (case k18 => k_is)
    (case a19 => k_is)
    (case l19 => k_is)
    (case c19 => k_is)
    (case k19 => k_is)
    (case a20 => k_is)
    (case l20 => k_is)
    (case c20 => k_is)
    (case k20 => k_is)
    (case a21 => k_is)
    (case l21 => k_is)
    (case c21 => k_is)
    (case k21 => k_is)
    (case a22 => k_is)
    (case l22 => k_is)
    (case c22 => k_is)
    (case k22 => k_is)
    (case a23 => k_is)
    (case l23 => k_is)
    (case c23 => k_is)
    (case k23 => k_is)
    (case a24 => k_is)
    (case l24 => k_is)
    (case c24 => k_is)
    (case k24 => k_is)
    (case a25 => k_is)
    (case l25 => k_is)
    (case c25 => k_is)
    (case k25 => k_is)
    (case a26 => k_is)
    (case l26 => k_is)
    (case c26 => k_is)
    (case k26 => k_is)
    (case a27 => k_is)
    (case l27 => k_is)
    (case c27 => k_is)
    (case k27 => k_is)
    (case a28 => k_is)
    (case l28 => k_is)
    (case c28 => k_is)
    (case k28 => k_is)
    (case a29 => k_is)
    (case l29 => k_is)
    (case c29 => k_is)
    (case k29 => k_is)
    (case a30 => k_is)
    (case l30 => k_is)
    (case c30 => k_is)
    (case k30 => k_is)
    (case a31 => k_is)
    (case l31 => k_is)
    (case c31 => k_is)
    (case k31 => k_is)
    (case a32 => k_is)
    (case l32 => k_is)
    (case c32 => k_is)
    (case k32 => k_is)
    (case a33 => k_is)
    (case l33 => k_is)
    (case c33 => k_is)
    (case k33 => k_is)
    (case a34 => k_is)
    (case l34 => k_is)
    (case c34 => k_is)
    (case k34 => k_is)
    (case a35 => k_is)
    (case l35 => k_is)
    (case c35 => k_is)
    (case k35 => k_is)
    (case a36 => k_is)
    (case l36 => k_is)
    (case c36 => k_is)
    (case k36 => k_is)
    (case a37 => k_is)
    (case l37 => k_is)
    (case c37 => k_is)
    (case k37 => k_is)
    (case a38 => k_is)
    (case l38 => k_is)
    (case c38 => k_is)
    (case k38 => k_is)
    (case a39 => k_is)
    (case l39 => k_is)
    (case c39 => k_is)
    (case k39 => k_is)
    (case a40 => k_is)
    (case l40 => k_is)
    (case c40 => k_is)
    (case k40 => k_is)
    (case a41 => k_is)
    (case l41 => k_is)
    (case c41 => k_is)
    (case k41 => k_is)
    (case a42 => k_is)
    (case l42 => k_is)
    (case c42 => k_is)
    (case k42 => k_is)
    (case a43 => k_is)
    (case l43 => k_is)
    (case c43 => k_is)
    (case k43 => k_is)
    (case a44 => k_is)
    (case l44 => k_is)
    (case c44 => k_is)
    (case k44 => k_is)
    (case a45 => k_is)
    (case l45 => k_is)
    (case c45 => k_is)
    (case k45 => k_is)
    (case a46 => k_is)
    (case l46 => k_is)
    (case c46 => k_is)
    (case k46 => k_is)
    (case z0 => k_is)
    (case z1 => k_is)
    (case z2 => k_is)
    (case z3 => k_is)
    (case z4 => k_is)
    (case z5 => k_is)
    (case z6 => k_is)
    (case z7 => k_is)
    (case z8 => k_is)
    (case z9 => k_is)
    (case z10 => k_is)
    (case z11 => k_is)
    (case z12 => k_is)
    (case z13 => k_is)
    (case z14 => k_is)
    (case z15 => k_is)
    (case m0 => k_is)
    (case m1 => k_is)
    (case m2 => k_is)
    (case m3 => k_is)
    (case m4 => k_is)
    (case m5 => k_is)
    (case m6 => k_is)
    (case m7 => k_is)
    (case m8 => k_is)
    (case m9 => k_is)
    (case m10 => k_is)
    (case m11 => k_is)
    (case m12 => k_is)
    (case m13 => k_is)
    (case gV => k_is)
    (case vd => first | kernel_rfl | k_is | rfl)
    (case v0 => k_is)
    (case v1 => k_is)
    (case v2 => k_is)
    (case w0 => k_is)
    (case w1 => k_is)
    (case w2 => k_is)
    (case w3 => k_is)
    (case w4 => k_is)
    (case w5 => k_is)
    (case w6 => k_is)
#print axioms PySem.Challenge.cw_sortedshelves_k50_queries_with_errors_holds
