import PyProof.Rows.All
import Wide.All
import OpenK.AllK
import Wide.FinOn
import PyProof.ReprRoads
import PyProof.ReprLen
import HandS.ForMost
import HandS.Conv
import HandS.IsInst
import HandS.TupAny
import HandS.TupMul
import HandS.Wide
import HandS.Style
import HandS.Evl
import HandS.Strs
import HandS.Codes
import HandS.StrMore
import HandS.Replace
import PySem.Challenge.RW_sortedshelves_k18_heights_and_what_are_n
import PyProof.ReprLen
import KE.GoesMore
import HandS.Walk
import HandS.Small
set_option Elab.async false
set_option linter.all false
set_option maxRecDepth 100000
set_option maxHeartbeats 4000000
namespace Ver
open PySem PySem.Spec PyProof.Rows L2
set_option pp.maxSteps 60
set_option pp.deepTerms false

/-! ### data as it lies in the heap, apart from the addresses in B -/
mutual
inductive Dt (B : Addr → Prop) (K : PySem.W.Frag) (H : Hp) : V → PyData → Prop
  | non : Dt B K H .non .none
  | bl (b : Bool) : Dt B K H (.bl b) (.bool b)
  | int (i : Int) : Dt B K H (.int i) (.int i)
  | str (x : Str) : Dt B K H (.str x) (.str x)
  | lst {a : Addr} {xs : List V} {ds : List PyData} (nb : ¬ B a) (ne : a ≠ sysModules) (hs : Rd H a (.lst xs)) (ha : DtAll B K H xs ds) : Dt B K H (.ref a) (.list ds)
  | tup {a : Addr} {xs : List V} {ds : List PyData} (nb : ¬ B a) (hs : Rd H a (.tup xs)) (ha : DtAll B K H xs ds) : Dt B K H (.ref a) (.tuple ds)
  | emp {a : Addr} (nb : ¬ B a) (h : H a = some (.dK [])) : Dt B K H (.ref a) (.dict [])
inductive DtAll (B : Addr → Prop) (K : PySem.W.Frag) (H : Hp) : List V → List PyData → Prop
  | nil : DtAll B K H [] []
  | cons {v : V} {vs : List V} {d : PyData} {ds : List PyData} (hd : Dt B K H v d) (tl : DtAll B K H vs ds) : DtAll B K H (v :: vs) (d :: ds)
end

/-- all that is tracked outside of B stays -/
def Keep (B : Addr → Prop) (H H' : Hp) : Prop := ∀ b o, ¬ B b → H b = some o → H' b = some o
theorem Keep.rfl' {B : Addr → Prop} {H : Hp} : Keep B H H := fun _ _ _ e => e
theorem Keep.trans {B : Addr → Prop} {H H1 H2 : Hp} (x : Keep B H H1) (y : Keep B H1 H2) : Keep B H H2 := fun b o n e => y b o n (x b o n e)
theorem Keep.same {B : Addr → Prop} {H H' : Hp} (x : Same H H') : Keep B H H' := fun b o _ e => x b o e
theorem keep_new {B : Addr → Prop} {H : Hp} {p : Addr} {o : HO} (n : H p = none) : Keep B H (upd H p o) := fun b u _ e => by
  rw [upd_ne (ne_of_none e n)]
  exact e
theorem same_new {H : Hp} {p : Addr} {o : HO} (n : H p = none) : Same H (upd H p o) := fun b u e => by
  rw [upd_ne (ne_of_none e n)]
  exact e
theorem Keep.rd {B : Addr → Prop} {H H' : Hp} {a : Addr} {o : HO} (k : Keep B H H') (nb : ¬ B a) (h : Rd H a o) : Rd H' a o := by
  rcases h with h | ⟨u, h⟩
  · exact .inl (k _ _ nb h)
  · exact .inr ⟨u, k _ _ nb h⟩
theorem Keep.seqL {B : Addr → Prop} {K : PySem.W.Frag} {H H' : Hp} {a : Addr} {xs : List V} (k : Keep B H H') (nb : ¬ B a) (h : SqL K H a xs) : SqL K H' a xs := by
  rcases h with (h | ⟨o, h⟩) | h
  · exact .inl (.inl (k _ _ nb h))
  · exact .inl (.inr ⟨o, k _ _ nb h⟩)
  · exact .inr h
theorem Keep.seqT {B : Addr → Prop} {K : PySem.W.Frag} {H H' : Hp} {a : Addr} {xs : List V} (k : Keep B H H') (nb : ¬ B a) (h : SqT K H a xs) : SqT K H' a xs := by
  rcases h with (h | ⟨o, h⟩) | h
  · exact .inl (.inl (k _ _ nb h))
  · exact .inl (.inr ⟨o, k _ _ nb h⟩)
  · exact .inr h
mutual
theorem Dt.keep {B : Addr → Prop} {K : PySem.W.Frag} {H H' : Hp} (k : Keep B H H') : ∀ (d : PyData) (v : V), Dt B K H v d → Dt B K H' v d
  | .none, _, h => by cases h; exact .non
  | .bool _, _, h => by cases h; exact .bl _
  | .int _, _, h => by cases h; exact .int _
  | .str _, _, h => by cases h; exact .str _
  | .list ds, _, h => by
    cases h with
    | lst nb ne hs ha => exact .lst nb ne (k.rd nb hs) (DtAll.keep k ds _ ha)
  | .tuple ds, _, h => by
    cases h with
    | tup nb hs ha => exact .tup nb (k.rd nb hs) (DtAll.keep k ds _ ha)
  | .dict _, _, h => by
    cases h with
    | emp nb e => exact .emp nb (k _ _ nb e)
theorem DtAll.keep {B : Addr → Prop} {K : PySem.W.Frag} {H H' : Hp} (k : Keep B H H') : ∀ (ds : List PyData) (vs : List V), DtAll B K H vs ds → DtAll B K H' vs ds
  | [], _, h => by cases h; exact .nil
  | d :: ds, _, h => by
    cases h with
    | cons h1 h2 => exact .cons (Dt.keep k d _ h1) (DtAll.keep k ds _ h2)
end
theorem DtAll.len {B : Addr → Prop} {K : PySem.W.Frag} {H : Hp} : ∀ {vs : List V} {ds : List PyData}, DtAll B K H vs ds → vs.length = ds.length
  | _, _, .nil => rfl
  | _, _, .cons _ t => congrArg (· + 1) (DtAll.len t)
theorem DtAll.append {B : Addr → Prop} {K : PySem.W.Frag} {H : Hp} : ∀ {vs ws : List V} {ds es : List PyData}, DtAll B K H vs ds → DtAll B K H ws es → DtAll B K H (vs ++ ws) (ds ++ es)
  | _, _, _, _, .nil, q => q
  | _, _, _, _, .cons r t, q => .cons r (DtAll.append t q)
theorem DtAll.take {B : Addr → Prop} {K : PySem.W.Frag} {H : Hp} : ∀ {vs : List V} {ds : List PyData} (n : Nat), DtAll B K H vs ds → DtAll B K H (vs.take n) (ds.take n)
  | _, _, 0, _ => .nil
  | _, _, _ + 1, .nil => .nil
  | _, _, n + 1, .cons r t => .cons r (DtAll.take n t)
theorem DtAll.drop {B : Addr → Prop} {K : PySem.W.Frag} {H : Hp} : ∀ {vs : List V} {ds : List PyData} (n : Nat), DtAll B K H vs ds → DtAll B K H (vs.drop n) (ds.drop n)
  | _, _, 0, h => h
  | _, _, _ + 1, .nil => .nil
  | _, _, n + 1, .cons _ t => DtAll.drop n t
theorem DtAll.get {B : Addr → Prop} {K : PySem.W.Frag} {H : Hp} : ∀ {vs : List V} {ds : List PyData} {i : Nat} {d : PyData}, DtAll B K H vs ds → ds[i]? = some d → ∃ v, vs[i]? = some v ∧ Dt B K H v d
  | _, _, _, _, .nil, e => by simp at e
  | _, _, 0, _, .cons r _, e => by
    simp at e
    subst e
    exact ⟨_, rfl, r⟩
  | _, _, i + 1, _, .cons _ t, e => by
    obtain ⟨v, h1, h2⟩ := DtAll.get (i := i) t (by simpa using e)
    exact ⟨v, by simpa using h1, h2⟩
theorem DtAll.getV {B : Addr → Prop} {K : PySem.W.Frag} {H : Hp} : ∀ {vs : List V} {ds : List PyData} {i : Nat} {v : V}, DtAll B K H vs ds → vs[i]? = some v → ∃ d, ds[i]? = some d ∧ Dt B K H v d
  | _, _, _, _, .nil, e => by simp at e
  | _, _, 0, _, .cons r _, e => by
    simp at e
    subst e
    exact ⟨_, rfl, r⟩
  | _, _, i + 1, _, .cons _ t, e => by
    obtain ⟨v, h1, h2⟩ := DtAll.getV (i := i) t (by simpa using e)
    exact ⟨v, by simpa using h1, h2⟩
theorem DtAll.rev {B : Addr → Prop} {K : PySem.W.Frag} {H : Hp} : ∀ {vs : List V} {ds : List PyData}, DtAll B K H vs ds → DtAll B K H vs.reverse ds.reverse
  | _, _, .nil => .nil
  | _, _, .cons r t => by
    rw [List.reverse_cons, List.reverse_cons]
    exact (DtAll.rev t).append (.cons r .nil)
theorem DtAll.rep {B : Addr → Prop} {K : PySem.W.Frag} {H : Hp} {v : V} {d : PyData} (h : Dt B K H v d) : ∀ n : Nat, DtAll B K H (List.replicate n v) (List.replicate n d)
  | 0 => .nil
  | n + 1 => .cons h (DtAll.rep h n)

section
variable {X : Cx} {pins : List (Addr × Obj)} {σ : L2.St} {H : Hp} {s : Shared}
theorem no_entries {knd : KeyKind X.prog X.w Key} {es : List DictEntry} (h : PySem.Pairs knd es ([] : List (Key × Value))) : es = [] := by
  cases h
  rfl
mutual
theorem Dt.reads {B : Addr → Prop} (I : Inv X pins σ H s) : ∀ (d : PyData) (v : V) (u : Value), Dt B X.K H v d → RelV v u → ∃ as, Reads s.heap u d as ∧ sysModules ∉ as
  | .none, _, _, h, r => by
    cases h
    cases r
    exact ⟨[], .none, List.not_mem_nil⟩
  | .bool b, _, _, h, r => by
    cases h
    cases r
    exact ⟨[], .bool b, List.not_mem_nil⟩
  | .int i, _, _, h, r => by
    cases h
    obtain ⟨t, rfl⟩ := r
    exact ⟨[], .int i t, List.not_mem_nil⟩
  | .str x, _, _, h, r => by
    cases h
    obtain ⟨t, rfl⟩ := r
    exact ⟨[], .str x t, List.not_mem_nil⟩
  | .list ds, _, _, h, r => by
    cases h with
    | lst nb ne hs ha =>
      cases r
      obtain ⟨its, rv, ⟨ob, n, ho, hc, _, hd⟩, _⟩ := I.list (.inl hs)
      obtain ⟨as, hr, hn⟩ := DtAll.reads I ds _ its ha rv
      refine ⟨_, .list ho hc hd hr, fun z => ?_⟩
      rcases List.mem_cons.mp z with z | z
      · exact ne z.symm
      · exact hn z
  | .tuple ds, _, _, h, r => by
    cases h with
    | tup nb hs ha =>
      cases r
      obtain ⟨its, rv, ⟨ob, ho, hc, n, hd⟩, _⟩ := I.tuple (.inl hs)
      obtain ⟨as, hr, hn⟩ := DtAll.reads I ds _ its ha rv
      exact ⟨_, .tuple ho hc hd hr, hn⟩
  | .dict _, _, _, h, r => by
    cases h with
    | emp nb e =>
      cases r
      obtain ⟨_, hm, vs, rel, ob, es, ep, ho, hx, hd, _, hp, _⟩ := dk_of I.hok e
      cases rel
      have he := no_entries hp
      refine ⟨_, .dict (kvs := []) ho hx.1 hd (by rw [he]; exact .nil) (by rw [he]; exact .nil), fun z => ?_⟩
      rcases List.mem_cons.mp z with z | z
      · rw [← z] at hm
        simp at hm
      · simp at z
theorem DtAll.reads {B : Addr → Prop} (I : Inv X pins σ H s) : ∀ (ds : List PyData) (vs : List V) (us : List Value), DtAll B X.K H vs ds → Vals vs us → ∃ as, ReadsAll s.heap us ds as ∧ sysModules ∉ as
  | [], _, _, h, r => by
    cases h
    cases r
    exact ⟨[], .nil, List.not_mem_nil⟩
  | d :: ds, _, _, h, r => by
    cases h with
    | cons h1 h2 =>
      cases r with
      | cons r1 r2 =>
        obtain ⟨as, q1, n1⟩ := Dt.reads I d _ _ h1 r1
        obtain ⟨bs, q2, n2⟩ := DtAll.reads I ds _ _ h2 r2
        refine ⟨_, .cons q1 q2, fun z => ?_⟩
        rcases List.mem_append.mp z with z | z
        · exact n1 z
        · exact n2 z
end
end

/-! ### repr -/
section
variable {X : Cx}
def rRepr (K : PySem.W.Frag) : List V → Hp → VK → Prop := fun xs H Q => ∃ (x : V) (d : PyData) (B : Addr → Prop), xs = [x] ∧ Dt B K H x d ∧ d.showable = true ∧ d.depth ≤ 60 ∧ d.shown.length ≤ sizeLine ∧ Q (.str d.shown) H
theorem call_reprD (hG : X.A.guards = some []) (hu : X.A.units + 64 < cLine) : CallR X (.builtin "repr") (rRepr X.K) := by
  intro pins s σ H xs us Q I r h
  obtain ⟨x, d, B, rfl, hd, hs, hdp, hz, q⟩ := h
  obtain ⟨u, rfl, rx⟩ := vals1 r
  obtain ⟨as, rd, hn⟩ := Dt.reads I d x u hd rx
  cases hd with
  | non =>
    cases rx
    exact PySem.P.repr_of_none ⟨.str _, H, I.tok _, ⟨_, rfl⟩, q⟩
  | bl b =>
    cases rx
    exact PySem.P.repr_of_bool ⟨.str _, H, I.tok _, ⟨_, rfl⟩, q⟩
  | int i =>
    obtain ⟨t, rfl⟩ := rx
    exact PySem.P.repr_of_int (by simpa [PyData.showable] using hs) ⟨.str _, H, I.tok _, ⟨_, rfl⟩, q⟩
  | str y =>
    obtain ⟨t, rfl⟩ := rx
    exact PySem.P.repr_of_str ⟨.str _, H, I.tok _, ⟨_, rfl⟩, q⟩ (by simpa only [PyData.shown] using hz)
  | lst nb ne hs' ha =>
    cases rx
    exact repr_of_reads' rd hs (fun _ => hn) hG (by omega) (fun _ _ e => e) (fun h' u tk hk => ⟨.str _, H, I.kept hk, ⟨_, rfl⟩, q⟩) hz
  | tup nb hs' ha =>
    cases rx
    exact repr_of_reads' rd hs (fun _ => hn) hG (by omega) (fun _ _ e => e) (fun h' u tk hk => ⟨.str _, H, I.kept hk, ⟨_, rfl⟩, q⟩) hz
  | emp nb e =>
    cases rx
    exact repr_of_reads' rd hs (fun _ => hn) hG (by omega) (fun _ _ e => e) (fun h' u tk hk => ⟨.str _, H, I.kept hk, ⟨_, rfl⟩, q⟩) hz
end

/-! ### a def called where nothing is being shown (no repr under way) -/
section
variable {P : Program} {w : World} {K : PySem.W.Frag} {mg : Str → Option Value} {base : Heap}
def GRun (P : Program) (w : World) (K : PySem.W.Frag) (mg : Str → Option Value) (base : Heap) (k : Nat) (f : Addr) (fd : FuncData) (ps : List Str) (sp : Sp) : Prop :=
  ∀ (A : Around) (outer : List Env) (s : Shared) (H : Hp) (us : List Value) (vs : List V) (Q : VK),
    A.guards = some [] → Room k A → Env0 P w K mg base A outer s H → BindsTo s fd ⟨us, []⟩ (ps.zip us) → Vals vs us → vs.length = ps.length → sp vs H Q E0 →
    codeAny (model P w) A (.call (.ref f) ⟨us, []⟩) (CR CX0 outer P w H s Q E0) s
theorem grun {x qual : Str} {st : Stmt} {f : Addr} {fd : FuncData} {N ps : List Str} {k : Nat} {sp : Sp} (F : Fun K x qual st f fd) (S : FnScope N ps (defScope st))
    (body : ∀ (cdv : Value) (A : Around) (outer : List Env) (s : Shared) (H : Hp) (vs : List V) (Q : VK), A.guards = some [] → Room k (A.deeper (envOfC qual (defScope st) s.heap.objs.size f cdv)) → sp vs H Q E0 →
      ∃ t, PSs (cxOf CX0 P w K mg base N qual (defScope st) f cdv A outer s H E0).nox (defBody st) t ∧ t { nx := fun _ H' => Q .non H', rt := Q } (start N vs) H) :
    GRun P w K mg base (k + 1) f fd ps sp := by
  obtain ⟨oc, od, kV, doc, pm, an, cdv, ct, osl, rfl, lk, hcd⟩ := F.ex
  intro A outer s H us vs Q hG hr e0 hb r hl hsp
  have inK : K.In s.heap := e0.mod.kin.keeps (fun b o q => (e0.bs b o q).1)
  have noL : s.heap.NoLimit := e0.mod.nolimit.keeps (fun b o q => (e0.bs b o q).1)
  have kinds : ∀ y ∈ ps.zip us, (defScope st).names.lookup y.1 = some .local ∨ ((defScope st).names.lookup y.1 = some .cell ∧ ((cellsFrom (s.heap.objs.size + 1) (defScope st).names []).lookup y.1).isSome = true) := by
    intro y hy
    obtain ⟨n, v⟩ := y
    cases S.par n (List.of_mem_zip hy).1 with
    | inl q => exact Or.inl q
    | inr q => exact Or.inr ⟨q, PySem.W.cellsFrom_some _ _ _ (Or.inl q)⟩
  refine codeAny_call_function hr.depth (inK _ _ lk) rfl S.co S.gen rfl (PySem.W.codeRec_of inK hcd) (hb _ _ _ _ ?_)
  refine wpAny_newFunctionEnv_cells S.kind kinds (fun env he s1 x => ?_)
  cases he
  obtain ⟨t, ht, hq⟩ := body cdv A outer s H vs Q hG (hr.deeper _) hsp
  have J := inv_start (CX := CX0) (mg := mg) (E := E0) S hr.hd e0 hl r x
  refine ⟨noL.keeps x.toInCall.keep, codeAny_func (wpAny_mono (ht.nox.run [] s1 (start N vs) H _ J hq) ?_ (fun e s' z => z))⟩
  intro fl s' z
  cases fl with
  | next =>
    obtain ⟨_, H', J', q⟩ := z
    exact ⟨.non, H', J'.os, J'.bare, J'.base, J'.hok, rfl, q⟩
  | ret u =>
    obtain ⟨v, _, H', J', rv, q⟩ := z
    exact ⟨v, H', J'.os, J'.bare, J'.base, J'.hok, rv, q⟩
  | brk => exact (z.choose_spec.choose_spec.2).elim
  | cont => exact (z.choose_spec.choose_spec.2).elim

/-- called from outside with the object at a, the def at fa answers True and leaves what stood -/
abbrev TrueAt (P : Program) (w : World) (fa a : Addr) (t : Shared) : Prop :=
  codeAny (model P w) callerA (.call (.ref fa) ⟨[.ref a], []⟩)
    (fun r u => r = .ok (.ret (.bool true)) ∧
      OldK t.heap u.heap ∧ u.os = t.os ∧ AllBare u.gens) t
/-- nothing but one list of ints, known, is tracked -/
theorem gcall {k : Nat} {fa a : Addr} {fd : FuncData} {x : Str} {sp : Sp} {s₁ : Shared} {mb : Str → Option Value} {H : Hp}
    (inH : K.In s₁.heap) (atG : s₁.heap.Ns mainGlobals mg) (hb : s₁.heap.Ns builtinsNs mb) (bB : ∀ x : Str, x ≠ "__name__" → mb x = bootBuiltins x) (lim : s₁.heap.NoLimit) (hg : s₁.gens = #[])
    (hr : Room k callerA) (R : ∀ base : Heap, K.In base → base.Ns mainGlobals mg → GRun P w K mg base k fa fd [x] sp) (bind : ∀ (s : Shared) (u : Value), BindsTo s fd ⟨[u], []⟩ [(x, u)])
    (hok : HOk P w H s₁.heap) (only : ∀ b o, H b = some o → b = a ∧ (∃ ob xs, o = .frz ob (.lst xs) ∧ ∀ es ep, ob.data ≠ .dict es ep) ∧ K.lookup a = none)
    (hsp : sp [.ref a] H (fun v _ => v = .bl true) E0) :
    TrueAt P w fa a s₁ := by
  have plain : ∀ {b : Addr} {o : Obj} {es : Array DictEntry} {ep : Nat}, s₁.heap.get? b = some o → o.data = .dict es ep → H b = none := by
    intro b o es ep q d
    cases z : H b with
    | none => rfl
    | some u =>
      obtain ⟨_, ⟨ob, xs, rfl, nd⟩, _⟩ := only b u z
      obtain ⟨q2, _⟩ := hok b _ z
      rw [q] at q2
      cases q2
      exact absurd d (nd es ep)
  have nsB : ∀ {b : Addr} {m : Str → Option Value}, s₁.heap.Ns b m → (hidT s₁.heap H).Ns b m := by
    rintro b m ⟨o, es, ep, q, d, r⟩
    exact ⟨o, es, ep, hidT_get q (plain q d), d, r⟩
  have kB : K.In (hidT s₁.heap H) := by
    intro b o q
    refine hidT_get (inH b o q) ?_
    cases z : H b with
    | none => rfl
    | some u =>
      obtain ⟨e, _, n⟩ := only b u z
      rw [e, n] at q
      cases q
  have md : L2.Mod K mg (hidT s₁.heap H) := by
    obtain ⟨mc, l1, l2⟩ := lim
    exact ⟨kB, nsB atG, ⟨mb, nsB hb, bB⟩, ⟨mc, nsB l1, l2⟩⟩
  have env : Env0 P w K mg (hidT s₁.heap H) callerA [] s₁ H :=
    { frames := rfl, mod := md, bs := fun b o q => of_hidT q, bsz := Nat.le_of_eq (hidT_size _ _), funs := trivial, frf := fun b z => absurd z List.not_mem_nil, hok := hok, bare := .of_eq hg }
  have run := R _ kB (nsB atG) callerA [] s₁ H [.ref a] [.ref a] _ rfl hr env (bind s₁ (.ref a)) (.cons rfl .nil) rfl hsp
  refine codeAny_mono run (fun r s' z => ?_)
  match r, z with
  | .error _, z => exact z.elim
  | .ok .next, z => exact z.elim
  | .ok .brk, z => exact z.elim
  | .ok .cont, z => exact z.elim
  | .ok (.ret u), ⟨v, H', os, bare, un, hok', rv, q⟩ =>
    have q : v = .bl true := q
    cases q
    have rv : u = Value.bool true := rv
    cases rv
    refine ⟨rfl, .of_keep (fun b o e => ?_), os, bare⟩
    cases z : H b with
    | none => exact un.keep b o e z List.not_mem_nil List.not_mem_nil
    | some u =>
      obtain ⟨_, ⟨ob, xs, rfl, _⟩, _⟩ := only b u z
      have g1 := (hok b _ z).1
      have g2 := (hok' b _ (un.frzs b ob _ z)).1
      rw [e] at g1
      cases g1
      exact g2
/-- the law's call, the script tracked or written -/
theorem glaw {k : Nat} {fa a : Addr} {fd : FuncData} {x : Str} {sp : Sp} {s₁ : Shared} {mb : Str → Option Value} {vs : List Value} {ns : List Int}
    (inH : K.In s₁.heap) (atG : s₁.heap.Ns mainGlobals mg) (hb : s₁.heap.Ns builtinsNs mb) (bB : ∀ x : Str, x ≠ "__name__" → mb x = bootBuiltins x) (lim : s₁.heap.NoLimit) (hg : s₁.gens = #[])
    (ha : s₁.heap.get? a = some { cls := .type "list", data := .seq vs.toArray }) (hi : IntsAre vs ns) (hl : ns.length ≤ sizeLine)
    (hr : Room k callerA) (R : ∀ base : Heap, K.In base → base.Ns mainGlobals mg → GRun P w K mg base k fa fd [x] sp) (bind : ∀ (s : Shared) (u : Value), BindsTo s fd ⟨[u], []⟩ [(x, u)])
    (hsp : ∀ H : Hp, SqL K H a (ns.map V.int) → sp [.ref a] H (fun v _ => v = .bl true) E0) :
    TrueAt P w fa a s₁ := by
  have rv := vals_ints hi
  cases q : K.lookup a with
  | some o =>
    have e := (inH a o q).symm.trans ha
    cases e
    refine gcall (H := fun _ => none) inH atG hb bB lim hg hr R bind (fun b u z => by cases z) (fun b u z => by cases z) (hsp _ (.inr ⟨_, vs.toArray, _, q, rfl, rfl, rfl, ?_, by simpa using rv⟩))
    rw [List.size_toArray, hi.length]
    exact hl
  | none =>
    have tr : ∀ b u, upd (fun _ => none) a (.frz { cls := .type "list", data := .seq vs.toArray } (.lst (ns.map V.int))) b = some u → b = a ∧ u = .frz { cls := .type "list", data := .seq vs.toArray } (.lst (ns.map V.int)) := by
      intro b u z
      by_cases h : b = a
      · rw [h, upd_same] at z
        exact ⟨h, (Option.some.inj z).symm⟩
      · rw [upd_ne h] at z
        cases z
    refine gcall (H := upd (fun _ => none) a (.frz { cls := .type "list", data := .seq vs.toArray } (.lst (ns.map V.int)))) inH atG hb bB lim hg hr R bind (fun b u z => ?_) (fun b u z => ?_) (hsp _ (.inl (.inr ⟨_, upd_same⟩)))
    · obtain ⟨rfl, rfl⟩ := tr b u z
      exact ⟨ha, by rw [List.length_map]; exact hl, vs, _, rv, ha⟩
    · obtain ⟨rfl, rfl⟩ := tr b u z
      exact ⟨rfl, ⟨_, _, rfl, fun es ep d => by cases d⟩, q⟩
end
/-- the end of the row's proof -/
theorem gwalk {l : PySem.W.OpenLaw} {n k : Nat} {q : Program} {loose : List Str} {XP : (Str → Option Value) → Heap → Prop} {YP : World → Heap → Prop} {d : DefRec} {K : Params → PySem.W.Frag} {sp : World → Sp} {x : Str}
    (hn : l.most = some n) (hn2 : n ≤ sizeLine) (hdf : d.params.defaults = []) (hr : Room k callerA) (hY : ∀ (w : World) (h : Heap), YP w h → (K w.params).In h)
    (F : ∀ (w : World) (mg : Str → Option Value) (fa : Addr) (h : Heap), (K w.params).In h → h.Ns mainGlobals mg → mg d.name = some (.ref fa) →
      ∃ fd : FuncData, (∀ (s : Shared) (u : Value), BindsTo s fd ⟨[u], []⟩ [(x, u)]) ∧ ∀ base : Heap, (K w.params).In base → base.Ns mainGlobals mg → GRun l.prog w (K w.params) mg base k fa fd [x] (sp w))
    (hsp : ∀ (w : World) (H : Hp) (a : Addr) (ns : List Int), ns.length ≤ n → SqL (K w.params) H a (ns.map V.int) → sp w [.ref a] H (fun v _ => v = .bl true) E0) :
    PySem.W.WalkO q loose XP YP l.row.toRowW d [] (fun f vs => PySem.call f vs) := by
  refine Att.attach_call hn hdf (fun w s₀ s₁ mg mb fa o pm cd doc a vs ns G Y _ _ _ hmg hobj hints hlen hg => ?_)
  have inK := hY w _ Y
  obtain ⟨fd, bind, R⟩ := F w mg fa _ inK G.T.g hmg
  exact glaw inK G.T.g G.T.b G.T.builtins G.T.nolimit hg hobj hints (Nat.le_trans hlen hn2) hr R bind (fun H hS => hsp w H a ns hlen hS)
/-! ### the text by places -/
def top (i : Nat) : Stmt := PySem.Challenge.pw_sortedshelves_k18_heights_and_what_are_n.main.body.getD i (.Pass ⟨0, 0, 0, 0⟩)
abbrev sReached : Stmt := top 1
abbrev sRaised : Stmt := top 2
abbrev sRing : Stmt := top 3
abbrev sInteger : Stmt := top 5
abbrev sHeights : Stmt := top 7
abbrev sHold : Stmt := top 8
abbrev sDeck : Stmt := top 10
abbrev sDraw : Stmt := top 11
abbrev sOne : Stmt := top 12
abbrev sMach : Stmt := top 13
abbrev sMet : Stmt := top 14
abbrev sKind : Stmt := top 15
abbrev sForm : Stmt := top 16
abbrev sBent : Stmt := top 17
abbrev sAre : Stmt := top 18
abbrev sSums : Stmt := top 19
abbrev sLong : Stmt := top 20
abbrev sLongR : Stmt := top 21
abbrev sLaw : Stmt := top 22
theorem scDeck : FnScope ["_law_script", "_law_cell"] ["_law_script"] (defScope sDeck) := ⟨rfl, rfl, rfl, by decide +kernel, rfl, by decide +kernel, by decide +kernel⟩
theorem scDraw : FnScope ["_law_deck_here", "_law_many", "_law_cell", "_law_at", "_law_mixed"] ["_law_deck_here", "_law_many"] (defScope sDraw) := ⟨rfl, rfl, rfl, by decide +kernel, rfl, by decide +kernel, by decide +kernel⟩
theorem scOne : FnScope ["_law_deck_here", "_law_items"] ["_law_deck_here", "_law_items"] (defScope sOne) := ⟨rfl, rfl, rfl, by decide +kernel, rfl, by decide +kernel, by decide +kernel⟩
def DeckAt (a c : Addr) (cells : List Int) (n : Int) (H : Hp) : Prop :=
  a ≠ c ∧ H a = some (.lst [.ref c, .int n]) ∧ H c = some (.lst (cells.map V.int)) ∧ cells.length ≤ 63 ∧ (∀ z ∈ cells, 0 ≤ z)
theorem cut_ints (ns : List Int) (lo hi : Option Int) : ∃ ms : List Int, cutV (ns.map V.int) lo hi = ms.map V.int ∧ ms.length ≤ ns.length := by
  unfold cutV
  refine ⟨(ns.drop (HT.sIx (ns.map V.int).length 0 lo)).take (HT.sIx (ns.map V.int).length (ns.map V.int).length hi - HT.sIx (ns.map V.int).length 0 lo), by rw [List.map_take, List.map_drop], ?_⟩
  rw [List.length_take, List.length_drop]
  omega
theorem int_at {ns : List Int} {i : Nat} {x : V} (h : (ns.map V.int)[i]? = some x) : ∃ u, x = V.int u := by
  rw [List.getElem?_map] at h
  obtain ⟨u, _, e⟩ := Option.map_eq_some_iff.mp h
  exact ⟨u, e.symm⟩
section
variable {P : Program} {w : World} {K : PySem.W.Frag} {mg : Str → Option Value} {base : Heap}
def spDeck (K : PySem.W.Frag) : Sp := fun vs H Q _ => ∃ (l : Addr) (ns : List Int), vs = [.ref l] ∧ SqL K H l (ns.map V.int) ∧ ns.length ≤ 63 ∧
  ∀ (H' : Hp) (a c : Addr) (cells : List Int), Same H H' → H a = none → H c = none → DeckAt a c cells 0 H' → Q (.ref a) H'
theorem ok_deck {f : Addr} {fd : FuncData} (F : Fun K "_law_deck" "_law_deck" sDeck f fd) (mAbs : mg "abs" = none) : FnOk P w K mg base CX0 1 f fd ["_law_script"] (spDeck K) := by
  refine F.ok scDeck (fun vs H Q E h => ?_) (fun cdv A outer s H vs Q E hr h => ?_)
  · obtain ⟨l, ns, rfl, _⟩ := h
    rfl
  · obtain ⟨l, ns, rfl, hS, hlen, k⟩ := h
    refine ⟨_, pss_one (ps_ret (pe_lst (pa_cons (pe_lc (own := [("_law_cell", 1)]) (g := gName 1) (tt := tYes) rfl scDeck.nd (pi_list (pe_slice sl_list (pv 0) po_none (po_some pe_int))) (blkOk_by (N := ["_law_script", "_law_cell"]) (sc := defScope sDeck) (by decide +kernel)) (fun _ _ _ _ _ => pg_name (i := 1) scDeck.nd rfl (Or.inl rfl)) (fun _ _ _ _ _ => pts_nil)
      (fun _ _ _ _ _ => pe_callB call_abs (by rfl) mAbs (by decide +kernel) (pa_cons (pv 1) pa_nil))) (pa_cons pe_int pa_nil)))), ?_⟩
    refine ⟨_, rfl, 63, rfl, l, _, rfl, hS, fun p hp => ?_⟩
    obtain ⟨ms, e, hm⟩ := cut_ints ns none (some 63)
    rw [e]
    refine ⟨p, rfl, ⟨_, SqL.of upd_same⟩, fun D hD => ?_⟩
    have np : p ≠ D := ne_of_none upd_same hD
    have hD0 : H D = none := by
      rw [upd_ne np.symm] at hD
      exact hD
    refine lc_list (K := K) (a := p) (xs := ms.map V.int) (fun i H' => Same H H' ∧ H' p = some (.lst (ms.map V.int)) ∧ ∃ cs : List Int, H' D = some (.lst (cs.map V.int)) ∧ cs.length = i ∧ ∀ z ∈ cs, 0 ≤ z) ⟨?_, ?_, [], upd_same, rfl, fun z hz => absurd hz List.not_mem_nil⟩ (fun i H' _ q => SqL.of q.2.1) ?_ ?_
    · exact (same_new hp).trans (same_new hD)
    · rw [upd_ne np, upd_same]
    · rintro i x H' hx ⟨sm, hp', cs, hD', hl, hc⟩
      obtain ⟨u, rfl⟩ := int_at hx
      refine ⟨rfl, ?_⟩
      refine ⟨_, rfl, u, rfl, _, hD', ?_, fun b o z => ?_, ?_, cs ++ [if u < 0 then -u else u], ?_, ?_, ?_⟩
      · have hi := (List.getElem?_eq_some_iff.mp hx).1
        rw [List.length_map] at hi ⊢
        exact small1000 (by omega)
      · rw [upd_ne (ne_of_none z hD0)]
        exact sm _ _ z
      · rw [upd_ne np]
        exact hp'
      · rw [upd_same, List.map_append]
        rfl
      · rw [List.length_append, hl]
        rfl
      · intro z hz
        rcases List.mem_append.mp hz with hz | hz
        · exact hc z hz
        · rw [List.mem_singleton.mp hz]
          split <;> omega
    · rintro H' ⟨sm, hp', cs, hD', hl, hc⟩
      rw [List.length_map] at hl
      refine ⟨(by show 2 ≤ sizeLine; decide), fun a ha => ?_⟩
      have na : D ≠ a := ne_of_none hD' ha
      have ha0 : H a = none := sm.free ha
      refine k _ a D cs (sm.trans (same_new ha)) ha0 hD0 ⟨na.symm, upd_same, ?_, by omega, hc⟩
      rw [upd_ne na]
      exact hD'
end
/-- the deck's two lists -/
def Bd (a c : Addr) : Addr → Prop := fun b => b = a ∨ b = c
theorem bd_ne {a c b : Addr} {H : Hp} {o : HO} (e : H b = some o) (nl : ∀ xs, o ≠ .lst xs) {xs ys : List V} (ha : H a = some (.lst xs)) (hc : H c = some (.lst ys)) : ¬ Bd a c b := by
  rintro (h | h)
  · rw [h, ha] at e
    exact nl _ (Option.some.inj e).symm
  · rw [h, hc] at e
    exact nl _ (Option.some.inj e).symm
theorem bd_new {a c p : Addr} {H : Hp} {xs ys : List V} (n : H p = none) (ha : H a = some (.lst xs)) (hc : H c = some (.lst ys)) : ¬ Bd a c p := by
  rintro (h | h)
  · rw [h, ha] at n
    cases n
  · rw [h, hc] at n
    cases n
theorem keep_upd {a c x : Addr} {H : Hp} {o : HO} (h : Bd a c x) : Keep (Bd a c) H (upd H x o) := fun b u n e => by
  rw [upd_ne (fun z : b = x => n (z.symm ▸ h))]
  exact e
section
variable {P : Program} {w : World} {K : PySem.W.Frag} {mg : Str → Option Value} {base : Heap}
def spDraw : Sp := fun vs H Q _ => ∃ (a c : Addr) (cells : List Int) (n m : Int), vs = [.ref a, .int m] ∧ DeckAt a c cells n H ∧ 1 ≤ m ∧ m ≤ 1000000 ∧ 0 ≤ n ∧ n ≤ 1000000 ∧
  ∀ (H' : Hp) (cells' : List Int) (r : Int), 0 ≤ r → r < m → DeckAt a c cells' (n + 1) H' → Keep (Bd a c) H H' → Q (.int r) H'
theorem ok_draw {f : Addr} {fd : FuncData} (F : Fun K "_law_draw" "_law_draw" sDraw f fd) (mLen : mg "len" = none) (mInt : mg "int" = none) : FnOk P w K mg base CX0 1 f fd ["_law_deck_here", "_law_many"] spDraw := by
  refine F.ok scDraw (fun vs H Q E h => ?_) (fun cdv A outer s H vs Q E hr h => ?_)
  · obtain ⟨a, c, cells, n, m, rfl, _⟩ := h
    rfl
  · obtain ⟨a, c, cells, n, m, rfl, ⟨nac, ha, hc, hlen, hpos⟩, m1, m2, n1, n2, k⟩ := h
    refine ⟨_, pss_cons (ps_asg (pe_op op_add (pe_ix ix_list (pv 0) pe_int (fun _ _ => rfl)) pe_int) (pg_sub (pv 0) pe_int set_list))
      (pss_cons (ps_asg (pe_tup (pa_cons pe_int (pa_cons (pe_un un_neg pe_int) pa_nil))) (pg_tup rfl (pgs_cons (pg_name (i := 2) scDraw.nd rfl (.inl rfl)) (pgs_cons (pg_name (i := 3) scDraw.nd rfl (.inl rfl)) pgs_nil))))
      (Evl.pss_cut (ps_if (pt_cmpR op_gt (pe_callB call_len_seq (by rfl) mLen PySem.boot_len (pa_cons (pe_ix ix_list (pv 0) pe_int (fun _ _ => rfl)) pa_nil)) pe_int (nomark _))
        (pss_cons (ps_set (i := 3) scDraw.nd rfl (.inl rfl) (pe_op op_mod (pe_callTy call_int1 (by rfl) mInt (by decide +kernel) (pa_cons (pe_ix ix_list (pv 0) pe_int (fun _ _ => rfl)) pa_nil)) (pe_callB call_len_seq (by rfl) mLen PySem.boot_len (pa_cons (pe_ix ix_list (pv 0) pe_int (fun _ _ => rfl)) pa_nil))))
        (pss_one (ps_set (i := 2) scDraw.nd rfl (.inl rfl) (pe_ix ix_list (pe_ix ix_list (pv 0) pe_int (fun _ _ => rfl)) (pv 3) (fun _ _ => rfl)))))
        pss_nil)
      (pss_cons (ps_if (pt_cmpR op_ge (pv 2) (pe_op op_pow pe_int pe_int) (nomark _))
        (pss_cons (ps_asg (pe_op op_fdivW (pe_callTy call_int1 (by rfl) mInt (by decide +kernel) (pa_cons (pv 2) pa_nil)) (pv 1)) (pg_sub (pe_ix ix_list (pv 0) pe_int (fun _ _ => rfl)) (pv 3) set_list))
          (pss_one (ps_ret (pe_op op_mod (pe_callTy call_int1 (by rfl) mInt (by decide +kernel) (pa_cons (pv 2) pa_nil)) (pv 1)))))
        pss_nil)
      (pss_cons (ps_set (i := 4) scDraw.nd rfl (.inl rfl) (pe_op op_add (pe_op op_add (pe_op op_mod (pe_callTy call_int1 (by rfl) mInt (by decide +kernel) (pa_cons (pv 2) pa_nil)) pe_int) (pe_op op_mul pe_int (pe_ix ix_list (pv 0) pe_int (fun _ _ => rfl)))) pe_int))
      (pss_one (ps_ret (pe_op op_mod (pe_callTy call_int1 (by rfl) mInt (by decide +kernel) (pa_cons (pe_op op_mod (pe_callTy call_int1 (by rfl) mInt (by decide +kernel) (pa_cons (pe_op op_pow (pv 4) pe_int) pa_nil)) pe_int) pa_nil)) (pv 1)))))))), ?_⟩
    refine ⟨.ref a, rfl, a, _, 1, _, rfl, rfl, SqL.of ha, atI_nat (j := 1) rfl, n, 1, rfl, rfl, .ref a, rfl, a, _, 1, 1, rfl, rfl, ha, rfl, ?_⟩
    have hA1 : upd H a (.lst [.ref c, .int (n + 1)]) a = some (.lst [.ref c, .int (n + 1)]) := upd_same
    have hC1 : upd H a (.lst [.ref c, .int (n + 1)]) c = some (.lst (cells.map V.int)) := by
      rw [upd_ne nac.symm]
      exact hc
    have k1 : Keep (Bd a c) H (upd H a (.lst [.ref c, .int (n + 1)])) := keep_upd (.inl rfl)
    refine ⟨1, rfl, (by show 2 ≤ sizeLine; decide), fun T hT => ?_⟩
    have k2 := k1.trans (keep_new (B := Bd a c) (o := .tup [.int 0, .int (-1)]) hT)
    have hA2 : upd (upd H a (.lst [.ref c, .int (n + 1)])) T (.tup [.int 0, .int (-1)]) a = some (.lst [.ref c, .int (n + 1)]) := by
      rw [upd_ne (ne_of_none hA1 hT)]
      exact hA1
    have hC2 : upd (upd H a (.lst [.ref c, .int (n + 1)])) T (.tup [.int 0, .int (-1)]) c = some (.lst (cells.map V.int)) := by
      rw [upd_ne (ne_of_none hC1 hT)]
      exact hC1
    have hT2 : upd (upd H a (.lst [.ref c, .int (n + 1)])) T (.tup [.int 0, .int (-1)]) T = some (.tup [.int 0, .int (-1)]) := upd_same
    refine ⟨T, _, rfl, SqT.of hT2, rfl, .int 0, [.int (-1)], rfl, .int (-1), [], rfl, rfl, ?_⟩
    refine ⟨fun σ' H' => ∃ cell at_ : Int, σ' = [some (.ref a), some (.int m), some (.int cell), some (.int at_), none] ∧ Keep (Bd a c) H H' ∧ H' a = some (.lst [.ref c, .int (n + 1)]) ∧ H' c = some (.lst (cells.map V.int)) ∧ 0 ≤ cell ∧ (10 ^ 18 ≤ cell → ∃ j : Nat, j < cells.length ∧ at_ = (j : Int)), ?_, ?_⟩
    · refine ⟨.ref a, rfl, a, _, 0, .ref c, rfl, rfl, SqL.of hA2, atI_nat (j := 0) rfl, c, _, rfl, .inl (SqL.of hC2), _, _, rfl, rfl, _, rfl, ite2 (fun h0 => ?_) (fun h0 => ?_)⟩
      · have h0 := of_decide_eq_true h0
        rw [List.length_map] at h0
        obtain ⟨j, hj, ej⟩ : ∃ j : Nat, j < cells.length ∧ (n + 1) % ((cells.map V.int).length : Int) = (j : Int) := by
          rw [List.length_map]
          have x1 := Int.emod_nonneg (n + 1) (b := (cells.length : Int)) (by omega)
          have x2 := Int.emod_lt_of_pos (n + 1) (b := (cells.length : Int)) h0
          exact ⟨((n + 1) % (cells.length : Int)).toNat, by omega, by omega⟩
        have gj : (cells.map V.int)[j]? = some (.int cells[j]) := by
          rw [List.getElem?_map, List.getElem?_eq_getElem hj]
          rfl
        refine ⟨.ref a, rfl, a, _, 1, _, rfl, rfl, SqL.of hA2, atI_nat (j := 1) rfl, .inl ⟨n + 1, rfl, .ref a, rfl, a, _, 0, .ref c, rfl, rfl, SqL.of hA2, atI_nat (j := 0) rfl, c, _, rfl, .inl (SqL.of hC2), _, _, rfl, rfl, (by rw [List.length_map]; exact h0), ?_⟩⟩
        refine ⟨.ref a, rfl, a, _, 0, .ref c, rfl, rfl, SqL.of hA2, atI_nat (j := 0) rfl, .int j, by rw [← ej]; rfl, c, _, _, _, rfl, rfl, SqL.of hC2, atI_nat gj, ?_⟩
        exact ⟨cells[j], j, by rw [← ej]; rfl, k2, hA2, hC2, hpos _ (List.getElem_mem hj), fun _ => ⟨j, hj, rfl⟩⟩
      · exact ⟨0, -1, rfl, k2, hA2, hC2, Int.le_refl _, fun z => absurd z (by decide)⟩
    · rintro σ' H3 ⟨cell, at_, rfl, k3, hA3, hC3, hp, hj⟩
      refine ⟨_, rfl, 10, 18, rfl, rfl, ⟨by decide, by decide, by decide⟩, _, _, rfl, rfl, _, rfl, ite2 (fun h0 => ?_) (fun h0 => ?_)⟩
      · obtain ⟨j, hj2, ea⟩ := hj (of_decide_eq_true h0)
        subst ea
        refine ⟨_, rfl, .inl ⟨cell, rfl, _, rfl, _, _, rfl, rfl, wide_div (b := 20) (by omega) (by omega) (by decide) (by decide), .ref a, rfl, a, _, 0, .ref c, rfl, rfl, SqL.of hA3, atI_nat (j := 0) rfl, _, rfl, c, _, _, j, rfl, rfl, hC3, Evl.ixN_nat (by rw [List.length_map]; exact hj2), ?_⟩⟩
        refine ⟨_, rfl, .inl ⟨cell, rfl, _, rfl, _, _, rfl, rfl, (by omega), ?_⟩⟩
        refine k _ (cells.set j (cell / m)) _ (Int.emod_nonneg _ (by omega)) (Int.emod_lt_of_pos _ (by omega)) ⟨nac, ?_, ?_, ?_, ?_⟩ (k3.trans (keep_upd (.inr rfl)))
        · rw [upd_ne nac]
          exact hA3
        · rw [upd_same, List.map_set]
        · rw [List.length_set]
          exact hlen
        · intro z hz
          rcases List.mem_or_eq_of_mem_set hz with hz | hz
          · exact hpos z hz
          · rw [hz]
            exact Int.ediv_nonneg hp (by omega)
      · have b1 := Int.emod_nonneg cell (b := 2147483563) (by decide)
        have b2 := Int.emod_lt_of_pos cell (b := 2147483563) (by decide)
        refine ⟨_, rfl, .inl ⟨cell, rfl, _, _, rfl, rfl, (by show (0 : Int) < 2147483563; decide), .ref a, rfl, a, _, 1, _, rfl, rfl, SqL.of hA3, atI_nat (j := 1) rfl, 8117, n + 1, rfl, rfl, .inl ⟨by decide, by decide⟩, _, _, rfl, rfl, _, _, rfl, rfl, ?_⟩⟩
        refine ⟨_, rfl, cell % 2147483563 + 8117 * (n + 1) + 3, 5, rfl, rfl, ⟨by decide, by decide, by omega⟩, .inl ⟨_, rfl, _, _, rfl, rfl, (by show (0 : Int) < 2147483629; decide), .inl ⟨_, rfl, _, rfl, _, _, rfl, rfl, (by omega), ?_⟩⟩⟩
        exact k _ cells _ (Int.emod_nonneg _ (by omega)) (Int.emod_lt_of_pos _ (by omega)) ⟨nac, hA3, hC3, hlen, hpos⟩ k3
end
section
variable {P : Program} {w : World} {K : PySem.W.Frag} {mg : Str → Option Value} {base : Heap}
def spOne (K : PySem.W.Frag) : Sp := fun vs H Q _ => ∃ (a c l : Addr) (cells : List Int) (n : Int) (xs : List V), vs = [.ref a, .ref l] ∧ DeckAt a c cells n H ∧ 0 ≤ n ∧ n ≤ 1000000 ∧ SqL K H l xs ∧ ¬ Bd a c l ∧ xs ≠ [] ∧ xs.length ≤ 1000 ∧
  ∀ (H' : Hp) (cells' : List Int) (x : V), x ∈ xs → DeckAt a c cells' (n + 1) H' → Keep (Bd a c) H H' → Q x H'
theorem ok_one {f fD : Addr} {fd fdD : FuncData} (F : Fun K "_law_one" "_law_one" sOne f fd) (D : FnOk P w K mg base CX0 1 fD fdD ["_law_deck_here", "_law_many"] spDraw) (FD : Fun K "_law_draw" "_law_draw" sDraw fD fdD) (bD : Binds K fdD ["_law_deck_here", "_law_many"] [])
    (gD : mg "_law_draw" = some (.ref fD)) (mLen : mg "len" = none) : FnOk P w K mg base CX0 2 f fd ["_law_deck_here", "_law_items"] (spOne K) := by
  refine F.ok scOne (fun vs H Q E h => ?_) (fun cdv A outer s H vs Q E hr h => ?_)
  · obtain ⟨a, c, l, cells, n, xs, rfl, _⟩ := h
    rfl
  · obtain ⟨a, c, l, cells, n, xs, rfl, dk, n0, n1, hL, nb, hne, hlen, k⟩ := h
    refine ⟨_, pss_one (ps_ret (pe_ix ix_list (pv 1) (pe_call D hr (by rfl) gD FD.kp bD .nil pass0 (pa_cons (pv 0) (pa_cons (pe_callB call_len_seq (by rfl) mLen PySem.boot_len (pa_cons (pv 1) pa_nil)) pa_nil))) (fun _ _ => rfl))), ?_⟩
    have lp : 0 < xs.length := List.length_pos_iff.mpr hne
    refine ⟨_, rfl, _, rfl, _, rfl, l, xs, rfl, .inl hL, a, c, cells, n, _, rfl, dk, by omega, by omega, n0, n1, fun H' cells' r r0 r1 dk' kp => ?_⟩
    have hr2 : r.toNat < xs.length := by omega
    refine ⟨l, xs, r, xs[r.toNat], rfl, rfl, kp.seqL nb hL, ?_, k H' cells' _ (List.getElem_mem hr2) dk' kp⟩
    have e := atI_nat (List.getElem?_eq_getElem hr2)
    rw [show ((r.toNat : Nat) : Int) = r by omega] at e
    exact e
end
/-- the built-in names that nobody stores, and the program's constants -/
structure Mg (mg : Str → Option Value) : Prop where
  len : mg "len" = none
  int : mg "int" = none
  range : mg "range" = none
  tuple : mg "tuple" = none
  list : mg "list" = none
  isi : mg "isinstance" = none
  all : mg "all" = none
  abs : mg "abs" = none
  bool : mg "bool" = none
  repr : mg "repr" = none
  any : mg "any" = none
  enum : mg "enumerate" = none
  max : mg "max" = none
def tyN : PyData → String
  | .none => "NoneType"
  | .bool _ => "bool"
  | .int _ => "int"
  | .str _ => "str"
  | .list _ => "list"
  | .tuple _ => "tuple"
  | .dict _ => "dict"
theorem tyD {B : Addr → Prop} {K : PySem.W.Frag} {H : Hp} {v : V} {d : PyData} (h : Dt B K H v d) : TyX K H v (.type (tyN d)) := by
  cases h with
  | non => exact .base .non
  | bl b => exact .base (.bl b)
  | int i => exact .base (.int i)
  | str x => exact .base (.str x)
  | lst nb ne hs ha =>
    rcases hs with hs | ⟨o, hs⟩
    · exact .base (.lst hs)
    · exact .base (.frz hs)
  | tup nb hs ha =>
    rcases hs with hs | ⟨o, hs⟩
    · exact .base (.tup hs)
    · exact .fTuple hs
  | emp nb e => exact .base (.dK e)
def isInt : PyData → Bool
  | .int _ => true
  | .bool _ => true
  | _ => false
def isBool : PyData → Bool
  | .bool _ => true
  | _ => false
def isTup : PyData → Bool
  | .tuple _ => true
  | _ => false
theorem kitI {K : PySem.W.Frag} (d : PyData) : PySem.W.kitOne K (.type (tyN d)) (.type "int") = some (isInt d) := by
  cases d with
  | none => exact kit_ty (show kitB "NoneType" "int" = some false by decide +kernel)
  | bool _ => exact kit_ty (show kitB "bool" "int" = some true by decide +kernel)
  | int _ => exact kit_ty (show kitB "int" "int" = some true by decide +kernel)
  | str _ => exact kit_ty (show kitB "str" "int" = some false by decide +kernel)
  | list _ => exact kit_ty (show kitB "list" "int" = some false by decide +kernel)
  | tuple _ => exact kit_ty (show kitB "tuple" "int" = some false by decide +kernel)
  | dict _ => exact kit_ty (show kitB "dict" "int" = some false by decide +kernel)
theorem kitB' {K : PySem.W.Frag} (d : PyData) : PySem.W.kitOne K (.type (tyN d)) (.type "bool") = some (isBool d) := by
  cases d with
  | none => exact kit_ty (show kitB "NoneType" "bool" = some false by decide +kernel)
  | bool _ => exact kit_ty (show kitB "bool" "bool" = some true by decide +kernel)
  | int _ => exact kit_ty (show kitB "int" "bool" = some false by decide +kernel)
  | str _ => exact kit_ty (show kitB "str" "bool" = some false by decide +kernel)
  | list _ => exact kit_ty (show kitB "list" "bool" = some false by decide +kernel)
  | tuple _ => exact kit_ty (show kitB "tuple" "bool" = some false by decide +kernel)
  | dict _ => exact kit_ty (show kitB "dict" "bool" = some false by decide +kernel)
theorem kitT {K : PySem.W.Frag} (d : PyData) : PySem.W.kitOne K (.type (tyN d)) (.type "tuple") = some (isTup d) := by
  cases d with
  | none => exact kit_ty (show kitB "NoneType" "tuple" = some false by decide +kernel)
  | bool _ => exact kit_ty (show kitB "bool" "tuple" = some false by decide +kernel)
  | int _ => exact kit_ty (show kitB "int" "tuple" = some false by decide +kernel)
  | str _ => exact kit_ty (show kitB "str" "tuple" = some false by decide +kernel)
  | list _ => exact kit_ty (show kitB "list" "tuple" = some false by decide +kernel)
  | tuple _ => exact kit_ty (show kitB "tuple" "tuple" = some true by decide +kernel)
  | dict _ => exact kit_ty (show kitB "dict" "tuple" = some false by decide +kernel)
/-- an integer, no bool, within the bounds -/
def numD (d : PyData) (lo hi : Int) : Bool := match d with
  | .int i => decide (lo ≤ i) && decide (i ≤ hi)
  | _ => false
def spNum (K : PySem.W.Frag) : Sp := fun vs H Q _ => ∃ (B : Addr → Prop) (x : V) (d : PyData) (lo hi : Int), vs = [x, .int lo, .int hi] ∧ Dt B K H x d ∧ Q (.bl (numD d lo hi)) H
def intD : PyData → Bool
  | .int _ => true
  | _ => false
def spInt (K : PySem.W.Frag) : Sp := fun vs H Q _ => ∃ (B : Addr → Prop) (x : V) (d : PyData), vs = [x] ∧ Dt B K H x d ∧ Q (.bl (intD d)) H
section
variable {P : Program} {w : World} {K : PySem.W.Frag} {mg : Str → Option Value} {base : Heap}
theorem scInteger : FnScope ["value"] ["value"] (defScope sInteger) := ⟨rfl, rfl, rfl, by decide +kernel, rfl, by decide +kernel, by decide +kernel⟩
theorem ok_Integer {f : Addr} {fd : FuncData} (F : Fun K "is_integer" "is_integer" sInteger f fd) (T : Mg mg) : FnOk P w K mg base CX0 1 f fd ["value"] (spInt K) := by
  refine F.ok scInteger (fun vs H Q E h => ?_) (fun cdv A outer s H vs Q E hr h => ?_)
  · obtain ⟨B, x, d, rfl, _⟩ := h
    rfl
  · obtain ⟨B, x, d, rfl, hd, k⟩ := h
    refine ⟨_, pss_one (ps_ret (pe_and (pe_callB call_isi (by rfl) T.isi PyProof.Rows.boot_isinstance (pa_cons (pv 0) (pa_cons (pe_bltn (v := .ty "int") (by rfl) T.int PyProof.Rows.boot_int rfl) pa_nil)))
      (pe_one (pe_not (pe_callB call_isi (by rfl) T.isi PyProof.Rows.boot_isinstance (pa_cons (pv 0) (pa_cons (pe_bltn (v := .ty "bool") (by rfl) T.bool PyProof.Rows.boot_bool rfl) pa_nil))))))), ?_⟩
    refine ⟨x, rfl, x, .ty "int", _, _, _, rfl, .ty _, tyD hd, kitI d, _, rfl, ?_⟩
    cases d with
    | int i => exact ⟨x, rfl, x, .ty "bool", _, _, _, rfl, .ty _, tyD hd, kitB' _, _, rfl, k⟩
    | bool b => exact ⟨x, rfl, x, .ty "bool", _, _, _, rfl, .ty _, tyD hd, kitB' _, _, rfl, k⟩
    | none => exact k
    | str y => exact k
    | list _ => exact k
    | tuple _ => exact k
    | dict _ => exact k
end
def itemOk (n : Int) (d : PyData) : Bool := match d with
  | .none => true
  | d => numD d 0 (n - 1)
def rowD (L n : Int) (d : PyData) : Bool := match d with
  | .tuple xs => decide ((xs.length : Int) = L) && xs.all (itemOk n)
  | _ => false
theorem Dt.len_le {B : Addr → Prop} {K : PySem.W.Frag} {H : Hp} {a : Addr} {ds : List PyData} (h : Dt B K H (.ref a) (.tuple ds)) : ∃ xs, SqT K H a xs ∧ DtAll B K H xs ds ∧ xs.length = ds.length := by
  cases h with
  | tup nb hs ha => exact ⟨_, .inl hs, ha, ha.len⟩
theorem Dt.tup_ref {B : Addr → Prop} {K : PySem.W.Frag} {H : Hp} {v : V} {ds : List PyData} (h : Dt B K H v (.tuple ds)) : ∃ a xs, v = .ref a ∧ ¬ B a ∧ SqT K H a xs ∧ DtAll B K H xs ds ∧ xs.length = ds.length := by
  cases h with
  | tup nb hs ha => exact ⟨_, _, rfl, nb, .inl hs, ha, ha.len⟩
theorem Dt.tup_rd {B : Addr → Prop} {K : PySem.W.Frag} {H : Hp} {v : V} {ds : List PyData} (h : Dt B K H v (.tuple ds)) : ∃ a xs, v = .ref a ∧ ¬ B a ∧ Rd H a (.tup xs) ∧ DtAll B K H xs ds ∧ xs.length = ds.length := by
  cases h with
  | tup nb hs ha => exact ⟨_, _, rfl, nb, hs, ha, ha.len⟩
mutual
theorem Dt.off {B : Addr → Prop} {K : PySem.W.Frag} {H : Hp} {q : Addr} (n : H q = none) : ∀ (d : PyData) (v : V), Dt B K H v d → Dt (fun b => B b ∨ b = q) K H v d
  | .none, _, h => by cases h; exact .non
  | .bool _, _, h => by cases h; exact .bl _
  | .int _, _, h => by cases h; exact .int _
  | .str _, _, h => by cases h; exact .str _
  | .list ds, _, h => by
    cases h with
    | lst nb ne hs ha =>
      refine .lst (fun z => ?_) ne hs (DtAll.off n ds _ ha)
      rcases z with z | z
      · exact nb z
      · rw [z] at hs
        rcases hs with e | ⟨o, e⟩ <;> (rw [n] at e; cases e)
  | .tuple ds, _, h => by
    cases h with
    | tup nb hs ha =>
      refine .tup (fun z => ?_) hs (DtAll.off n ds _ ha)
      rcases z with z | z
      · exact nb z
      · rw [z] at hs
        rcases hs with e | ⟨o, e⟩ <;> (rw [n] at e; cases e)
  | .dict _, _, h => by
    cases h with
    | emp nb e =>
      refine .emp (fun z => ?_) e
      rcases z with z | z
      · exact nb z
      · rw [z, n] at e
        cases e
theorem DtAll.off {B : Addr → Prop} {K : PySem.W.Frag} {H : Hp} {q : Addr} (n : H q = none) : ∀ (ds : List PyData) (vs : List V), DtAll B K H vs ds → DtAll (fun b => B b ∨ b = q) K H vs ds
  | [], _, h => by cases h; exact .nil
  | d :: ds, _, h => by
    cases h with
    | cons h1 h2 => exact .cons (Dt.off n d _ h1) (DtAll.off n ds _ h2)
end
theorem same_dt {B : Addr → Prop} {K : PySem.W.Frag} {H H' : Hp} {v : V} {d : PyData} (s : Same H H') (h : Dt B K H v d) : Dt B K H' v d := Dt.keep (Keep.same s) d v h
theorem same_seqT {K : PySem.W.Frag} {H H' : Hp} {a : Addr} {xs : List V} (s : Same H H') (h : SqT K H a xs) : SqT K H' a xs := Keep.seqT (B := fun _ => False) (Keep.same s) (fun z => z) h
theorem all_take {f : PyData → Bool} {ds : List PyData} : ((ds.map f).all id) = ds.all f := by
  rw [List.all_map]
  rfl
mutual
def nodes : PyData → Nat
  | .list xs => 1 + nodesAll xs
  | .tuple xs => 1 + nodesAll xs
  | .none => 1
  | .bool _ => 1
  | .int _ => 1
  | .str _ => 1
  | .dict _ => 1
def nodesAll : List PyData → Nat
  | [] => 0
  | x :: xs => nodes x + nodesAll xs
end
theorem nodes_pos : ∀ d : PyData, 1 ≤ nodes d
  | .list xs => by unfold nodes; omega
  | .tuple xs => by unfold nodes; omega
  | .none => by unfold nodes; omega
  | .bool _ => by unfold nodes; omega
  | .int _ => by unfold nodes; omega
  | .str _ => by unfold nodes; omega
  | .dict _ => by unfold nodes; omega
theorem nodes_tup (xs : List PyData) : nodes (.tuple xs) = 1 + nodesAll xs := by rw [nodes]
theorem nodes_lst (xs : List PyData) : nodes (.list xs) = 1 + nodesAll xs := by rw [nodes]
theorem nodesAll_cons (x : PyData) (xs : List PyData) : nodesAll (x :: xs) = nodes x + nodesAll xs := by rw [nodesAll]
theorem nodesAll_nil : nodesAll [] = 0 := by rw [nodesAll]
theorem len_nodes : ∀ xs : List PyData, xs.length ≤ nodesAll xs
  | [] => Nat.zero_le _
  | x :: xs => by
    have := len_nodes xs
    have := nodes_pos x
    rw [nodesAll_cons, List.length_cons]
    omega
theorem mem_nodes : ∀ {xs : List PyData} {x : PyData}, x ∈ xs → nodes x ≤ nodesAll xs
  | [], _, h => absurd h List.not_mem_nil
  | y :: ys, x, h => by
    rw [nodesAll_cons]
    rcases List.mem_cons.mp h with e | e
    · rw [e]
      omega
    · have := mem_nodes e
      omega
theorem nodesAll_append : ∀ xs ys : List PyData, nodesAll (xs ++ ys) = nodesAll xs + nodesAll ys
  | [], ys => by rw [List.nil_append, nodesAll_nil, Nat.zero_add]
  | x :: xs, ys => by rw [List.cons_append, nodesAll_cons, nodesAll_cons, nodesAll_append xs ys, Nat.add_assoc]
def BInv (f : PyData → Bool) (ds : List PyData) (H : Hp) (D : Addr) (i : Nat) (H' : Hp) : Prop := Same H H' ∧ H' D = some (.lst ((ds.take i).map fun d => V.bl (f d)))
theorem bturn {B : Addr → Prop} {K : PySem.W.Frag} {H H' : Hp} {D : Addr} {xs : List V} {ds : List PyData} {f : PyData → Bool} {i : Nat} {y : V} (ha : DtAll B K H xs ds) (hz : ds.length < sizeLine) (hD : H D = none) (hy : xs[i]? = some y) (p : BInv f ds H D i H') :
    ∃ d, d ∈ ds ∧ Dt B K H' y d ∧ ∀ H'', Same H' H'' → ∀ b, b = f d → ∃ acc, H'' D = some (.lst acc) ∧ acc.length < sizeLine ∧ BInv f ds H D (i + 1) (upd H'' D (.lst (acc ++ [V.bl b]))) := by
  obtain ⟨sm, hD'⟩ := p
  obtain ⟨d, hd1, hd2⟩ := ha.getV hy
  refine ⟨d, List.mem_of_getElem? hd1, same_dt sm hd2, fun H'' s2 b eb => ⟨_, s2 _ _ hD', ?_, fun p o z => ?_, ?_⟩⟩
  · rw [List.length_map, List.length_take]
    omega
  · rw [upd_ne (ne_of_none z hD)]
    exact s2 _ _ (sm _ _ z)
  · rw [upd_same, List.take_add_one, hd1, List.map_append, eb]
    rfl
theorem bend {K : PySem.W.Frag} {H H' : Hp} {D : Addr} {n : Nat} {ds : List PyData} {f : PyData → Bool} (e : n = ds.length) (p : BInv f ds H D n H') : Same H H' ∧ SqL K H' D ((ds.map f).map V.bl) := by
  obtain ⟨sm, hD'⟩ := p
  rw [e, List.take_length] at hD'
  refine ⟨sm, SqL.of ?_⟩
  rw [hD', List.map_map]
  rfl
def rLen (K : PySem.W.Frag) : List V → Hp → VK → Prop := fun xs H Q => ∃ p ys, xs = [.ref p] ∧ (SqL K H p ys ∨ SqT K H p ys) ∧ Q (.int ys.length) H
theorem three_of {ds : List PyData} (h : ds.length = 3) : ∃ l r e, ds = [l, r, e] := by
  match ds, h with
  | [l, r, e], _ => exact ⟨l, r, e, rfl⟩
theorem dt_three {B : Addr → Prop} {K : PySem.W.Frag} {H : Hp} {xs : List V} {l r e : PyData} (h : DtAll B K H xs [l, r, e]) : ∃ vl vr ve, xs = [vl, vr, ve] ∧ Dt B K H vl l ∧ Dt B K H vr r ∧ Dt B K H ve e := by
  cases h with
  | cons h1 h =>
    cases h with
    | cons h2 h =>
      cases h with
      | cons h3 h =>
        cases h
        exact ⟨_, _, _, rfl, h1, h2, h3⟩
/-! ### a list, a tuple beside an empty one -/
section
variable {X : Cx}
def rNilL (K : PySem.W.Frag) (g : Bool → Bool) : R2 := fun x y H Q => ∃ (l b : Addr) (xs : List V), x = .ref l ∧ y = .ref b ∧ SqL K H l xs ∧ SqL K H b [] ∧ Q (.bl (g (decide (xs = [])))) H
def rNilT (K : PySem.W.Frag) : R2 := fun x y H Q => ∃ (l b : Addr) (xs : List V), x = .ref l ∧ y = .ref b ∧ SqT K H l xs ∧ SqT K H b [] ∧ Q (.bl (decide (xs = []))) H
theorem op_eqNilL (hu : X.A.units < cLine) : OpR X (compareOp .Eq) (rNilL X.K id) := by
  intro pins s σ H x y v u Q I rx ry h
  obtain ⟨l, b, xs, rfl, rfl, hl, hb, q⟩ := h
  cases rx
  cases ry
  obtain ⟨its, rv, pl, _⟩ := I.list hl
  obtain ⟨its2, rv2, pl2, _⟩ := I.list hb
  cases rv2
  have hn := rv.length
  cases xs with
  | nil =>
    cases rv
    exact SeqAt.eq_listAt (e := fun _ => true) pl.isList pl2.isList rfl hu (fun j h1 _ => absurd h1 (Nat.not_lt_zero _)) ⟨.bl _, H, I, rfl, q⟩
  | cons z zs =>
    refine SeqAt.eq_list_lengthsAt pl.isList pl2.isList ?_ hu ⟨.bl _, H, I, rfl, q⟩
    rw [List.size_toArray, ← hn]
    rfl
theorem op_neNilL (hu : X.A.units < cLine) : OpR X (compareOp .NotEq) (rNilL X.K not) := by
  intro pins s σ H x y v u Q I rx ry h
  obtain ⟨l, b, xs, rfl, rfl, hl, hb, q⟩ := h
  cases rx
  cases ry
  obtain ⟨its, rv, pl, _⟩ := I.list hl
  obtain ⟨its2, rv2, pl2, _⟩ := I.list hb
  cases rv2
  have hn := rv.length
  cases xs with
  | nil =>
    cases rv
    exact SeqAt.RcNeAt.lists (e := fun _ => true) pl.isList pl2.isList rfl hu (fun j h1 _ => absurd h1 (Nat.not_lt_zero _)) _ _ _ _ ⟨.bl _, H, I, rfl, q⟩
  | cons z zs =>
    refine SeqAt.RcNeAt.lists_lengths pl.isList pl2.isList ?_ hu _ _ _ _ ⟨.bl _, H, I, rfl, q⟩
    rw [List.size_toArray, ← hn]
    rfl
theorem op_eqNilT (hu : X.A.units < cLine) : OpR X (compareOp .Eq) (rNilT X.K) := by
  intro pins s σ H x y v u Q I rx ry h
  obtain ⟨l, b, xs, rfl, rfl, hl, hb, q⟩ := h
  cases rx
  cases ry
  obtain ⟨its, rv, pl, _⟩ := I.tuple hl
  obtain ⟨its2, rv2, pl2, _⟩ := I.tuple hb
  cases rv2
  have hn := rv.length
  refine SeqAt.eq_tupleAt (e := fun _ => true) pl pl2 hu (fun j h1 h2 => absurd h2 (Nat.not_lt_zero _)) ⟨.bl _, H, I, ?_, q⟩
  cases xs with
  | nil =>
    cases rv
    rfl
  | cons z zs =>
    show Value.bool _ = Value.bool _
    congr 1
    rw [List.size_toArray, ← hn]
    rfl
end
/-- what a comprehension holds that picks the items that fail -/
def FInv (f : PyData → Bool) (ds : List PyData) (H : Hp) (D : Addr) (i : Nat) (H' : Hp) : Prop :=
  Same H H' ∧ ∃ acc : List V, H' D = some (.lst acc) ∧ acc.length ≤ i ∧ (acc = [] ↔ (ds.take i).all f = true)
theorem fstart {f : PyData → Bool} {ds : List PyData} {H : Hp} {D : Addr} (hD : H D = none) : FInv f ds H D 0 (upd H D (.lst [])) :=
  ⟨same_new hD, [], upd_same, Nat.le_refl _, by simp⟩
theorem fturn {B : Addr → Prop} {K : PySem.W.Frag} {H H' : Hp} {D : Addr} {xs : List V} {ds : List PyData} {f : PyData → Bool} {i : Nat} {y : V} (ha : DtAll B K H xs ds) (hz : ds.length < sizeLine) (hD : H D = none) (hy : xs[i]? = some y) (p : FInv f ds H D i H') :
    ∃ d, d ∈ ds ∧ Dt B K H' y d ∧ (∀ H'', Same H' H'' → f d = true → FInv f ds H D (i + 1) H'') ∧
      ∀ H'', Same H' H'' → f d = false → ∃ acc, H'' D = some (.lst acc) ∧ acc.length < sizeLine ∧ FInv f ds H D (i + 1) (upd H'' D (.lst (acc ++ [y]))) := by
  obtain ⟨sm, acc, hD', hl, hi⟩ := p
  obtain ⟨d, hd1, hd2⟩ := ha.getV hy
  have hlt := (List.getElem?_eq_some_iff.mp hd1).1
  have ht : (ds.take (i + 1)).all f = ((ds.take i).all f && f d) := by
    rw [List.take_add_one, hd1, List.all_append]
    simp
  refine ⟨d, List.mem_of_getElem? hd1, same_dt sm hd2, fun H'' s2 fd => ⟨fun b o z => s2 b o (sm b o z), acc, s2 _ _ hD', by omega, ?_⟩, fun H'' s2 fd => ⟨acc, s2 _ _ hD', by omega, fun b o z => ?_, _, upd_same, ?_, ?_⟩⟩
  · rw [ht, fd, Bool.and_true]
    exact hi
  · rw [upd_ne (ne_of_none z hD)]
    exact s2 _ _ (sm _ _ z)
  · rw [List.length_append, List.length_singleton]
    omega
  · rw [ht, fd, Bool.and_false]
    exact ⟨fun z => absurd z (by simp), fun z => absurd z Bool.false_ne_true⟩
theorem fend {K : PySem.W.Frag} {H H' : Hp} {D : Addr} {n : Nat} {ds : List PyData} {f : PyData → Bool} (e : n = ds.length) (p : FInv f ds H D n H') : Same H H' ∧ ∃ acc, SqL K H' D acc ∧ decide (acc = []) = ds.all f := by
  obtain ⟨sm, acc, hD', hl, hi⟩ := p
  rw [e, List.take_length] at hi
  refine ⟨sm, acc, SqL.of hD', ?_⟩
  cases z : ds.all f
  · exact decide_eq_false (fun q => by rw [hi.mp q] at z; cases z)
  · exact decide_eq_true (hi.mpr z)
theorem itemOk_ne {B : Addr → Prop} {K : PySem.W.Frag} {H : Hp} {y : V} {d : PyData} {n : Int} (h : Dt B K H y d) (ne : y ≠ .non) : itemOk n d = numD d 0 (n - 1) := by
  cases h with
  | non => exact absurd rfl ne
  | bl _ => rfl
  | int _ => rfl
  | str _ => rfl
  | lst _ _ _ _ => rfl
  | tup _ _ _ => rfl
  | emp _ _ => rfl
theorem not_cases {b : Bool} (h : (!b) = true) : b = false := by
  cases b
  · rfl
  · cases h
theorem not_cases' {b : Bool} (h : ¬ (!b) = true) : b = true := by
  cases b
  · exact absurd rfl h
  · rfl
/-! ### while the deck is drawn from -/
theorem deck_upd {a c p : Addr} {cells : List Int} {n : Int} {H : Hp} {o : HO} (h : DeckAt a c cells n H) (np : ¬ Bd a c p) : DeckAt a c cells n (upd H p o) := by
  obtain ⟨h1, h2, h3, h4, h5⟩ := h
  refine ⟨h1, ?_, ?_, h4, h5⟩
  · rw [upd_ne (fun z : a = p => np (.inl z.symm))]
    exact h2
  · rw [upd_ne (fun z : c = p => np (.inr z.symm))]
    exact h3
theorem deck_off {a c p : Addr} {cells : List Int} {n : Int} {H : Hp} (h : DeckAt a c cells n H) (np : H p = none) : ¬ Bd a c p := bd_new np h.2.1 h.2.2.1
theorem deck_new {a c p : Addr} {cells : List Int} {n : Int} {H : Hp} {o : HO} (h : DeckAt a c cells n H) (np : H p = none) : DeckAt a c cells n (upd H p o) := deck_upd h (deck_off h np)
/-- a list that is made at D while the deck is drawn from: at most s draws an item -/
def CInv (a c D : Addr) (H0 : Hp) (G : V → Prop) (n0 s : Int) (j : Nat) (H' : Hp) : Prop :=
  ∃ (cells : List Int) (n' : Int) (acc : List V), DeckAt a c cells n' H' ∧ n0 ≤ n' ∧ n' ≤ n0 + s * j ∧ Keep (Bd a c) H0 H' ∧ H' D = some (.lst acc) ∧ acc.length = j ∧ ∀ v ∈ acc, G v
theorem cstart {a c D : Addr} {H0 : Hp} {G : V → Prop} {cells : List Int} {n0 s : Int} (dk : DeckAt a c cells n0 H0) (hD : H0 D = none) : CInv a c D H0 G n0 s 0 (upd H0 D (.lst [])) :=
  ⟨cells, n0, [], deck_new dk hD, Int.le_refl _, by simp, keep_new hD, upd_same, rfl, fun v z => absurd z List.not_mem_nil⟩
theorem cstep {a c D : Addr} {H0 H1 H2 : Hp} {G : V → Prop} {cells2 : List Int} {n0 s n1 n2 : Int} {j : Nat} {acc : List V} {v : V} (hD0 : H0 D = none) (nD : ¬ Bd a c D) (hj : j ≤ 1000) (h0 : n0 ≤ n1) (h1 : n1 ≤ n0 + s * j) (kp : Keep (Bd a c) H0 H1) (hD : H1 D = some (.lst acc)) (hl : acc.length = j)
    (hG : ∀ v ∈ acc, G v) (dk : DeckAt a c cells2 n2 H2) (h2 : n1 ≤ n2) (h3 : n2 ≤ n1 + s) (k2 : Keep (Bd a c) H1 H2) (g : G v) :
    ∃ acc', H2 D = some (.lst acc') ∧ acc'.length < sizeLine ∧ CInv a c D H0 G n0 s (j + 1) (upd H2 D (.lst (acc' ++ [v]))) := by
  refine ⟨acc, k2 _ _ nD hD, small1000 (by omega), cells2, n2, acc ++ [v], deck_upd dk nD, by omega, ?_, fun b o nb z => ?_, upd_same, ?_, fun u hu => ?_⟩
  · have e : s * ((j + 1 : Nat) : Int) = s * j + s := by
      rw [Int.natCast_add, Int.mul_add]
      simp
    rw [e]
    omega
  · rw [upd_ne (ne_of_none z hD0)]
    exact k2 _ _ nb (kp _ _ nb z)
  · rw [List.length_append, hl]
    rfl
  · rcases List.mem_append.mp hu with hu | hu
    · exact hG u hu
    · rw [List.mem_singleton.mp hu]
      exact g
/-- an item of a row: None, or the number of a state -/
def Gi (m : Int) (v : V) : Prop := v = .non ∨ ∃ k : Int, v = .int k ∧ 0 ≤ k ∧ k < m
def Ri (m : Int) (d : PyData) : Prop := d = .none ∨ ∃ k : Int, d = .int k ∧ 0 ≤ k ∧ k < m
theorem gi_dt {m : Int} : ∀ {acc : List V}, (∀ v ∈ acc, Gi m v) → ∃ ds : List PyData, (∀ (B : Addr → Prop) (K : PySem.W.Frag) (H : Hp), DtAll B K H acc ds) ∧ ds.length = acc.length ∧ ∀ d ∈ ds, Ri m d
  | [], _ => ⟨[], fun _ _ _ => .nil, rfl, fun d z => absurd z List.not_mem_nil⟩
  | v :: acc, h => by
    obtain ⟨ds, h1, h2, h3⟩ := gi_dt (acc := acc) fun u hu => h u (List.mem_cons_of_mem _ hu)
    rcases h v List.mem_cons_self with e | ⟨k, e, k0, k1⟩
    · subst e
      refine ⟨.none :: ds, fun B K H => .cons .non (h1 B K H), by rw [List.length_cons, List.length_cons, h2], fun d hd => ?_⟩
      rcases List.mem_cons.mp hd with hd | hd
      · exact .inl hd
      · exact h3 d hd
    · subst e
      refine ⟨.int k :: ds, fun B K H => .cons (.int k) (h1 B K H), by rw [List.length_cons, List.length_cons, h2], fun d hd => ?_⟩
      rcases List.mem_cons.mp hd with hd | hd
      · exact .inr ⟨k, hd, k0, k1⟩
      · exact h3 d hd
def Gb (v : V) : Prop := ∃ b, v = .bl b
theorem gb_dt : ∀ {acc : List V}, (∀ v ∈ acc, Gb v) → ∃ ds : List PyData, (∀ (B : Addr → Prop) (K : PySem.W.Frag) (H : Hp), DtAll B K H acc ds) ∧ ds.length = acc.length ∧ ∀ d ∈ ds, isBool d = true
  | [], _ => ⟨[], fun _ _ _ => .nil, rfl, fun d z => absurd z List.not_mem_nil⟩
  | v :: acc, h => by
    obtain ⟨ds, h1, h2, h3⟩ := gb_dt (acc := acc) fun u hu => h u (List.mem_cons_of_mem _ hu)
    obtain ⟨b, e⟩ := h v List.mem_cons_self
    subst e
    refine ⟨.bool b :: ds, fun B K H => .cons (.bl b) (h1 B K H), by rw [List.length_cons, List.length_cons, h2], fun d hd => ?_⟩
    rcases List.mem_cons.mp hd with hd | hd
    · rw [hd]
      rfl
    · exact h3 d hd
def RowD (L m : Int) (d : PyData) : Prop := ∃ is : List PyData, d = .tuple is ∧ (is.length : Int) = L ∧ ∀ i ∈ is, Ri m i
def B3 (a c R : Addr) : Addr → Prop := fun b => Bd a c b ∨ b = R
mutual
theorem Dt.weak {B B' : Addr → Prop} {K : PySem.W.Frag} {H : Hp} (k : ∀ b, B' b → B b) : ∀ (d : PyData) (v : V), Dt B K H v d → Dt B' K H v d
  | .none, _, h => by cases h; exact .non
  | .bool _, _, h => by cases h; exact .bl _
  | .int _, _, h => by cases h; exact .int _
  | .str _, _, h => by cases h; exact .str _
  | .list ds, _, h => by
    cases h with
    | lst nb ne hs ha => exact .lst (fun z => nb (k _ z)) ne hs (DtAll.weak k ds _ ha)
  | .tuple ds, _, h => by
    cases h with
    | tup nb hs ha => exact .tup (fun z => nb (k _ z)) hs (DtAll.weak k ds _ ha)
  | .dict _, _, h => by
    cases h with
    | emp nb e => exact .emp (fun z => nb (k _ z)) e
theorem DtAll.weak {B B' : Addr → Prop} {K : PySem.W.Frag} {H : Hp} (k : ∀ b, B' b → B b) : ∀ (ds : List PyData) (vs : List V), DtAll B K H vs ds → DtAll B' K H vs ds
  | [], _, h => by cases h; exact .nil
  | d :: ds, _, h => by
    cases h with
    | cons h1 h2 => exact .cons (Dt.weak k d _ h1) (DtAll.weak k ds _ h2)
end
theorem Keep.wide {B B' : Addr → Prop} {H H' : Hp} (k : ∀ b, B b → B' b) (h : Keep B H H') : Keep B' H H' := fun b o n e => h b o (fun z => n (k b z)) e
/-- the rows that are made so far -/
def MInv (K : PySem.W.Frag) (a c R : Addr) (H : Hp) (L m n0 : Int) (i : Nat) (H' : Hp) : Prop :=
  ∃ (cells : List Int) (n' : Int) (rvs : List V) (rds : List PyData), DeckAt a c cells n' H' ∧ n0 ≤ n' ∧ n' ≤ n0 + 6 * i ∧ Keep (Bd a c) H H' ∧ H' R = some (.lst rvs) ∧ DtAll (B3 a c R) K H' rvs rds ∧ rds.length = i ∧ ∀ r ∈ rds, RowD L m r
theorem mstep {K : PySem.W.Frag} {a c R q : Addr} {H H1 H2 : Hp} {L m n0 n1 n2 : Int} {i : Nat} {rvs acc : List V} {rds : List PyData} {cells2 : List Int} (hR0 : H R = none) (nR : ¬ Bd a c R) (hi : i ≤ 1000) (h0 : n0 ≤ n1) (h1 : n1 ≤ n0 + 6 * i) (kp : Keep (Bd a c) H H1) (hR : H1 R = some (.lst rvs)) (hd : DtAll (B3 a c R) K H1 rvs rds)
    (hl : rds.length = i) (hr : ∀ r ∈ rds, RowD L m r) (k2 : Keep (Bd a c) H1 H2) (dk : DeckAt a c cells2 n2 H2) (h2 : n1 ≤ n2) (h3 : n2 ≤ n1 + 6) (hG : ∀ v ∈ acc, Gi m v) (hL : (acc.length : Int) = L) (hq : H2 q = none) :
    ∃ rvs', (upd H2 q (.tup acc)) R = some (.lst rvs') ∧ rvs'.length < sizeLine ∧ MInv K a c R H L m n0 (i + 1) (upd (upd H2 q (.tup acc)) R (.lst (rvs' ++ [.ref q]))) := by
  have hR2 := k2 _ _ nR hR
  have nq : R ≠ q := ne_of_none hR2 hq
  have k3 : Keep (B3 a c R) H1 (upd (upd H2 q (.tup acc)) R (.lst (rvs ++ [.ref q]))) := fun b o nb z => by
    rw [upd_ne (fun z : b = R => nb (.inr z)), upd_ne (ne_of_none (k2 _ _ (fun z => nb (.inl z)) z) hq)]
    exact k2 _ _ (fun z => nb (.inl z)) z
  obtain ⟨ds, g1, g2, g3⟩ := gi_dt hG
  have hlv := hd.len
  refine ⟨rvs, by rw [upd_ne nq]; exact hR2, small1000 (by omega), cells2, n2, rvs ++ [.ref q], rds ++ [.tuple ds], deck_upd (deck_new dk hq) nR, by omega, by omega, fun b o nb z => ?_, upd_same, ?_, ?_, ?_⟩
  · rw [upd_ne (ne_of_none z hR0), upd_ne (ne_of_none (k2 _ _ nb (kp _ _ nb z)) hq)]
    exact k2 _ _ nb (kp _ _ nb z)
  · refine (DtAll.keep k3 _ _ hd).append (.cons (.tup (xs := acc) ?_ (.inl ?_) (g1 _ _ _)) .nil)
    · rintro (z | z)
      · exact deck_off dk hq z
      · exact nq z.symm
    · rw [upd_ne nq.symm, upd_same]
  · rw [List.length_append, hl]
    rfl
  · intro r hr2
    rcases List.mem_append.mp hr2 with hr2 | hr2
    · exact hr r hr2
    · rw [List.mem_singleton.mp hr2]
      exact ⟨ds, rfl, by rw [g2]; exact hL, g3⟩
def rTup (K : PySem.W.Frag) : List V → Hp → VK → Prop := fun xs H Q => ∃ p ys, xs = [.ref p] ∧ ((SqL K H p ys ∧ ∀ l, H l = none → Q (.ref l) (upd H l (.tup ys))) ∨ (SqT K H p ys ∧ Q (.ref p) H))
section
variable {P : Program} {w : World} {K : PySem.W.Frag} {mg : Str → Option Value} {base : Heap}
theorem scMach : FnScope ["_law_deck_here", "_law_letters", "_law_most", "_law_many", "_law_way", "_law_rows", "_law_state", "_law_at", "_law_further", "_law_items", "_law_item", "_law_often"] ["_law_deck_here", "_law_letters", "_law_most"] (defScope sMach) := ⟨rfl, rfl, rfl, by decide +kernel, rfl, by decide +kernel, by decide +kernel⟩
def MachD (K : PySem.W.Frag) (a c : Addr) (H : Hp) (v : V) (L M : Int) (rs es : List PyData) : Prop :=
  Dt (Bd a c) K H v (.tuple [.int L, .tuple rs, .tuple es]) ∧ 1 ≤ rs.length ∧ (rs.length : Int) ≤ M ∧ es.length = rs.length ∧ (∀ r ∈ rs, RowD L rs.length r) ∧ ∀ e ∈ es, isBool e = true
def spMach (K : PySem.W.Frag) : Sp := fun vs H Q _ => ∃ (a c : Addr) (cells : List Int) (n L M : Int), vs = [.ref a, .int L, .int M] ∧ DeckAt a c cells n H ∧ 0 ≤ n ∧ n ≤ 900000 ∧ 1 ≤ L ∧ L ≤ 3 ∧ 1 ≤ M ∧ M ≤ 10 ∧
  ∀ (H' : Hp) (cells' : List Int) (n' : Int) (v : V) (rs es : List PyData), DeckAt a c cells' n' H' → n ≤ n' → n' ≤ n + 100 → Keep (Bd a c) H H' → MachD K a c H' v L M rs es → Q v H'
theorem ok_mach {f fD fO : Addr} {fd fdD fdO : FuncData} (F : Fun K "_law_machine" "_law_machine" sMach f fd) (D : FnOk P w K mg base CX0 1 fD fdD ["_law_deck_here", "_law_many"] spDraw) (FD : Fun K "_law_draw" "_law_draw" sDraw fD fdD) (bD : Binds K fdD ["_law_deck_here", "_law_many"] []) (gD : mg "_law_draw" = some (.ref fD))
    (O : FnOk P w K mg base CX0 2 fO fdO ["_law_deck_here", "_law_items"] (spOne K)) (FO : Fun K "_law_one" "_law_one" sOne fO fdO) (bO : Binds K fdO ["_law_deck_here", "_law_items"] []) (gO : mg "_law_one" = some (.ref fO)) (T : Mg mg) :
    FnOk P w K mg base CX0 3 f fd ["_law_deck_here", "_law_letters", "_law_most"] (spMach K) := by
  refine F.ok scMach (fun vs H Q E h => ?_) (fun cdv A outer s H vs Q E hr h => ?_)
  · obtain ⟨a, c, cells, n, L, M, rfl, _⟩ := h
    rfl
  · obtain ⟨a, c, cells, n, L, M, rfl, dk, n0, n1, l1, l3, m1, m10, k⟩ := h
    refine ⟨_, pss_cons (ps_asg (pe_tup (pa_cons (pe_op op_add pe_int (pe_call D (hr.mono (by decide)) (by rfl) gD FD.kp bD .nil pass0 (pa_cons (pv 0) (pa_cons (pv 2) pa_nil)))) (pa_cons (pe_call D (hr.mono (by decide)) (by rfl) gD FD.kp bD .nil pass0 (pa_cons (pv 0) (pa_cons pe_int pa_nil))) (pa_cons (pe_lst pa_nil) pa_nil)))) (pg_tup rfl (pgs_cons (pg_name (i := 3) scMach.nd rfl (.inr rfl)) (pgs_cons (pg_name (i := 4) scMach.nd rfl (.inr rfl)) (pgs_cons (pg_name (i := 5) scMach.nd rfl (.inl rfl)) pgs_nil)))))
      (pss_cons (ps_for PassesOwn.never rfl (pi_range1 (by rfl) T.range (pa_cons (pv 3) pa_nil)) (pg_name (i := 6) scMach.nd rfl (.inr rfl))
        (pss_one (ps_if (pt_cmpR op_eq (pv 4) pe_int (nomark _)) (pss_one (ps_expr (pe_bm PySem.F.plainAttrs_list PySem.F.slot_list_append PySem.F.type_list_append mt_append (pv 5) (pa_cons (pe_callTy (r := rTup K) call_tuple_of (by rfl) T.tuple PyProof.Rows.boot_tuple (pa_cons (pe_lc (own := [("_law_at", 7)]) (g := gName 7) (tt := tYes) rfl scMach.nd (pi_range1 (by rfl) T.range (pa_cons (pv 1) pa_nil)) (blkOk_by (N := ["_law_deck_here", "_law_letters", "_law_most", "_law_many", "_law_way", "_law_rows", "_law_state", "_law_at", "_law_further", "_law_items", "_law_item", "_law_often"]) (sc := defScope sMach) (by decide +kernel)) (fun _ _ _ _ _ => pg_name (i := 7) scMach.nd rfl (Or.inl rfl)) (fun _ _ _ _ _ => pts_nil) (fun _ _ _ _ _ => pe_op op_mod (pe_callTy call_int1 (by rfl) T.int PyProof.Rows.boot_int (pa_cons (pe_op op_add (pv 6) pe_int) pa_nil)) (pv 3))) pa_nil)) pa_nil))))
          (pss_one (ps_if (pt_cmpR op_eq (pv 4) pe_int (nomark _))
            (pss_cons (ps_set (i := 8) scMach.nd rfl (.inr rfl) (pe_lst (pa_cons (pe_ifExp (pt_cmpR op_lt (pe_op op_add (pv 6) pe_int) (pv 3) (nomark _)) (pe_op op_add (pv 6) pe_int) pe_non) (pa_cons (pv 6) (pa_cons pe_non pa_nil)))))
              (pss_one (ps_expr (pe_bm PySem.F.plainAttrs_list PySem.F.slot_list_append PySem.F.type_list_append mt_append (pv 5) (pa_cons (pe_callTy (r := rTup K) call_tuple_of (by rfl) T.tuple PyProof.Rows.boot_tuple (pa_cons (pe_lc (own := [("_law_at", 7)]) (g := gName 7) (tt := tYes) rfl scMach.nd (pi_range1 (by rfl) T.range (pa_cons (pv 1) pa_nil)) (blkOk_by (N := ["_law_deck_here", "_law_letters", "_law_most", "_law_many", "_law_way", "_law_rows", "_law_state", "_law_at", "_law_further", "_law_items", "_law_item", "_law_often"]) (sc := defScope sMach) (by decide +kernel)) (fun _ _ _ _ _ => pg_name (i := 7) scMach.nd rfl (Or.inl rfl)) (fun _ _ _ _ _ => pts_nil) (fun _ _ _ _ _ => (pe_call O hr (by rfl) gO FO.kp bO .nil pass0 (pa_cons (pv 0) (pa_cons (pv 8) pa_nil))))) pa_nil)) pa_nil)))))
            (pss_cons (ps_setLc (i := 9) (own := [("_law_at", 7)]) (g := gName 7) (tt := tYes) rfl scMach.nd rfl rfl (sw_true rfl rfl rfl (by decide +kernel)) (pi_range1 (by rfl) T.range (pa_cons (pv 1) pa_nil)) (blkOk_by (N := ["_law_deck_here", "_law_letters", "_law_most", "_law_many", "_law_way", "_law_rows", "_law_state", "_law_at", "_law_further", "_law_items", "_law_item", "_law_often"]) (sc := defScope sMach) (by decide +kernel)) (fun _ _ _ _ _ => pg_name (i := 7) scMach.nd rfl (Or.inl rfl)) (fun _ _ _ _ _ => pts_nil) (fun _ _ _ _ _ => (pe_call D (hr.mono (by decide)) (by rfl) gD FD.kp bD .nil pass0 (pa_cons (pv 0) (pa_cons (pv 3) pa_nil)))))
              (pss_one (ps_expr (pe_bm PySem.F.plainAttrs_list PySem.F.slot_list_append PySem.F.type_list_append mt_append (pv 5) (pa_cons (pe_callTy (r := rTup K) call_tuple_of (by rfl) T.tuple PyProof.Rows.boot_tuple (pa_cons (pe_lc (own := [("_law_item", 10)]) (g := gName 10) (tt := tYes) rfl scMach.nd (pi_list (pv 9)) (blkOk_by (N := ["_law_deck_here", "_law_letters", "_law_most", "_law_many", "_law_way", "_law_rows", "_law_state", "_law_at", "_law_further", "_law_items", "_law_item", "_law_often"]) (sc := defScope sMach) (by decide +kernel)) (fun _ _ _ _ _ => pg_name (i := 10) scMach.nd rfl (Or.inl rfl)) (fun _ _ _ _ _ => pts_nil) (fun _ _ _ _ _ => pe_ifExp (pt_cmpR op_eq (pe_call D (hr.mono (by decide)) (by rfl) gD FD.kp bD .nil pass0 (pa_cons (pv 0) (pa_cons (pe_op op_add pe_int (pv 4)) pa_nil))) pe_int (nomark _)) pe_non (pv 10))) pa_nil)) pa_nil))))))))))
      (pss_cons (ps_set (i := 11) scMach.nd rfl (.inr rfl) (pe_call O hr (by rfl) gO FO.kp bO .nil pass0 (pa_cons (pv 0) (pa_cons (pe_lst (pa_cons pe_int (pa_cons pe_int (pa_cons pe_int (pa_cons pe_int pa_nil))))) pa_nil))))
      (pss_one (ps_ret (pe_tup (pa_cons (pv 1) (pa_cons (pe_callTy (r := rTup K) call_tuple_of (by rfl) T.tuple PyProof.Rows.boot_tuple (pa_cons (pv 5) pa_nil)) (pa_cons (pe_callTy (r := rTup K) call_tuple_of (by rfl) T.tuple PyProof.Rows.boot_tuple (pa_cons (pe_lc (own := [("_law_state", 6)]) (g := gName 6) (tt := tYes) rfl scMach.nd (pi_range1 (by rfl) T.range (pa_cons (pv 3) pa_nil)) (blkOk_by (N := ["_law_deck_here", "_law_letters", "_law_most", "_law_many", "_law_way", "_law_rows", "_law_state", "_law_at", "_law_further", "_law_items", "_law_item", "_law_often"]) (sc := defScope sMach) (by decide +kernel)) (fun _ _ _ _ _ => pg_name (i := 6) scMach.nd rfl (Or.inl rfl)) (fun _ _ _ _ _ => pts_nil) (fun _ _ _ _ _ => pe_cmpR op_eq (pe_call D (hr.mono (by decide)) (by rfl) gD FD.kp bD .nil pass0 (pa_cons (pv 0) (pa_cons (pv 11) pa_nil))) pe_int (nomark _))) pa_nil)) pa_nil)))))))), ?_⟩
    refine ⟨_, rfl, _, rfl, a, c, cells, n, M, rfl, dk, m1, by omega, n0, by omega, fun H1 cells1 r1 r0 rM dk1 k1 => ?_⟩
    refine ⟨1, r1, rfl, rfl, _, rfl, a, c, cells1, n + 1, 5, rfl, dk1, by decide, by decide, by omega, by omega, fun H2 cells2 r2 r20 r25 dk2 k2 => ?_⟩
    refine ⟨Nat.zero_le _, fun R hR => ?_⟩
    have nR := deck_off dk2 hR
    have k12 := k1.trans k2
    have dk3 := deck_new (o := .lst []) dk2 hR
    have k3 := k12.trans (keep_new (B := Bd a c) (o := .lst []) hR)
    have hR3 : upd H2 R (.lst []) R = some (.lst []) := upd_same
    refine ⟨(by show 3 ≤ sizeLine; decide), fun T3 hT => ?_⟩
    have dk4 := deck_new (o := .tup [.int (1 + r1), .int r2, .ref R]) dk3 hT
    have k4 := k3.trans (keep_new (B := Bd a c) (o := .tup [.int (1 + r1), .int r2, .ref R]) hT)
    have hR4 : upd (upd H2 R (.lst [])) T3 (.tup [.int (1 + r1), .int r2, .ref R]) R = some (.lst []) := by
      rw [upd_ne (ne_of_none hR3 hT)]
      exact hR3
    have hT4 : upd (upd H2 R (.lst [])) T3 (.tup [.int (1 + r1), .int r2, .ref R]) T3 = some (.tup [.int (1 + r1), .int r2, .ref R]) := upd_same
    have hR0 : H R = none := by
      cases z : H R with
      | none => rfl
      | some o =>
        rw [k12 _ _ nR z] at hR
        cases hR
    refine ⟨T3, _, rfl, SqT.of hT4, rfl, _, _, rfl, _, _, rfl, _, _, rfl, rfl, ?_⟩
    obtain ⟨m, em⟩ : ∃ m, m = 1 + r1 := ⟨_, rfl⟩
    have hm1 : 1 ≤ m := by omega
    have hmM : m ≤ M := by omega
    have lo62 : ∀ z : Int, 0 ≤ z → z ≤ 10 → -(2 ^ 62) ≤ z ∧ z < 2 ^ 62 := fun z z0 z1 => ⟨by omega, by omega⟩
    refine ⟨_, rfl, m, by rw [em], (lo62 m (by omega) (by omega)).1, (lo62 m (by omega) (by omega)).2, ?_⟩
    refine for_range (lo := 0) (n := m.toNat) (fun i σ H' => (∃ y6 y8 y9, σ = [some (.ref a), some (.int L), some (.int M), some (.int m), some (.int r2), some (.ref R), y6, none, y8, y9, none, none]) ∧ MInv K a c R H L m (n + 2) i H')
      ⟨⟨none, none, none, by rw [em]; rfl⟩, cells2, n + 1 + 1, [], [], dk4, by omega, by omega, k4, hR4, .nil, rfl, fun r z => absurd z List.not_mem_nil⟩ ?_ ?_
    · rintro i σ H5 hi ⟨⟨y6, y8, y9, rfl⟩, cells5, n5, rvs, rds, dk5, hn5, hn5', k5, hR5, hd5, hl5, hr5⟩
      have hi10 : i < 10 := by omega
      -- what each of the three ways has at its end
      have stp : ∀ (y8' y9' : Option V) (H6 : Hp) (cells6 : List Int) (n6 : Int) (acc : List V) (q : Addr), Keep (Bd a c) H5 H6 → DeckAt a c cells6 n6 H6 → n5 ≤ n6 → n6 ≤ n5 + 6 → (∀ v ∈ acc, Gi m v) → (acc.length : Int) = L → H6 q = none →
          ∃ rvs', (upd H6 q (.tup acc)) R = some (.lst rvs') ∧ rvs'.length < sizeLine ∧ ((∃ y6 y8 y9, [some (V.ref a), some (.int L), some (.int M), some (.int m), some (.int r2), some (.ref R), some (.int (0 + i)), none, y8', y9', none, none] = [some (V.ref a), some (.int L), some (.int M), some (.int m), some (.int r2), some (.ref R), y6, none, y8, y9, none, none]) ∧ MInv K a c R H L m (n + 2) (i + 1) (upd (upd H6 q (.tup acc)) R (.lst (rvs' ++ [.ref q])))) := by
        intro y8' y9' H6 cells6 n6 acc q k6 dk6 h1 h2 hG hL hq
        obtain ⟨rvs', e1, e2, e3⟩ := mstep hR0 nR (by omega) hn5 hn5' k5 hR5 hd5 hl5 hr5 k6 dk6 h1 h2 hG hL hq
        exact ⟨rvs', e1, e2, ⟨_, _, _, rfl⟩, e3⟩
      refine ⟨_, rfl, rfl, _, rfl, ite2 (fun hw0 => ?_) (fun hw0 => ?_)⟩
      · -- a ring
        refine ⟨.ref R, rfl, .inl ⟨rfl, _, SqL.of hR5⟩, ?_⟩
        refine ⟨_, rfl, L, rfl, (lo62 L (by omega) (by omega)).1, (lo62 L (by omega) (by omega)).2, fun D hD => ?_⟩
        have nD := deck_off dk5 hD
        refine lc_range (lo := 0) (n := L.toNat) (CInv a c D H5 (Gi m) n5 0) (cstart dk5 hD) ?_ ?_
        · rintro j H6 hj ⟨cells6, n6, acc, dk6, h1, h2, k6, hD6, hl6, hG6⟩
          refine ⟨rfl, _, rfl, _, 1, rfl, rfl, .inl ⟨_, rfl, _, rfl, _, m, rfl, rfl, by omega, ?_⟩⟩
          exact cstep hD nD (by omega) h1 h2 k6 hD6 hl6 hG6 dk6 (Int.le_refl _) (by omega) Keep.rfl' (.inr ⟨_, rfl, Int.emod_nonneg _ (by omega), Int.emod_lt_of_pos _ (by omega)⟩)
        · rintro H6 ⟨cells6, n6, acc, dk6, h1, h2, k6, hD6, hl6, hG6⟩
          refine ⟨D, acc, rfl, .inl ⟨SqL.of hD6, fun q hq => ?_⟩⟩
          obtain ⟨rvs', e1, e2, e3⟩ := stp y8 y9 H6 cells6 n6 acc q k6 dk6 h1 (by omega) hG6 (by rw [hl6]; omega) hq
          exact ⟨R, _, _, rfl, rfl, e1, e2, e3⟩
      · refine ⟨_, rfl, rfl, _, rfl, ite2 (fun hw1 => ?_) (fun hw1 => ?_)⟩
        · -- a row of states
          refine ⟨_, rfl, _, 1, rfl, rfl, _, rfl, _, m, rfl, rfl, _, rfl, ite2 (fun hlt => ?_) (fun hlt => ?_)⟩
          · have hlt := of_decide_eq_true hlt
            refine ⟨_, rfl, _, 1, rfl, rfl, _, rfl, (by show 3 ≤ sizeLine; decide), fun Fu hFu => ?_⟩
            have g0 : Gi m (.int (0 + i + 1)) := .inr ⟨_, rfl, by omega, by omega⟩
            have g1 : Gi m (.int (0 + i)) := .inr ⟨_, rfl, by omega, by omega⟩
            have dkF := deck_new (o := .lst [V.int (0 + i + 1), .int (0 + i), .non]) dk5 hFu
            have nF := deck_off dk5 hFu
            have kF : Keep (Bd a c) H5 (upd H5 Fu (.lst [V.int (0 + i + 1), .int (0 + i), .non])) := keep_new hFu
            have hRF := kF _ _ nR hR5
            have hFF : upd H5 Fu (.lst [V.int (0 + i + 1), .int (0 + i), .non]) Fu = some (.lst [V.int (0 + i + 1), .int (0 + i), .non]) := upd_same
            have gF : ∀ x ∈ [V.int (0 + i + 1), V.int (0 + i), V.non], Gi m x := fun x hx => by
              rcases List.mem_cons.mp hx with hx | hx
              · rw [hx]
                exact g0
              · rcases List.mem_cons.mp hx with hx | hx
                · rw [hx]
                  exact g1
                · rw [List.mem_singleton.mp hx]
                  exact .inl rfl
            refine ⟨.ref R, rfl, .inl ⟨rfl, _, SqL.of hRF⟩, ?_⟩
            refine ⟨_, rfl, L, rfl, (lo62 L (by omega) (by omega)).1, (lo62 L (by omega) (by omega)).2, fun D hD => ?_⟩
            have nD := deck_off dkF hD
            refine lc_range (lo := 0) (n := L.toNat) (CInv a c D (upd H5 Fu (.lst [V.int (0 + i + 1), .int (0 + i), .non])) (Gi m) n5 1) (cstart dkF hD) ?_ ?_
            · rintro j H6 hj ⟨cells6, n6, acc, dk6, h1, h2, k6, hD6, hl6, hG6⟩
              refine ⟨rfl, _, rfl, _, rfl, a, c, Fu, cells6, n6, _, rfl, dk6, by omega, by omega, SqL.of (k6 _ _ nF hFF), nF, List.cons_ne_nil _ _, (by show 3 ≤ 1000; decide), fun H7 cells7 x hx dk7 k7 => ?_⟩
              exact cstep hD nD (by omega) h1 h2 k6 hD6 hl6 hG6 dk7 (by omega) (by omega) k7 (gF x hx)
            · rintro H6 ⟨cells6, n6, acc, dk6, h1, h2, k6, hD6, hl6, hG6⟩
              refine ⟨D, acc, rfl, .inl ⟨SqL.of hD6, fun q hq => ?_⟩⟩
              obtain ⟨rvs', e1, e2, e3⟩ := stp (some (.ref Fu)) y9 H6 cells6 n6 acc q (kF.trans k6) dk6 h1 (by omega) hG6 (by rw [hl6]; omega) hq
              exact ⟨R, _, _, rfl, rfl, e1, e2, e3⟩
          · refine ⟨_, rfl, (by show 3 ≤ sizeLine; decide), fun Fu hFu => ?_⟩
            have g0 : Gi m .non := .inl rfl
            have g1 : Gi m (.int (0 + i)) := .inr ⟨_, rfl, by omega, by omega⟩
            have dkF := deck_new (o := .lst [V.non, .int (0 + i), .non]) dk5 hFu
            have nF := deck_off dk5 hFu
            have kF : Keep (Bd a c) H5 (upd H5 Fu (.lst [V.non, .int (0 + i), .non])) := keep_new hFu
            have hRF := kF _ _ nR hR5
            have hFF : upd H5 Fu (.lst [V.non, .int (0 + i), .non]) Fu = some (.lst [V.non, .int (0 + i), .non]) := upd_same
            have gF : ∀ x ∈ [V.non, V.int (0 + i), V.non], Gi m x := fun x hx => by
              rcases List.mem_cons.mp hx with hx | hx
              · rw [hx]
                exact g0
              · rcases List.mem_cons.mp hx with hx | hx
                · rw [hx]
                  exact g1
                · rw [List.mem_singleton.mp hx]
                  exact .inl rfl
            refine ⟨.ref R, rfl, .inl ⟨rfl, _, SqL.of hRF⟩, ?_⟩
            refine ⟨_, rfl, L, rfl, (lo62 L (by omega) (by omega)).1, (lo62 L (by omega) (by omega)).2, fun D hD => ?_⟩
            have nD := deck_off dkF hD
            refine lc_range (lo := 0) (n := L.toNat) (CInv a c D (upd H5 Fu (.lst [V.non, .int (0 + i), .non])) (Gi m) n5 1) (cstart dkF hD) ?_ ?_
            · rintro j H6 hj ⟨cells6, n6, acc, dk6, h1, h2, k6, hD6, hl6, hG6⟩
              refine ⟨rfl, _, rfl, _, rfl, a, c, Fu, cells6, n6, _, rfl, dk6, by omega, by omega, SqL.of (k6 _ _ nF hFF), nF, List.cons_ne_nil _ _, (by show 3 ≤ 1000; decide), fun H7 cells7 x hx dk7 k7 => ?_⟩
              exact cstep hD nD (by omega) h1 h2 k6 hD6 hl6 hG6 dk7 (by omega) (by omega) k7 (gF x hx)
            · rintro H6 ⟨cells6, n6, acc, dk6, h1, h2, k6, hD6, hl6, hG6⟩
              refine ⟨D, acc, rfl, .inl ⟨SqL.of hD6, fun q hq => ?_⟩⟩
              obtain ⟨rvs', e1, e2, e3⟩ := stp (some (.ref Fu)) y9 H6 cells6 n6 acc q (kF.trans k6) dk6 h1 (by omega) hG6 (by rw [hl6]; omega) hq
              exact ⟨R, _, _, rfl, rfl, e1, e2, e3⟩
        · -- drawn items
          refine ⟨_, rfl, L, rfl, (lo62 L (by omega) (by omega)).1, (lo62 L (by omega) (by omega)).2, fun D hD => ?_⟩
          have nD := deck_off dk5 hD
          refine lc_range (lo := 0) (n := L.toNat) (CInv a c D H5 (Gi m) n5 1) (cstart dk5 hD) ?_ ?_
          · rintro j H6 hj ⟨cells6, n6, acc, dk6, h1, h2, k6, hD6, hl6, hG6⟩
            refine ⟨rfl, _, rfl, _, rfl, a, c, cells6, n6, m, rfl, dk6, hm1, by omega, by omega, by omega, fun H7 cells7 r r0 rm dk7 k7 => ?_⟩
            exact cstep hD nD (by omega) h1 h2 k6 hD6 hl6 hG6 dk7 (by omega) (by omega) k7 (.inr ⟨r, rfl, r0, rm⟩)
          · rintro H6 ⟨cells6, n6, acc, dk6, h1, h2, k6, hD6, hl6, hG6⟩
            have hR6 := k6 _ _ nR hR5
            refine ⟨.ref R, rfl, .inl ⟨rfl, _, SqL.of hR6⟩, ?_⟩
            refine ⟨_, rfl, D, rfl, ⟨_, SqL.of hD6⟩, fun D2 hD2 => ?_⟩
            have nD2 := deck_off dk6 hD2
            refine lc_list (K := K) (a := D) (xs := acc) (CInv a c D2 H6 (Gi m) n6 1) (cstart dk6 hD2) (fun j H7 _ p => ?_) ?_ ?_
            · obtain ⟨_, _, _, _, _, _, k7, _⟩ := p
              exact SqL.of (k7 _ _ nD hD6)
            · rintro j y H7 hy ⟨cells7, n7, acc7, dk7, h3, h4, k7, hD7, hl7, hG7⟩
              have hj := (List.getElem?_eq_some_iff.mp hy).1
              refine ⟨rfl, _, rfl, _, rfl, 3, r2, rfl, rfl, a, c, cells7, n7, 3 + r2, rfl, dk7, by omega, by omega, by omega, by omega, fun H8 cells8 r r0 rm dk8 k8 => ?_⟩
              refine ⟨rfl, _, rfl, ite2 (fun _ => ?_) (fun _ => ?_)⟩
              · exact cstep hD2 nD2 (by omega) h3 h4 k7 hD7 hl7 hG7 dk8 (by omega) (by omega) k8 (.inl rfl)
              · exact ⟨y, rfl, cstep hD2 nD2 (by omega) h3 h4 k7 hD7 hl7 hG7 dk8 (by omega) (by omega) k8 (hG6 y (List.mem_of_getElem? hy))⟩
            · rintro H7 ⟨cells7, n7, acc7, dk7, h3, h4, k7, hD7, hl7, hG7⟩
              refine ⟨D2, acc7, rfl, .inl ⟨SqL.of hD7, fun q hq => ?_⟩⟩
              obtain ⟨rvs', e1, e2, e3⟩ := stp y8 (some (.ref D)) H7 cells7 n7 acc7 q (k6.trans k7) dk7 (by omega) (by omega) hG7 (by rw [hl7, hl6]; omega) hq
              exact ⟨R, _, _, rfl, rfl, e1, e2, e3⟩
    · rintro σ H5 ⟨⟨y6, y8, y9, rfl⟩, cells5, n5, rvs, rds, dk5, hn5, hn5', k5, hR5, hd5, hl5, hr5⟩
      have hml : (rds.length : Int) = m := by omega
      refine ⟨_, rfl, (by show 4 ≤ sizeLine; decide), fun O4 hO4 => ?_⟩
      have dkO := deck_new (o := .lst [.int 2, .int 2, .int 3, .int 5]) dk5 hO4
      have kO : Keep (Bd a c) H5 (upd H5 O4 (.lst [.int 2, .int 2, .int 3, .int 5])) := keep_new hO4
      refine ⟨a, c, O4, cells5, n5, _, rfl, dkO, by omega, by omega, SqL.of upd_same, deck_off dk5 hO4, List.cons_ne_nil _ _, (by show 4 ≤ 1000; decide), fun H6 cells6 x hx dk6 k6 => ?_⟩
      obtain ⟨o, rfl, ho1, ho5⟩ : ∃ o : Int, x = .int o ∧ 1 ≤ o ∧ o ≤ 5 := by
        simp only [List.mem_cons, List.not_mem_nil, or_false] at hx
        rcases hx with hx | hx | hx | hx <;> exact ⟨_, hx, by decide, by decide⟩
      have k56 := kO.trans k6
      have hR6 := k56 _ _ nR hR5
      refine ⟨_, rfl, _, rfl, R, rvs, rfl, .inl ⟨SqL.of hR6, fun pr hpr => ?_⟩⟩
      have dk7 := deck_new (o := .tup rvs) dk6 hpr
      have k67 : Keep (Bd a c) H6 (upd H6 pr (.tup rvs)) := keep_new hpr
      have hpr7 : upd H6 pr (.tup rvs) pr = some (.tup rvs) := upd_same
      refine ⟨_, rfl, m, rfl, (lo62 m (by omega) (by omega)).1, (lo62 m (by omega) (by omega)).2, fun D hD => ?_⟩
      have nD := deck_off dk7 hD
      refine lc_range (lo := 0) (n := m.toNat) (CInv a c D (upd H6 pr (.tup rvs)) Gb (n5 + 1) 1) (cstart dk7 hD) ?_ ?_
      · rintro j H8 hj ⟨cells8, n8, acc8, dk8, h1, h2, k8, hD8, hl8, hG8⟩
        refine ⟨rfl, _, rfl, _, rfl, a, c, cells8, n8, o, rfl, dk8, ho1, by omega, by omega, by omega, fun H9 cells9 r r0 rm dk9 k9 => ⟨rfl, ?_⟩⟩
        exact cstep hD nD (by omega) h1 h2 k8 hD8 hl8 hG8 dk9 (by omega) (by omega) k9 ⟨_, rfl⟩
      · rintro H8 ⟨cells8, n8, acc8, dk8, h1, h2, k8, hD8, hl8, hG8⟩
        refine ⟨D, acc8, rfl, .inl ⟨SqL.of hD8, fun pe hpe => ?_⟩⟩
        refine ⟨(by show 3 ≤ sizeLine; decide), fun p hp => ?_⟩
        obtain ⟨eds, ge1, ge2, ge3⟩ := gb_dt hG8
        have dk9 := deck_new (o := .tup acc8) dk8 hpe
        have k89 : Keep (Bd a c) H8 (upd H8 pe (.tup acc8)) := keep_new hpe
        have hpe9 : upd H8 pe (.tup acc8) pe = some (.tup acc8) := upd_same
        have dk10 := deck_new (o := .tup [.int L, .ref pr, .ref pe]) dk9 hp
        have k910 : Keep (Bd a c) (upd H8 pe (.tup acc8)) (upd (upd H8 pe (.tup acc8)) p (.tup [.int L, .ref pr, .ref pe])) := keep_new hp
        have hp10 : upd (upd H8 pe (.tup acc8)) p (.tup [.int L, .ref pr, .ref pe]) p = some (.tup [.int L, .ref pr, .ref pe]) := upd_same
        have k710 := k8.trans (k89.trans k910)
        have k510 := k56.trans (k67.trans k710)
        have npr := deck_off dk6 hpr
        have npe := deck_off dk8 hpe
        refine k _ cells8 n8 _ rds eds dk10 (by omega) (by omega) (k5.trans k510) ⟨.tup (deck_off dk9 hp) (.inl hp10) (.cons (.int L) (.cons (.tup npr (.inl (k710 _ _ npr hpr7)) ?_) (.cons (.tup npe (.inl (k910 _ _ npe hpe9)) (ge1 _ _ _)) .nil))), by omega, by omega, by omega, fun r hr2 => ?_, ge3⟩
        · exact DtAll.keep k510 _ _ (DtAll.weak (fun b hb => .inl hb) _ _ hd5)
        · rw [hml]
          exact hr5 r hr2
end
section
variable {X : Cx}
/-- []: new, and no table of modules -/
def tNilN : TE := fun _ H Q => ∀ p, H p = none → p ≠ sysModules → Q (.ref p) (upd H p (.lst []))
theorem pe_nilN {pos : Pos} : PE X (.List [] pos) tNilN := by
  refine ⟨fun pins s σ H Q I h => ?_⟩
  refine wpAny_List_spliced (thn (pa_nil.run pos pins s σ H (fun xs H1 => xs = [] ∧ H1 = H) I ⟨rfl, rfl⟩) ?_)
  rintro us s1 ⟨xs, H1, I1, r, rfl, rfl⟩
  cases r
  exact ⟨Nat.zero_le _, .ref s1.heap.objs.size, _, I1.laid (o := .lst []) (t' := s1.toks) (fun b u e => Heap.get?_push_of_some _ e) (Nat.le_refl _) ⟨Nat.zero_le _, [], 0, .nil, Heap.get?_push_size _ rfl⟩, rfl, h _ (I1.hok.fresh (Nat.le_refl _)) (Nat.ne_of_gt I1.big)⟩
/-- list(t): new, and no table of modules -/
def rListN (K : PySem.W.Frag) : List V → Hp → VK → Prop := fun xs H Q => ∃ p ys, xs = [.ref p] ∧ SqT K H p ys ∧ ∀ l, H l = none → l ≠ sysModules → Q (.ref l) (upd H l (.lst ys))
theorem call_listN : CallR X (.type "list") (rListN X.K) := by
  intro pins s σ H xs us Q I r h
  obtain ⟨p, ys, rfl, hq, q⟩ := h
  obtain ⟨u, rfl, rx⟩ := vals1 r
  cases rx
  obtain ⟨its, rv, pl, hz⟩ := I.tuple hq
  have hlen := rv.length
  obtain ⟨o, ho, hc, n, hd⟩ := id pl
  refine call_list_seq p (.inr rfl) ho hc hd (fun h' c' kp e => ?_) (by simp only [List.size_toArray]; omega)
  exact ⟨.ref s.heap.objs.size, _, I.laid (t' := s.toks) kp (Nat.le_refl _) (show ObjOk X.prog X.w _ h' _ (.lst ys) from ⟨hz, its, c', rv, e⟩), rfl, q _ (I.hok.fresh (Nat.le_refl _)) (Nat.ne_of_gt I.big)⟩
/-- t[lo:hi], some tuple of the cut: t or a new one -/
def rSlS (K : PySem.W.Frag) : V → Option Int → Option Int → Hp → VK → Prop := fun x lo hi H Q => ∃ a xs, x = .ref a ∧ Rd H a (.tup xs) ∧ ∀ q H', Same H H' → Rd H' q (.tup (cutV xs lo hi)) → (q = a ∨ H q = none) → Q (.ref q) H'
theorem sl_tupS : SlR X (rSlS X.K) := by
  intro pins s σ H x v vl vu lo hi sl Q I rx hs pl pu h
  obtain ⟨a, xs, rfl, hx, q⟩ := h
  refine sl_tupA pins s σ H _ v vl vu lo hi sl Q I rx hs pl pu ⟨a, xs, rfl, .inl hx, fun hw => ?_, fun hw p hp => ?_⟩
  · refine q a H (Same.refl H) ?_ (.inl rfl)
    have e : cutV xs lo hi = xs := by
      unfold cutV
      rw [hw.1, hw.2, List.drop_zero, Nat.sub_zero, List.take_length]
    rw [e]
    exact hx
  · exact q p _ (same_new hp) (.inl upd_same) (.inr hp)
/-- t + u, some tuple of both -/
def rCatS (K : PySem.W.Frag) : R2 := fun x y H Q => ∃ a b xs ys, x = .ref a ∧ y = .ref b ∧ Rd H a (.tup xs) ∧ Rd H b (.tup ys) ∧ xs.length + ys.length ≤ sizeLine ∧ ∀ q H', Same H H' → Rd H' q (.tup (xs ++ ys)) → (q = a ∨ q = b ∨ H q = none) → Q (.ref q) H'
theorem op_catS : OpR X (binaryOp .Add) (rCatS X.K) := by
  intro pins s σ H x y v u Q I rx ry h
  obtain ⟨a, b, xs, ys, rfl, rfl, hx, hy, hz, q⟩ := h
  refine op_catA pins s σ H _ _ v u Q I rx ry ⟨a, b, xs, ys, rfl, rfl, .inl hx, .inl hy, hz, fun e => ?_, fun _ e => ?_, fun _ _ p hp => ?_⟩
  · subst e
    exact q b H (Same.refl H) hy (.inr (.inl rfl))
  · subst e
    refine q a H (Same.refl H) ?_ (.inl rfl)
    rw [List.append_nil]
    exact hx
  · exact q p _ (same_new hp) (.inl upd_same) (.inr (.inr hp))
end
theorem cut_take (xs : List V) (j : Nat) (h : j ≤ xs.length) : cutV xs none (some (j : Int)) = xs.take j := by
  unfold cutV
  rw [HT.sIx_none, HT.sIx_nat, List.drop_zero, Nat.sub_zero, Nat.min_eq_left h]
theorem cut_drop (xs : List V) (j : Nat) (h : j ≤ xs.length) : cutV xs (some (j : Int)) none = xs.drop j := by
  unfold cutV
  rw [HT.sIx_none, HT.sIx_nat, Nat.min_eq_left h]
  exact List.take_of_length_le (by rw [List.length_drop]; omega)
theorem cut_mid (xs : List V) (j : Nat) (h : j < xs.length) : cutV xs (some (j : Int)) (some ((j + 1 : Nat) : Int)) = (xs.drop j).take 1 := by
  unfold cutV
  rw [HT.sIx_nat, HT.sIx_nat, Nat.min_eq_left (by omega), Nat.min_eq_left (by omega)]
  congr 1
  omega
/-! ### small data -/
mutual
def sm : PyData → Bool
  | .none => true
  | .bool _ => true
  | .int i => decide (i.natAbs ≤ 10 ^ 30)
  | .str x => decide ((reprText x).length ≤ 20)
  | .list xs => smAll xs
  | .tuple xs => smAll xs
  | .dict kvs => kvs.isEmpty
def smAll : List PyData → Bool
  | [] => true
  | x :: xs => sm x && smAll xs
end
theorem smAll_iff : ∀ xs : List PyData, smAll xs = true ↔ ∀ x ∈ xs, sm x = true
  | [] => by simp [smAll]
  | x :: xs => by
    rw [smAll, Bool.and_eq_true, smAll_iff xs]
    simp
theorem sm_tup (xs : List PyData) : sm (.tuple xs) = true ↔ ∀ x ∈ xs, sm x = true := by rw [sm]; exact smAll_iff xs
theorem sm_lst (xs : List PyData) : sm (.list xs) = true ↔ ∀ x ∈ xs, sm x = true := by rw [sm]; exact smAll_iff xs
theorem depthAll_le : ∀ {xs : List PyData} {n : Nat}, PyData.depthAll xs ≤ n ↔ ∀ x ∈ xs, x.depth ≤ n
  | [], n => by simp [PyData.depthAll]
  | x :: xs, n => by
    rw [PyData.depthAll, Nat.max_le, depthAll_le (xs := xs)]
    simp
theorem depth_tup (xs : List PyData) : (PyData.tuple xs).depth = PyData.depthAll xs + 1 := by rw [PyData.depth]
theorem depth_lst (xs : List PyData) : (PyData.list xs).depth = PyData.depthAll xs + 1 := by rw [PyData.depth]
mutual
theorem sm_show : ∀ d : PyData, sm d = true → d.showable = true
  | .none, _ => by simp [PyData.showable]
  | .bool _, _ => by simp [PyData.showable]
  | .int i, h => by
    rw [sm, decide_eq_true_eq] at h
    rw [PyData.showable, decide_eq_true_eq]
    have h2 : i.natAbs < 2 ^ 100 := Nat.lt_of_le_of_lt h (by decide)
    by_cases z : i.natAbs = 0
    · rw [z]
      decide
    · exact Nat.lt_trans ((Nat.log2_lt z).mpr h2) (by decide)
  | .str _, _ => by simp [PyData.showable]
  | .list xs, h => by
    rw [PyData.showable]
    exact smAll_show xs (by rw [sm] at h; exact h)
  | .tuple xs, h => by
    rw [PyData.showable]
    exact smAll_show xs (by rw [sm] at h; exact h)
  | .dict kvs, h => by
    rw [sm] at h
    rw [List.isEmpty_iff.mp h]
    simp [PyData.showable, PyData.showableKv]
theorem smAll_show : ∀ xs : List PyData, smAll xs = true → PyData.showableAll xs = true
  | [], _ => by simp [PyData.showableAll]
  | x :: xs, h => by
    rw [smAll, Bool.and_eq_true] at h
    rw [PyData.showableAll, sm_show x h.1, smAll_show xs h.2]
    rfl
end
mutual
theorem sm_len : ∀ d : PyData, sm d = true → d.shown.length + 5 ≤ 60 * nodes d
  | .none, _ => by
    rw [PyData.shown, nodes]
    decide +kernel
  | .bool b, _ => by
    rw [PyData.shown, nodes]
    cases b <;> decide +kernel
  | .int i, h => by
    rw [sm, decide_eq_true_eq] at h
    rw [PyData.shown, nodes, PySem.ofString_length]
    have := int_text_length_le10 (a := i) (k := 31) (by decide) (Nat.lt_of_le_of_lt h (by decide))
    omega
  | .str x, h => by
    rw [sm, decide_eq_true_eq] at h
    rw [PyData.shown, nodes]
    omega
  | .list xs, h => by
    rw [PyData.shown, nodes]
    have h1 := smAll_len xs (by rw [sm] at h; exact h)
    have h2 := listText_len_le (PyData.shownAll xs)
    omega
  | .tuple xs, h => by
    rw [PyData.shown, nodes]
    have h1 := smAll_len xs (by rw [sm] at h; exact h)
    have h2 := tupleText_len_le (PyData.shownAll xs)
    omega
  | .dict kvs, h => by
    rw [sm] at h
    rw [List.isEmpty_iff.mp h, PyData.shown, PyData.shownKv, nodes]
    have h2 := dictText_len_le []
    simp only [List.map_nil, List.sum_nil, List.length_nil] at h2
    omega
theorem smAll_len : ∀ xs : List PyData, smAll xs = true → ((PyData.shownAll xs).map (·.length)).sum + 2 * (PyData.shownAll xs).length ≤ 60 * nodesAll xs
  | [], _ => by
    rw [PyData.shownAll, nodesAll]
    decide
  | x :: xs, h => by
    rw [smAll, Bool.and_eq_true] at h
    have h1 := sm_len x h.1
    have h2 := smAll_len xs h.2
    rw [PyData.shownAll, nodesAll, List.map_cons, List.sum_cons, List.length_cons]
    omega
end
theorem sm_fits {d : PyData} (h : sm d = true) (hn : nodes d ≤ 100000) : d.shown.length ≤ sizeLine := by
  have := sm_len d h
  exact Nat.le_trans (show d.shown.length ≤ 6000000 by omega) (by decide)
/-- the odd values, as data -/
def ods : List PyData := [.none, .bool true, .bool false, .int 0, .int (-1), .int 1, .int 2, .int 7, .int 400, .int (10 ^ 30), .str "", .str "a", .tuple [], .list [], .dict [], .tuple [.int 0], .tuple [.none], .tuple [.bool true], .tuple [.tuple [.int 0]]]
theorem ods_ok : ∀ d ∈ ods, sm d = true ∧ nodes d ≤ 3 ∧ d.depth ≤ 2 := by decide +kernel
/-- all of B is tracked -/
def TB (B : Addr → Prop) (H : Hp) : Prop := ∀ b, B b → H b ≠ none
theorem tb_off {B : Addr → Prop} {H : Hp} {p : Addr} (tb : TB B H) (n : H p = none) : ¬ B p := fun z => tb p z n
theorem tb_upd {B : Addr → Prop} {H : Hp} {p : Addr} {o : HO} (tb : TB B H) : TB B (upd H p o) := fun b z e => by
  by_cases h : b = p
  · rw [h, upd_same] at e
    cases e
  · rw [upd_ne h] at e
    exact tb b z e
theorem tb_same {B : Addr → Prop} {H H' : Hp} (s : Same H H') (tb : TB B H) : TB B H' := fun b z e => by
  cases q : H b with
  | none => exact tb b z q
  | some o =>
    rw [s b o q] at e
    cases e
theorem tb_keep {B : Addr → Prop} {H H' : Hp} {a c : Addr} {cells : List Int} {n : Int} (tb : TB B H) (dk : DeckAt a c cells n H') (k : Keep (Bd a c) H H') : TB B H' := fun b z e => by
  by_cases h : Bd a c b
  · exact deck_off dk e h
  · cases q : H b with
    | none => exact tb b z q
    | some o =>
      rw [k b o h q] at e
      cases e
theorem new_tup {B : Addr → Prop} {p : Addr} {K : PySem.W.Frag} {H : Hp} {xs : List V} {ds : List PyData} (tb : TB B H) (h : H p = none) (ha : DtAll B K (upd H p (.tup xs)) xs ds) : Dt B K (upd H p (.tup xs)) (.ref p) (.tuple ds) :=
  .tup (tb_off tb h) (.inl upd_same) ha
theorem same_rd {H H' : Hp} {a : Addr} {o : HO} (s : Same H H') (h : Rd H a o) : Rd H' a o := Keep.rd (B := fun _ => False) (Keep.same s) (fun z => z) h
theorem deck_same {a c : Addr} {cells : List Int} {n : Int} {H H' : Hp} (s : Same H H') (h : DeckAt a c cells n H) : DeckAt a c cells n H' := ⟨h.1, s _ _ h.2.1, s _ _ h.2.2.1, h.2.2.2.1, h.2.2.2.2⟩
theorem sz_of {n : Nat} (h : n ≤ 100000) : n ≤ sizeLine := Nat.le_trans h (by decide)
theorem nb_of {B : Addr → Prop} {p q : Addr} {H : Hp} (tb : TB B H) (np : ¬ B p) (h : q = p ∨ H q = none) : ¬ B q := by
  rcases h with h | h
  · rw [h]
    exact np
  · exact tb_off tb h
theorem nb_of2 {B : Addr → Prop} {p r q : Addr} {H : Hp} (tb : TB B H) (np : ¬ B p) (nr : ¬ B r) (h : q = p ∨ q = r ∨ H q = none) : ¬ B q := by
  rcases h with h | h | h
  · rw [h]
    exact np
  · rw [h]
    exact nr
  · exact tb_off tb h
theorem same_seqL {K : PySem.W.Frag} {H H' : Hp} {a : Addr} {xs : List V} (s : Same H H') (h : SqL K H a xs) : SqL K H' a xs := L2.Same.seq s h
theorem sub_ok {ds es : List PyData} (h : sm (.tuple ds) = true) (hs : ∀ x ∈ es, x ∈ ds) : sm (.tuple es) = true ∧ (PyData.tuple es).depth ≤ (PyData.tuple ds).depth + 2 ∧ sm (.list es) = true ∧ (PyData.list es).depth ≤ (PyData.tuple ds).depth + 2 := by
  have h1 := (sm_tup ds).mp h
  have h2 : ∀ x ∈ ds, x.depth ≤ PyData.depthAll ds := depthAll_le.mp (Nat.le_refl _)
  have h3 : PyData.depthAll es ≤ PyData.depthAll ds := depthAll_le.mpr fun x hx => h2 x (hs x hx)
  refine ⟨(sm_tup es).mpr fun x hx => h1 x (hs x hx), ?_, (sm_lst es).mpr fun x hx => h1 x (hs x hx), ?_⟩
  · rw [depth_tup, depth_tup]
    omega
  · rw [depth_lst, depth_tup]
    omega
theorem same_all {B : Addr → Prop} {K : PySem.W.Frag} {H H' : Hp} {vs : List V} {ds : List PyData} (s : Same H H') (h : DtAll B K H vs ds) : DtAll B K H' vs ds := DtAll.keep (Keep.same s) _ _ h
section
variable {P : Program} {w : World} {K : PySem.W.Frag} {mg : Str → Option Value} {base : Heap}
theorem scBent : FnScope ["_law_deck_here", "_law_value", "_law_deep", "_law_odd", "_law_at", "_law_way"] ["_law_deck_here", "_law_value", "_law_deep"] (defScope sBent) := ⟨rfl, rfl, rfl, by decide +kernel, rfl, by decide +kernel, by decide +kernel⟩
/-- the value bent, t deep at most -/
def spBent (K : PySem.W.Frag) (t : Nat) : Sp := fun vs H Q _ => ∃ (B : Addr → Prop) (a c : Addr) (cells : List Int) (n : Int) (v : V) (d : PyData), vs = [.ref a, v, .int t] ∧ (∀ b, Bd a c b → B b) ∧ TB B H ∧ DeckAt a c cells n H ∧ 0 ≤ n ∧ n + 4 * t ≤ 900000 ∧ t ≤ 1000 ∧ Dt B K H v d ∧ sm d = true ∧ nodes d ≤ 2000 ∧
  ∀ (H' : Hp) (cells' : List Int) (n' : Int) (v' : V) (d' : PyData), DeckAt a c cells' n' H' → n ≤ n' → n' ≤ n + (4 * t + 4) → Keep (Bd a c) H H' → Dt B K H' v' d' → sm d' = true → nodes d' ≤ 2 * nodes d + 3 → d'.depth ≤ d.depth + 2 → Q v' H'
theorem no_fn {k : Nat} {f : Addr} {fd : FuncData} {ps : List Str} : FnOk P w K mg base CX0 k f fd ps (fun _ _ _ _ => False) := ⟨fun _ _ _ _ h => h.elim, fun _ _ _ _ _ _ _ _ _ _ _ _ _ h => h.elim⟩
theorem bent_body {f fD fO : Addr} {fd fdD fdO : FuncData} {t kk : Nat} {sp : Sp} (F : Fun K "_law_bent" "_law_bent" sBent f fd) (gB : mg "_law_bent" = some (.ref f)) (bB : Binds K fd ["_law_deck_here", "_law_value", "_law_deep"] []) (hk : 2 ≤ kk) (REC : FnOk P w K mg base CX0 kk f fd ["_law_deck_here", "_law_value", "_law_deep"] sp) (hrec : ∀ t', t = t' + 1 → sp = spBent K t')
    (D : FnOk P w K mg base CX0 1 fD fdD ["_law_deck_here", "_law_many"] spDraw) (FD : Fun K "_law_draw" "_law_draw" sDraw fD fdD) (bD : Binds K fdD ["_law_deck_here", "_law_many"] []) (gD : mg "_law_draw" = some (.ref fD))
    (O : FnOk P w K mg base CX0 2 fO fdO ["_law_deck_here", "_law_items"] (spOne K)) (FO : Fun K "_law_one" "_law_one" sOne fO fdO) (bO : Binds K fdO ["_law_deck_here", "_law_items"] []) (gO : mg "_law_one" = some (.ref fO)) (T : Mg mg) :
    FnOk P w K mg base CX0 (kk + 1) f fd ["_law_deck_here", "_law_value", "_law_deep"] (spBent K t) := by
  refine F.ok scBent (fun vs H Q E h => ?_) (fun cdv A outer s H vs Q E hr h => ?_)
  · obtain ⟨B, a, c, cells, n, v, d, rfl, _⟩ := h
    rfl
  · obtain ⟨B, a, c, cells, n, v, d, rfl, hB, tb, dk, n0, n1, t1, hd, hsm, hnd, k⟩ := h
    have W : ∀ {H1 H2 : Hp}, Keep (Bd a c) H1 H2 → Keep B H1 H2 := fun k => Keep.wide hB k
    have hu0 := hr.units0
    refine ⟨_, pss_cons (ps_set (i := 3) scBent.nd rfl (.inl rfl) (pe_lst (pa_cons pe_non (pa_cons pe_bl (pa_cons pe_bl (pa_cons pe_int (pa_cons (pe_un un_neg pe_int) (pa_cons pe_int (pa_cons pe_int (pa_cons pe_int (pa_cons pe_int (pa_cons (pe_op op_pow pe_int pe_int) (pa_cons pe_str (pa_cons pe_str (pa_cons (pe_tup pa_nil) (pa_cons pe_nilN (pa_cons pe_dnewK (pa_cons (pe_tup (pa_cons pe_int pa_nil)) (pa_cons (pe_tup (pa_cons pe_non pa_nil)) (pa_cons (pe_tup (pa_cons pe_bl pa_nil)) (pa_cons (pe_tup (pa_cons (pe_tup (pa_cons pe_int pa_nil)) pa_nil)) pa_nil)))))))))))))))))))))
      (pss_cons (ps_if (PW.pt (pw_or (pt_cmpR op_eq (pv 2) pe_int (nomark _)) (pw_or (pt_not (pt_val (pe_callB (r := rIsi K) call_isi (by rfl) T.isi PyProof.Rows.boot_isinstance (pa_cons (pv 1) (pa_cons (pe_bltn (v := .ty "tuple") (by rfl) T.tuple PyProof.Rows.boot_tuple rfl) pa_nil))))) (pw_or (pt_cmpR (op_eqNilT hu0) (pv 1) (pe_tup pa_nil) (nomark _)) (pw_or1 (pt_cmpR op_eq (pe_call D (hr.mono (by omega)) (by rfl) gD FD.kp bD .nil pass0 (pa_cons (pv 0) (pa_cons pe_int pa_nil))) pe_int (nomark _)))))))
        (pss_one (ps_ret (pe_call O (hr.mono hk) (by rfl) gO FO.kp bO .nil pass0 (pa_cons (pv 0) (pa_cons (pv 3) pa_nil))))) pss_nil)
      (pss_cons (ps_par (i := 4) (j := 5) rfl scBent.nd rfl rfl (by decide) rfl rfl (pa_cons (pe_call D (hr.mono (by omega)) (by rfl) gD FD.kp bD .nil pass0 (pa_cons (pv 0) (pa_cons (pe_callB call_len_seq (by rfl) T.len PySem.boot_len (pa_cons (pv 1) pa_nil)) pa_nil))) (pa_cons (pe_call D (hr.mono (by omega)) (by rfl) gD FD.kp bD .nil pass0 (pa_cons (pv 0) (pa_cons pe_int pa_nil))) pa_nil)) (by rfl))
      (pss_cons (ps_if (pt_cmpR op_eq (pv 5) pe_int (nomark _)) (pss_one (ps_ret (pe_op op_catS (pe_slice sl_tupS (pv 1) po_none (po_some (pv 4))) (pe_slice sl_tupS (pv 1) (po_some (pe_op op_add (pv 4) pe_int)) po_none)))) pss_nil)
      (pss_cons (ps_if (pt_cmpR op_eq (pv 5) pe_int (nomark _)) (pss_one (ps_ret (pe_op op_catS (pe_op op_catS (pe_slice sl_tupS (pv 1) po_none (po_some (pv 4))) (pe_slice sl_tupS (pv 1) (po_some (pv 4)) (po_some (pe_op op_add (pv 4) pe_int)))) (pe_slice sl_tupS (pv 1) (po_some (pv 4)) po_none)))) pss_nil)
      (pss_cons (ps_if (pt_cmpR op_eq (pv 5) pe_int (nomark _)) (pss_one (ps_ret (pe_callTy call_listN (by rfl) T.list (by decide +kernel) (pa_cons (pv 1) pa_nil)))) pss_nil)
      (pss_one (ps_ret (pe_op op_catS (pe_op op_catS (pe_slice sl_tupS (pv 1) po_none (po_some (pv 4))) (pe_tup (pa_cons (pe_call REC hr (by rfl) gB F.kp bB .nil pass0 (pa_cons (pv 0) (pa_cons (pe_ix ix_tup (pv 1) (pv 4) (fun _ _ => rfl)) (pa_cons (pe_op op_sub (pv 2) pe_int) pa_nil)))) pa_nil))) (pe_slice sl_tupS (pv 1) (po_some (pe_op op_add (pv 4) pe_int)) po_none))))))))), ?_⟩
    refine ⟨1, rfl, 10, 30, rfl, rfl, ⟨by decide, by decide, by decide⟩, Nat.zero_le _, fun t1 h1 => ?_⟩
    have dk1 := deck_new (o := .tup []) dk h1
    have k1 := keep_new (B := Bd a c) (o := .tup []) h1
    have tb1 := tb_upd (p := t1) (o := .tup []) tb
    have D1 := new_tup (K := K) tb h1 .nil
    refine fun l1 h2 ne => ?_
    have dk2 := deck_new (o := .lst []) dk1 h2
    have k2 := keep_new (B := Bd a c) (o := .lst []) h2
    have tb2 := tb_upd (p := l1) (o := .lst []) tb1
    have D2 : Dt B K _ (.ref l1) (.list []) := .lst (tb_off tb1 h2) ne (.inl (upd_same (H := upd H t1 (.tup [])) (a := l1) (o := .lst []))) .nil
    refine fun d1 h3 => ?_
    have dk3 := deck_new (o := .dK []) dk2 h3
    have k3 := keep_new (B := Bd a c) (o := .dK []) h3
    have tb3 := tb_upd (p := d1) (o := .dK []) tb2
    have D3 : Dt B K _ (.ref d1) (.dict []) := .emp (tb_off tb2 h3) (upd_same (H := upd (upd H t1 (.tup [])) l1 (.lst [])) (a := d1) (o := .dK []))
    refine ⟨(by show 1 ≤ sizeLine; decide), fun t2 h4 => ?_⟩
    have dk4 := deck_new (o := .tup [.int 0]) dk3 h4
    have k4 := keep_new (B := Bd a c) (o := .tup [.int 0]) h4
    have tb4 := tb_upd (p := t2) (o := .tup [.int 0]) tb3
    have D4 := new_tup (K := K) tb3 h4 (.cons (.int 0) .nil)
    refine ⟨(by show 1 ≤ sizeLine; decide), fun t3 h5 => ?_⟩
    have dk5 := deck_new (o := .tup [.non]) dk4 h5
    have k5 := keep_new (B := Bd a c) (o := .tup [.non]) h5
    have tb5 := tb_upd (p := t3) (o := .tup [.non]) tb4
    have D5 := new_tup (K := K) tb4 h5 (.cons .non .nil)
    refine ⟨(by show 1 ≤ sizeLine; decide), fun t4 h6 => ?_⟩
    have dk6 := deck_new (o := .tup [.bl true]) dk5 h6
    have k6 := keep_new (B := Bd a c) (o := .tup [.bl true]) h6
    have tb6 := tb_upd (p := t4) (o := .tup [.bl true]) tb5
    have D6 := new_tup (K := K) tb5 h6 (.cons (.bl true) .nil)
    refine ⟨(by show 1 ≤ sizeLine; decide), fun t5 h7 => ?_⟩
    have dk7 := deck_new (o := .tup [.int 0]) dk6 h7
    have k7 := keep_new (B := Bd a c) (o := .tup [.int 0]) h7
    have tb7 := tb_upd (p := t5) (o := .tup [.int 0]) tb6
    have D7 := new_tup (K := K) tb6 h7 (.cons (.int 0) .nil)
    refine ⟨(by show 1 ≤ sizeLine; decide), fun t6 h8 => ?_⟩
    have dk8 := deck_new (o := .tup [.ref t5]) dk7 h8
    have k8 := keep_new (B := Bd a c) (o := .tup [.ref t5]) h8
    have tb8 := tb_upd (p := t6) (o := .tup [.ref t5]) tb7
    have D8 := new_tup (K := K) tb7 h8 (.cons (Dt.keep (W k8) _ _ D7) .nil)
    refine ⟨(by show 19 ≤ sizeLine; decide), fun O9 h9 => ?_⟩
    have nO := deck_off dk8 h9
    have dk9 := deck_new (o := .lst [.non, .bl true, .bl false, .int 0, .int (-1), .int 1, .int 2, .int 7, .int 400, .int (10 ^ 30), .str "", .str "a", .ref t1, .ref l1, .ref d1, .ref t2, .ref t3, .ref t4, .ref t6]) dk8 h9
    have k9 := keep_new (B := Bd a c) (o := .lst [.non, .bl true, .bl false, .int 0, .int (-1), .int 1, .int 2, .int 7, .int 400, .int (10 ^ 30), .str "", .str "a", .ref t1, .ref l1, .ref d1, .ref t2, .ref t3, .ref t4, .ref t6]) h9
    have hO9 : upd (upd (upd (upd (upd (upd (upd (upd (upd H t1 (.tup [])) l1 (.lst [])) d1 (.dK [])) t2 (.tup [.int 0])) t3 (.tup [.non])) t4 (.tup [.bl true])) t5 (.tup [.int 0])) t6 (.tup [.ref t5])) O9 (.lst [.non, .bl true, .bl false, .int 0, .int (-1), .int 1, .int 2, .int 7, .int 400, .int (10 ^ 30), .str "", .str "a", .ref t1, .ref l1, .ref d1, .ref t2, .ref t3, .ref t4, .ref t6]) O9 = some (.lst [.non, .bl true, .bl false, .int 0, .int (-1), .int 1, .int 2, .int 7, .int 400, .int (10 ^ 30), .str "", .str "a", .ref t1, .ref l1, .ref d1, .ref t2, .ref t3, .ref t4, .ref t6]) := upd_same
    have tb9 := tb_upd (p := O9) (o := .lst [.non, .bl true, .bl false, .int 0, .int (-1), .int 1, .int 2, .int 7, .int 400, .int (10 ^ 30), .str "", .str "a", .ref t1, .ref l1, .ref d1, .ref t2, .ref t3, .ref t4, .ref t6]) tb8
    have c8 := k9
    have c7 := k8.trans c8
    have c6 := k7.trans c7
    have c5 := k6.trans c6
    have c4 := k5.trans c5
    have c3 := k4.trans c4
    have c2 := k3.trans c3
    have c1 := k2.trans c2
    have c0 := k1.trans c1
    have hall : DtAll B K _ _ ods := .cons .non (.cons (.bl true) (.cons (.bl false) (.cons (.int 0) (.cons (.int (-1)) (.cons (.int 1) (.cons (.int 2) (.cons (.int 7) (.cons (.int 400) (.cons (.int (10 ^ 30)) (.cons (.str "") (.cons (.str "a")
      (.cons (Dt.keep (W c1) _ _ D1) (.cons (Dt.keep (W c2) _ _ D2) (.cons (Dt.keep (W c3) _ _ D3) (.cons (Dt.keep (W c4) _ _ D4) (.cons (Dt.keep (W c5) _ _ D5) (.cons (Dt.keep (W c6) _ _ D6) (.cons (Dt.keep (W c8) _ _ D8) .nil))))))))))))))))))
    clear D1 D2 D3 D4 D5 D6 D7 D8 c1 c2 c3 c4 c5 c6 c7 c8 k1 k2 k3 k4 k5 k6 k7 k8 k9 dk1 dk2 dk3 dk4 dk5 dk6 dk7 dk8 tb1 tb2 tb3 tb4 tb5 tb6 tb7 tb8
    have hdO := Dt.keep (W c0) _ _ hd
    have fin : ∀ (H' : Hp) (cells' : List Int) (n' : Int), DeckAt a c cells' n' H' → n ≤ n' → n' ≤ n + 1 → Keep (Bd a c) _ H' → spOne K [.ref a, .ref O9] H' (fun v' H'' => Q v' H'') E0 := fun H' cells' n' dk' h1' h2' kp => by
      refine ⟨a, c, O9, cells', n', _, rfl, dk', by omega, by omega, SqL.of (kp _ _ nO hO9), nO, List.cons_ne_nil _ _, (by show 19 ≤ 1000; decide), fun H'' cells'' x hx dk'' kk => ?_⟩
      obtain ⟨i, hi⟩ := List.getElem?_of_mem hx
      obtain ⟨d', hd1, hd2⟩ := hall.getV hi
      obtain ⟨o1, o2, o3⟩ := ods_ok d' (List.mem_of_getElem? hd1)
      have hp := nodes_pos d
      exact k H'' cells'' (n' + 1) x d' dk'' (by omega) (by omega) (c0.trans (kp.trans kk)) (Dt.keep (W (kp.trans kk)) _ _ hd2) o1 (by omega) (by omega)
    refine ⟨_, rfl, rfl, _, rfl, ite2 (fun e0 => ?_) (fun e0 => ?_)⟩
    · exact ⟨_, rfl, _, rfl, fin _ cells n dk9 (Int.le_refl _) (by omega) Keep.rfl'⟩
    · refine ⟨v, rfl, v, .ty "tuple", _, _, _, rfl, .ty _, tyD hdO, kitT d, _, rfl, ?_⟩
      cases d with
      | none => exact ⟨_, rfl, _, rfl, fin _ cells n dk9 (Int.le_refl _) (by omega) Keep.rfl'⟩
      | bool _ => exact ⟨_, rfl, _, rfl, fin _ cells n dk9 (Int.le_refl _) (by omega) Keep.rfl'⟩
      | int _ => exact ⟨_, rfl, _, rfl, fin _ cells n dk9 (Int.le_refl _) (by omega) Keep.rfl'⟩
      | str _ => exact ⟨_, rfl, _, rfl, fin _ cells n dk9 (Int.le_refl _) (by omega) Keep.rfl'⟩
      | list _ => exact ⟨_, rfl, _, rfl, fin _ cells n dk9 (Int.le_refl _) (by omega) Keep.rfl'⟩
      | dict _ => exact ⟨_, rfl, _, rfl, fin _ cells n dk9 (Int.le_refl _) (by omega) Keep.rfl'⟩
      | tuple ds =>
        obtain ⟨p, xs, rfl, np, hs, ha, hl⟩ := hdO.tup_rd
        have npd : ¬ Bd a c p := fun z => np (hB p z)
        rw [nodes_tup] at hnd
        have lds := len_nodes ds
        refine ⟨.ref p, rfl, Nat.zero_le _, fun e he => ?_⟩
        have ke := keep_new (B := Bd a c) (o := .tup []) he
        have dke := deck_new (o := .tup []) dk9 he
        have tbe := tb_upd (p := e) (o := .tup []) tb9
        have hse := ke.rd npd hs
        have hae := DtAll.keep (W ke) _ _ ha
        refine ⟨p, e, xs, rfl, rfl, .inl hse, SqT.of upd_same, _, rfl, ite2 (fun ex => ?_) (fun ex => ?_)⟩
        · exact ⟨_, rfl, _, rfl, fin _ cells n dke (Int.le_refl _) (by omega) ke⟩
        · have xne : xs ≠ [] := fun z => ex (decide_eq_true z)
          have lpos : 0 < xs.length := List.length_pos_iff.mpr xne
          refine ⟨_, rfl, a, c, cells, n, 6, rfl, dke, by decide, by decide, n0, by omega, fun H1 cells1 r1 r10 r16 dk1 k1 => ?_⟩
          refine ⟨rfl, _, rfl, ite2 (fun ez => ?_) (fun ez => ?_)⟩
          · exact ⟨_, rfl, _, rfl, fin _ cells1 (n + 1) dk1 (by omega) (by omega) (ke.trans k1)⟩
          · have hs1 := k1.rd npd hse
            refine ⟨_, rfl, .ref p, rfl, p, xs, rfl, .inr (.inl hs1), a, c, cells1, n + 1, _, rfl, dk1, by omega, by omega, by omega, by omega, fun H2 cells2 r2 r20 r2l dk2 k2 => ?_⟩
            refine ⟨_, rfl, a, c, cells2, n + 1 + 1, 9, rfl, dk2, by decide, by decide, by omega, by omega, fun H3 cells3 r3 r30 r39 dk3 k3 => ?_⟩
            have k13 := k1.trans (k2.trans k3)
            have kall := c0.trans (ke.trans k13)
            have hs3 := k13.rd npd hse
            have tbm := tb_keep tbe dk3 k13
            have ha3 := DtAll.keep (W k13) _ _ hae
            obtain ⟨j, hj, ej⟩ : ∃ j : Nat, j < xs.length ∧ r2 = (j : Int) := ⟨r2.toNat, by omega, by omega⟩
            subst ej
            have hjd : j < ds.length := by omega
            have ct : cutV xs none (some (j : Int)) = xs.take j := cut_take xs j (by omega)
            have cd0 : cutV xs (some (j : Int)) none = xs.drop j := cut_drop xs j (by omega)
            have cd1 : cutV xs (some ((j : Int) + 1)) none = xs.drop (j + 1) := cut_drop xs (j + 1) (by omega)
            have cm : cutV xs (some (j : Int)) (some ((j : Int) + 1)) = (xs.drop j).take 1 := cut_mid xs j hj
            have hsm2 := (sm_tup ds).mp hsm
            have nsum : nodesAll ds = nodesAll (ds.take j) + nodesAll (ds.drop j) := by rw [← nodesAll_append, List.take_append_drop]
            have ndrop : nodesAll (ds.drop j) = nodes ds[j] + nodesAll (ds.drop (j + 1)) := by rw [List.drop_eq_getElem_cons hjd, nodesAll_cons]
            have hdp : PyData.depthAll ds ≤ PyData.depthAll ds := Nat.le_refl _
            rw [depthAll_le] at hdp
            refine ⟨_, _, rfl, ?_⟩
            have tk : ∀ x ∈ ds.take j, x ∈ ds := fun x hx => List.mem_of_mem_take hx
            have dp : ∀ (i : Nat), ∀ x ∈ ds.drop i, x ∈ ds := fun i x hx => List.mem_of_mem_drop hx
            refine ⟨_, rfl, rfl, _, rfl, ite2 (fun ew => ?_) (fun ew => ?_)⟩
            · -- one item less
              refine ⟨_, rfl, _, rfl, (j : Int), rfl, p, xs, rfl, hs3, fun q1 H4 s4 hq1 w1 => ?_⟩
              rw [ct] at hq1
              have dk4 := deck_same s4 dk3
              have tb4 := tb_same s4 tbm
              refine ⟨_, rfl, _, rfl, (j : Int), 1, rfl, rfl, _, rfl, p, xs, rfl, same_rd s4 hs3, fun q2 H5 s5 hq2 w2 => ?_⟩
              rw [cd1] at hq2
              have dk5 := deck_same s5 dk4
              have tb5 := tb_same s5 tb4
              refine ⟨q1, q2, _, _, rfl, rfl, same_rd s5 hq1, hq2, ?_, fun q H6 s6 hq w6 => ?_⟩
              · rw [List.length_take, List.length_drop]
                exact sz_of (by omega)
              · have n1' := nb_of tbm np w1
                have n2' := nb_of tb4 np w2
                have n6' := nb_of2 tb5 n1' n2' w6
                obtain ⟨b1, b2, _, _⟩ := sub_ok (es := ds.take j ++ ds.drop (j + 1)) hsm (fun x hx => by
                  rcases List.mem_append.mp hx with hx | hx
                  · exact tk x hx
                  · exact dp _ x hx)
                have sall := L2.Same.trans s4 (L2.Same.trans s5 s6)
                refine k H6 cells3 _ (.ref q) (.tuple (ds.take j ++ ds.drop (j + 1))) (deck_same s6 dk5) (by omega) (by omega) (kall.trans (Keep.same sall)) (.tup n6' hq (same_all sall ((ha3.take j).append (ha3.drop (j + 1))))) b1 ?_ b2
                rw [nodes_tup, nodes_tup, nodesAll_append]
                omega
            · refine ⟨_, rfl, rfl, _, rfl, ite2 (fun ew1 => ?_) (fun ew1 => ?_)⟩
              · -- an item twice
                refine ⟨_, rfl, _, rfl, (j : Int), rfl, p, xs, rfl, hs3, fun q1 H4 s4 hq1 w1 => ?_⟩
                rw [ct] at hq1
                have dk4 := deck_same s4 dk3
                have tb4 := tb_same s4 tbm
                refine ⟨_, rfl, _, rfl, (j : Int), rfl, _, rfl, (j : Int), 1, rfl, rfl, _, rfl, p, xs, rfl, same_rd s4 hs3, fun q2 H5 s5 hq2 w2 => ?_⟩
                rw [cm] at hq2
                have dk5 := deck_same s5 dk4
                have tb5 := tb_same s5 tb4
                refine ⟨q1, q2, _, _, rfl, rfl, same_rd s5 hq1, hq2, ?_, fun q3 H6 s6 hq3 w3 => ?_⟩
                · rw [List.length_take, List.length_take, List.length_drop]
                  exact sz_of (by omega)
                · have dk6 := deck_same s6 dk5
                  have tb6 := tb_same s6 tb5
                  refine ⟨_, rfl, _, rfl, (j : Int), rfl, p, xs, rfl, same_rd (L2.Same.trans s4 (L2.Same.trans s5 s6)) hs3, fun q4 H7 s7 hq4 w4 => ?_⟩
                  rw [cd0] at hq4
                  have dk7 := deck_same s7 dk6
                  have tb7 := tb_same s7 tb6
                  refine ⟨q3, q4, _, _, rfl, rfl, same_rd s7 hq3, hq4, ?_, fun q H8 s8 hq w8 => ?_⟩
                  · rw [List.length_append, List.length_take, List.length_take, List.length_drop]
                    exact sz_of (by omega)
                  · have n1' := nb_of tbm np w1
                    have n2' := nb_of tb4 np w2
                    have n3' := nb_of2 tb5 n1' n2' w3
                    have n4' := nb_of tb6 np w4
                    have n8' := nb_of2 tb7 n3' n4' w8
                    obtain ⟨b1, b2, _, _⟩ := sub_ok (es := (ds.take j ++ (ds.drop j).take 1) ++ ds.drop j) hsm (fun x hx => by
                      rcases List.mem_append.mp hx with hx | hx
                      · rcases List.mem_append.mp hx with hx | hx
                        · exact tk x hx
                        · exact dp _ x (List.mem_of_mem_take hx)
                      · exact dp _ x hx)
                    have sall := L2.Same.trans s4 (L2.Same.trans s5 (L2.Same.trans s6 (L2.Same.trans s7 s8)))
                    refine k H8 cells3 _ (.ref q) (.tuple ((ds.take j ++ (ds.drop j).take 1) ++ ds.drop j)) (deck_same s8 dk7) (by omega) (by omega) (kall.trans (Keep.same sall)) (.tup n8' hq (same_all sall (((ha3.take j).append ((ha3.drop j).take 1)).append (ha3.drop j)))) b1 ?_ b2
                    have n1d : nodesAll ((ds.drop j).take 1) = nodes ds[j] := by
                      rw [List.drop_eq_getElem_cons hjd, List.take_succ_cons, List.take_zero, nodesAll_cons, nodesAll_nil, Nat.add_zero]
                    rw [nodes_tup, nodes_tup, nodesAll_append, nodesAll_append, n1d]
                    omega
              · refine ⟨_, rfl, rfl, _, rfl, ite2 (fun ew2 => ?_) (fun ew2 => ?_)⟩
                · -- a list of it
                  refine ⟨_, rfl, p, xs, rfl, .inl hs3, fun q hq nq => ?_⟩
                  obtain ⟨_, _, b3, b4⟩ := sub_ok (es := ds) hsm (fun x hx => hx)
                  have sq := same_new (o := .lst xs) hq
                  refine k _ cells3 _ (.ref q) (.list ds) (deck_same sq dk3) (by omega) (by omega) (kall.trans (Keep.same sq)) (.lst (tb_off tbm hq) nq (.inl upd_same) (same_all sq ha3)) b3 ?_ b4
                  rw [nodes_lst, nodes_tup]
                  omega
                · -- one item bent
                  obtain ⟨t', rfl⟩ : ∃ t', t = t' + 1 := by
                    cases t with
                    | zero => exact (e0 (decide_eq_true rfl)).elim
                    | succ t' => exact ⟨t', rfl⟩
                  have hsp := hrec t' rfl
                  subst hsp
                  obtain ⟨vj, hvj, hdj⟩ := ha3.get (List.getElem?_eq_getElem hjd)
                  have mj : ds[j] ∈ ds := List.getElem_mem hjd
                  have mn := mem_nodes mj
                  refine ⟨_, rfl, _, rfl, (j : Int), rfl, p, xs, rfl, hs3, fun q1 H4 s4 hq1 w1 => ?_⟩
                  rw [ct] at hq1
                  have dk4 := deck_same s4 dk3
                  have tb4 := tb_same s4 tbm
                  have n1' := nb_of tbm np w1
                  refine ⟨_, rfl, _, rfl, _, rfl, p, xs, (j : Int), vj, rfl, rfl, .inl (same_rd s4 hs3), atI_nat hvj, _, rfl, ((t' + 1 : Nat) : Int), 1, rfl, rfl, B, a, c, cells3, n + 1 + 1 + 1, vj, ds[j], ?_, hB, tb4, dk4, by omega, by omega, by omega, same_dt s4 hdj, hsm2 _ mj, by omega, fun H5 cells5 n5 v5 d5 dk5 m5 m5' k5 hd5 hs5 hn5 hp5 => ?_⟩
                  · show [V.ref a, vj, V.int (((t' + 1 : Nat) : Int) - 1)] = [V.ref a, vj, V.int (t' : Int)]
                    rw [show (((t' + 1 : Nat) : Int) - 1) = (t' : Int) by omega]
                  · have hq15 := k5.rd (fun z => n1' (hB _ z)) hq1
                    refine ⟨(by show 1 ≤ sizeLine; decide), fun u hu => ?_⟩
                    have su := same_new (o := .tup [v5]) hu
                    have dk6 := deck_same su dk5
                    have tb5 := tb_keep tb4 dk5 k5
                    have tb6 := tb_same su tb5
                    have nu := tb_off tb5 hu
                    refine ⟨q1, u, _, _, rfl, rfl, same_rd su hq15, .inl upd_same, ?_, fun q2 H7 s7 hq2 w2 => ?_⟩
                    · rw [List.length_take, List.length_singleton]
                      exact sz_of (by omega)
                    · have dk7 := deck_same s7 dk6
                      have tb7 := tb_same s7 tb6
                      have n2' := nb_of2 tb6 n1' nu w2
                      have k47 : Keep (Bd a c) H4 H7 := k5.trans (Keep.same (L2.Same.trans su s7))
                      have k37 : Keep (Bd a c) H3 H7 := (Keep.same s4).trans k47
                      refine ⟨_, rfl, _, rfl, (j : Int), 1, rfl, rfl, _, rfl, p, xs, rfl, k37.rd npd hs3, fun q3 H8 s8 hq3 w3 => ?_⟩
                      rw [cd1] at hq3
                      have dk8 := deck_same s8 dk7
                      have tb8 := tb_same s8 tb7
                      have n3' := nb_of tb7 np w3
                      refine ⟨q2, q3, _, _, rfl, rfl, same_rd s8 hq2, hq3, ?_, fun q H9 s9 hq w9 => ?_⟩
                      · rw [List.length_append, List.length_take, List.length_drop, List.length_singleton]
                        exact sz_of (by omega)
                      · have n9' := nb_of2 tb8 n2' n3' w9
                        have k79 := Keep.same (B := Bd a c) (L2.Same.trans s8 s9)
                        have k39 := k37.trans k79
                        have ha9 := DtAll.keep (W k39) _ _ ha3
                        have hd9 : Dt B K H9 v5 d5 := Dt.keep (W ((Keep.same (B := Bd a c) (L2.Same.trans su s7)).trans k79)) _ _ hd5
                        have hdj := hdp _ mj
                        refine k H9 cells5 n5 (.ref q) (.tuple ((ds.take j ++ [d5]) ++ ds.drop (j + 1))) (deck_same s9 dk8) (by omega) (by omega) (kall.trans k39) (.tup n9' hq (((ha9.take j).append (.cons hd9 .nil)).append (ha9.drop (j + 1)))) ?_ ?_ ?_
                        · rw [sm_tup]
                          intro x hx
                          rcases List.mem_append.mp hx with hx | hx
                          · rcases List.mem_append.mp hx with hx | hx
                            · exact hsm2 x (tk x hx)
                            · rw [List.mem_singleton.mp hx]
                              exact hs5
                          · exact hsm2 x (dp _ x hx)
                        · rw [nodes_tup, nodes_tup, nodesAll_append, nodesAll_append, nodesAll_cons, nodesAll_nil]
                          omega
                        · rw [depth_tup, depth_tup]
                          refine Nat.succ_le_succ (depthAll_le.mpr fun x hx => ?_)
                          rcases List.mem_append.mp hx with hx | hx
                          · rcases List.mem_append.mp hx with hx | hx
                            · have := hdp x (tk x hx)
                              omega
                            · rw [List.mem_singleton.mp hx]
                              omega
                          · have := hdp x (dp _ x hx)
                            omega
theorem ok_bent {f fD fO : Addr} {fd fdD fdO : FuncData} (F : Fun K "_law_bent" "_law_bent" sBent f fd) (gB : mg "_law_bent" = some (.ref f)) (bB : Binds K fd ["_law_deck_here", "_law_value", "_law_deep"] [])
    (D : FnOk P w K mg base CX0 1 fD fdD ["_law_deck_here", "_law_many"] spDraw) (FD : Fun K "_law_draw" "_law_draw" sDraw fD fdD) (bD : Binds K fdD ["_law_deck_here", "_law_many"] []) (gD : mg "_law_draw" = some (.ref fD))
    (O : FnOk P w K mg base CX0 2 fO fdO ["_law_deck_here", "_law_items"] (spOne K)) (FO : Fun K "_law_one" "_law_one" sOne fO fdO) (bO : Binds K fdO ["_law_deck_here", "_law_items"] []) (gO : mg "_law_one" = some (.ref fO)) (T : Mg mg) :
    ∀ t : Nat, FnOk P w K mg base CX0 (3 + t) f fd ["_law_deck_here", "_law_value", "_law_deep"] (spBent K t)
  | 0 => bent_body (kk := 2) F gB bB (Nat.le_refl _) no_fn (fun t' e => nomatch e) D FD bD gD O FO bO gO T
  | t + 1 => bent_body (kk := 3 + t) F gB bB (by omega) (ok_bent F gB bB D FD bD gD O FO bO gO T t) (fun t' e => by rw [Nat.succ.inj e]) D FD bD gD O FO bO gO T
end
section
variable {X : Cx}
/-- repr of data without dicts -/
def rReprP (K : PySem.W.Frag) : List V → Hp → VK → Prop := fun xs H Q => ∃ (a : Addr) (ds : List PyData), xs = [.ref a] ∧ Dp K H (.ref a) (.list ds) ∧ (PyData.list ds).showable = true ∧ (PyData.list ds).hasDict = false ∧ (PyData.list ds).depth ≤ 60 ∧ (PyData.list ds).shown.length ≤ sizeLine ∧ Q (.str (PyData.list ds).shown) H
theorem call_reprP (hG : X.A.guards = some []) (hu : X.A.units + 64 < cLine) : CallR X (.builtin "repr") (rReprP X.K) := by
  intro pins s σ H xs us Q I r h
  obtain ⟨a, ds, rfl, hd, hs, hn, hdp, hz, q⟩ := h
  obtain ⟨u, rfl, rx⟩ := vals1 r
  obtain ⟨as, rd⟩ := Dp.reads I _ _ u hd rx
  cases rx
  exact repr_of_reads' rd hs (PyData.noDict_hsm hn) hG (by omega) (fun _ _ e => e) (fun h' u tk hk => ⟨.str _, H, I.kept hk, ⟨_, rfl⟩, q⟩) hz
/-! ### t * 1, t[::-1] of three -/
theorem mul_one (l : Addr) (items : Array Value) (n : Nat) (dd : Option Addr) (sl : Array (Option Value)) (u : Tok) :
    Meets (Builtin.«tuple.__mul__» ⟨[.ref l, .int 1 u], []⟩) (fun _ R s => s.heap.get? l = some { cls := .type "tuple", dict := dd, data := .seq items n, slots := sl } ∧ R (.ok (.ret (Value.ref l))) s) :=
  .of_wp fun prog w A R s h => by
    obtain ⟨hp, g, d, tk, os⟩ := s
    obtain ⟨hl, h⟩ := h
    have f1 := AutoSeq1.idx_int
    wp_walk using wpAny_loadPart' hl
    exact ⟨_, rfl, h⟩
def rRep1 (K : PySem.W.Frag) : R2 := fun x y H Q => ∃ l xs, x = .ref l ∧ y = .int 1 ∧ SqT K H l xs ∧ Q (.ref l) H
theorem op_rep1 : OpR X (binaryOp .Mult) (rRep1 X.K) := by
  intro pins s σ H x y v u Q I rx ry h
  obtain ⟨l, xs, rfl, rfl, hT, q⟩ := h
  cases rx
  obtain ⟨t, rfl⟩ := ry
  obtain ⟨its, r, ⟨⟨cls, dd, data, sl⟩, ho, hc, n, hd⟩, _⟩ := I.tuple hT
  cases hc
  cases hd
  exact wpAny_binaryOp_repeat_ref (T := "tuple") (U := "int") (by decide) ⟨_, ho, rfl⟩ (fun s' => typeIs_int s' 1 t) noFill_tuple_mul F.fills_int_mul F.slot_int_rmul repeat_tuple F.slot_int_index.lookup
    (call_meets F.slot_int_rmul (typeIs_int s 1 t) F.entry_int_rmul (F.args_int_rmul_2 _ _) (int_rmul_tuple 1 t l its.toArray n dd sl)
      ⟨ho, rfl, ⟨_, ho, rfl⟩, call_meets F.slot_tuple_mul ⟨_, ho, rfl⟩ F.entry_tuple_mul (F.args_tuple_mul_2 _ _) (mul_one l its.toArray n dd sl t) ⟨ho, .ref l, H, I, rfl, q⟩⟩)
/-- t * k for a small k from 1 on -/
def rRepS (K : PySem.W.Frag) : R2 := fun x y H Q => ∃ l k xs, x = .ref l ∧ y = .int k ∧ Rd H l (.tup xs) ∧ xs ≠ [] ∧ 1 ≤ k ∧ k ≤ 1000 ∧ xs.length ≤ 1000 ∧ ∀ q H', Same H H' → Rd H' q (.tup (List.replicate k.toNat xs).flatten) → (q = l ∨ H q = none) → Q (.ref q) H'
theorem op_repS : OpR X (binaryOp .Mult) (rRepS X.K) := by
  intro pins s σ H x y v u Q I rx ry h
  obtain ⟨l, k, xs, rfl, rfl, hT, hne, k1, k2, hz, q⟩ := h
  by_cases e : k = 1
  · subst e
    refine op_rep1 pins s σ H _ _ v u Q I rx ry ⟨l, xs, rfl, rfl, .inl hT, q l H (Same.refl H) ?_ (.inl rfl)⟩
    rw [show (List.replicate (1 : Int).toNat xs).flatten = xs by simp]
    exact hT
  · exact op_repT pins s σ H _ _ v u Q I rx ry ⟨l, k, xs, rfl, rfl, .inl hT, hne, by omega, k2, hz, fun p hp => q p _ (same_new hp) (.inl upd_same) (.inr hp)⟩
end
section
variable {prog : Program} {w : World} {A : Around} {E : Value → Shared → Prop} {s : Shared}
theorem applied3 {sl : Addr} {vs : Value} {Q : Int × Int × Nat → Shared → Prop} (hs : s.heap.IsSliceOf sl .none .none vs) (ps : IsPart vs (some (-1))) (h : Q (2, -1, 3) s) :
    wpAny (model prog w) A (Builtin.Slice.sliceApplied (.ref sl) (pure ((3 : Nat) : Int))) Q E s := by
  obtain ⟨os, hos, hcs, hds⟩ := hs
  unfold Builtin.Slice.sliceApplied Builtin.Slice.sliceFields
  have f3 : wpAny (model prog w) A (Builtin.Slice.slicePartIndex vs) (fun o s' => o = some (-1) ∧ s' = s) E s := HT.slicePart_ ps ⟨rfl, rfl⟩
  refine wpAny_bind (wpAny_bind (wpAny_field hos hds (x := .none) rfl (wpAny_bind (wpAny_field hos hds (x := .none) rfl (wpAny_bind (wpAny_field hos hds (x := vs) rfl (wpAny_pure ?_)))))))
  refine wpAny_bind (wpAny_mono f3 (fun o s' z => ?_) fun _ _ z => z)
  obtain ⟨rfl, rfl⟩ := z
  show wpAny _ _ (if ((-1 : Int) == 0) = true then _ else _) _ _ _
  rw [if_neg (by decide)]
  exact wpAny_bind (slicePart_none (wpAny_bind (slicePart_none (wpAny_bind (wpAny_pure (wpAny_pure h))))))
theorem rev3 {t sl : Addr} {u1 u2 u3 vs : Value} {Q : Value → Shared → Prop} (ht : IsTup s.heap t #[u1, u2, u3]) (hs : s.heap.IsSliceOf sl .none .none vs) (ps : IsPart vs (some (-1)))
    (h : Q (.ref s.heap.objs.size) { s with heap := s.heap.push { cls := .type "tuple", data := .seq #[u3, u2, u1] } }) : wpAny (model prog w) A (getItem (.ref t) (.ref sl)) Q E s := by
  have hTs : s.TypeIs (.ref sl) "slice" := by
    obtain ⟨os, hos, hcs, _⟩ := id hs
    exact ⟨os, hos, hcs⟩
  unfold getItem
  try with_reducible refine wpAny_holding ?_
  first | refine wpAny_bind (wpAny_pure ?_) | skip
  refine wpAny_bind (wpAny_sequenceKey ht.typeIs (by decide) (wpAny_bind (wpAny_callSpecial?_slot (name := Str.ofString "__getitem__") ht.typeIs PyProof.Rows.slot_tuple_getitem
    (wpAny_call_entry PyProof.Rows.slot_tuple_getitem ht.typeIs entry_tuple_getitem ?_ (args_tuple_getitem _ _)))))
  refine wpAny_bind (m := Builtin.Tuple.tupleItemsOf (.ref t)) (tupleItemsOf_ ht (wpAny_bind (wpAny_typeOf hTs ?_)))
  rw [if_pos (by decide)]
  refine wpAny_bind (applied3 hs ps ?_)
  show wpAny _ _ (if ((2 : Int) == 0 && (-1 : Int) == 1 && (3 : Nat) == 3) = true then _ else _) _ _ s
  rw [if_neg (by decide)]
  have e : ((List.range 3).filterMap fun (k : Nat) => (#[u1, u2, u3] : Array Value)[((2 : Int) + (k : Int) * -1).toNat]?).toArray = #[u3, u2, u1] := rfl
  rw [e]
  have ok3 : sizeOk (.seq #[u3, u2, u1]) := by
    show 3 ≤ sizeLine
    decide
  first
    | exact wpAny_bind (m := Builtin.Tuple.tupleExact _) (wpAny_newObj_type (wpAny_pure ⟨_, rfl, wpAny_pure h⟩) ok3)
    | exact wpAny_bind (wpAny_bind (m := Builtin.Tuple.tupleExact _) (wpAny_newObj_type (wpAny_pure (wpAny_pure ⟨_, rfl, wpAny_pure h⟩)) ok3))
    | exact wpAny_bind (wpAny_bind (m := Builtin.Tuple.tupleExact _) (wpAny_newObj_type (wpAny_pure ⟨_, rfl, wpAny_pure h⟩) ok3))
end
/-! ### tuples of small data -/
/-- at q a tuple of small data: at most N nodes, at most D deep -/
def Tv (B : Addr → Prop) (K : PySem.W.Frag) (H : Hp) (q : Addr) (N D : Nat) : Prop := ∃ xs ds, Rd H q (.tup xs) ∧ ¬ B q ∧ DtAll B K H xs ds ∧ (∀ d ∈ ds, sm d = true ∧ d.depth ≤ D) ∧ nodesAll ds ≤ N
def Vv (B : Addr → Prop) (K : PySem.W.Frag) (H : Hp) (v : V) (N D : Nat) : Prop := ∃ d, Dt B K H v d ∧ sm d = true ∧ nodes d ≤ N ∧ d.depth ≤ D
theorem Vv.keep {B : Addr → Prop} {K : PySem.W.Frag} {H H' : Hp} {v : V} {N D : Nat} (k : Keep B H H') (h : Vv B K H v N D) : Vv B K H' v N D := by
  obtain ⟨d, h1, h2⟩ := h
  exact ⟨d, Dt.keep k _ _ h1, h2⟩
theorem Vv.off {B : Addr → Prop} {K : PySem.W.Frag} {H : Hp} {v : V} {N D : Nat} {q : Addr} (n : H q = none) (h : Vv B K H v N D) : Vv (fun b => B b ∨ b = q) K H v N D := by
  obtain ⟨d, h1, h2⟩ := h
  exact ⟨d, Dt.off n _ _ h1, h2⟩
theorem Vv.le {B : Addr → Prop} {K : PySem.W.Frag} {H : Hp} {v : V} {N D N' D' : Nat} (h : Vv B K H v N D) (h1 : N ≤ N') (h2 : D ≤ D') : Vv B K H v N' D' := by
  obtain ⟨d, g1, g2, g3, g4⟩ := h
  exact ⟨d, g1, g2, by omega, by omega⟩
theorem Tv.keep {B : Addr → Prop} {K : PySem.W.Frag} {H H' : Hp} {q : Addr} {N D : Nat} (k : Keep B H H') (h : Tv B K H q N D) : Tv B K H' q N D := by
  obtain ⟨xs, ds, h1, h2, h3, h4⟩ := h
  exact ⟨xs, ds, k.rd h2 h1, h2, DtAll.keep k _ _ h3, h4⟩
theorem Tv.off {B : Addr → Prop} {K : PySem.W.Frag} {H : Hp} {q p : Addr} {N D : Nat} (n : H p = none) (h : Tv B K H q N D) : Tv (fun b => B b ∨ b = p) K H q N D := by
  obtain ⟨xs, ds, h1, h2, h3, h4⟩ := h
  refine ⟨xs, ds, h1, fun z => ?_, DtAll.off n _ _ h3, h4⟩
  rcases z with z | z
  · exact h2 z
  · rw [z] at h1
    rcases h1 with e | ⟨o, e⟩ <;> (rw [n] at e; cases e)
theorem Tv.vv {B : Addr → Prop} {K : PySem.W.Frag} {H : Hp} {q : Addr} {N D : Nat} (h : Tv B K H q N D) : Vv B K H (.ref q) (N + 1) (D + 1) := by
  obtain ⟨xs, ds, h1, h2, h3, h4, h5⟩ := h
  refine ⟨.tuple ds, .tup h2 h1 h3, (sm_tup ds).mpr fun d hd => (h4 d hd).1, ?_, ?_⟩
  · rw [nodes_tup]
    omega
  · rw [depth_tup]
    exact Nat.succ_le_succ (depthAll_le.mpr fun d hd => (h4 d hd).2)
theorem Tv.of {B : Addr → Prop} {K : PySem.W.Frag} {H : Hp} {a : Addr} {ds : List PyData} {xs : List V} {N D : Nat} (nb : ¬ B a) (hr : Rd H a (.tup xs)) (ha : DtAll B K H xs ds) (hs : sm (.tuple ds) = true) (hn : nodesAll ds ≤ N) (hd : (PyData.tuple ds).depth ≤ D + 1) : Tv B K H a N D := by
  refine ⟨xs, ds, hr, nb, ha, fun d hd2 => ⟨(sm_tup ds).mp hs d hd2, ?_⟩, hn⟩
  rw [depth_tup] at hd
  have h2 : ∀ x ∈ ds, x.depth ≤ PyData.depthAll ds := depthAll_le.mp (Nat.le_refl _)
  have := h2 d hd2
  omega
/-- a cut of it -/
theorem Tv.cut {B : Addr → Prop} {K : PySem.W.Frag} {H H' : Hp} {a q : Addr} {N D : Nat} {xs : List V} {lo hi : Option Int} (tb : TB B H) (s : Same H H') (h : Tv B K H a N D) (hx : Rd H a (.tup xs)) (hq : Rd H' q (.tup (cutV xs lo hi))) (w : q = a ∨ H q = none) : Tv B K H' q N D := by
  obtain ⟨xs', ds, h1, h2, h3, h4, h5⟩ := h
  have exx : xs' = xs := by
    rcases h1 with h1 | ⟨o, h1⟩ <;> rcases hx with hx | ⟨u, hx⟩ <;> (rw [h1] at hx; cases hx <;> rfl)
  subst exx
  refine ⟨_, (ds.drop (HT.sIx xs'.length 0 lo)).take (HT.sIx xs'.length xs'.length hi - HT.sIx xs'.length 0 lo), hq, nb_of tb h2 w, same_all s ((h3.drop _).take _), fun d hd => h4 d (List.mem_of_mem_drop (List.mem_of_mem_take hd)), ?_⟩
  have e1 : nodesAll ds = nodesAll (ds.take (HT.sIx xs'.length 0 lo)) + nodesAll (ds.drop (HT.sIx xs'.length 0 lo)) := by rw [← nodesAll_append, List.take_append_drop]
  have e2 : nodesAll (ds.drop (HT.sIx xs'.length 0 lo)) = nodesAll ((ds.drop (HT.sIx xs'.length 0 lo)).take (HT.sIx xs'.length xs'.length hi - HT.sIx xs'.length 0 lo)) + nodesAll ((ds.drop (HT.sIx xs'.length 0 lo)).drop (HT.sIx xs'.length xs'.length hi - HT.sIx xs'.length 0 lo)) := by rw [← nodesAll_append, List.take_append_drop]
  omega
theorem Tv.cat {B : Addr → Prop} {K : PySem.W.Frag} {H H' : Hp} {a b q : Addr} {N M D E : Nat} {xs ys : List V} (tb : TB B H) (s : Same H H') (h : Tv B K H a N D) (g : Tv B K H b M E) (hx : Rd H a (.tup xs)) (hy : Rd H b (.tup ys)) (hq : Rd H' q (.tup (xs ++ ys))) (w : q = a ∨ q = b ∨ H q = none) :
    Tv B K H' q (N + M) (max D E) := by
  obtain ⟨xs', ds, h1, h2, h3, h4, h5⟩ := h
  obtain ⟨ys', es, g1, g2, g3, g4, g5⟩ := g
  have exx : xs' = xs := by
    rcases h1 with h1 | ⟨o, h1⟩ <;> rcases hx with hx | ⟨u, hx⟩ <;> (rw [h1] at hx; cases hx <;> rfl)
  have eyy : ys' = ys := by
    rcases g1 with g1 | ⟨o, g1⟩ <;> rcases hy with hy | ⟨u, hy⟩ <;> (rw [g1] at hy; cases hy <;> rfl)
  subst exx eyy
  refine ⟨_, ds ++ es, hq, nb_of2 tb h2 g2 w, same_all s (h3.append g3), fun d hd => ?_, by rw [nodesAll_append]; omega⟩
  rcases List.mem_append.mp hd with hd | hd
  · exact ⟨(h4 d hd).1, Nat.le_trans (h4 d hd).2 (Nat.le_max_left _ _)⟩
  · exact ⟨(g4 d hd).1, Nat.le_trans (g4 d hd).2 (Nat.le_max_right _ _)⟩
theorem Tv.get {B : Addr → Prop} {K : PySem.W.Frag} {H : Hp} {a : Addr} {N D : Nat} (h : Tv B K H a N D) : ∃ xs, Rd H a (.tup xs) ∧ xs.length ≤ N := by
  obtain ⟨xs, ds, h1, _, h3, _, h5⟩ := h
  have := len_nodes ds
  have := h3.len
  exact ⟨xs, h1, by omega⟩
theorem vv_all {B : Addr → Prop} {K : PySem.W.Frag} {H : Hp} {N D : Nat} : ∀ {xs : List V}, (∀ x ∈ xs, Vv B K H x N D) → ∃ ds, DtAll B K H xs ds ∧ (∀ d ∈ ds, sm d = true ∧ d.depth ≤ D) ∧ nodesAll ds ≤ N * xs.length
  | [], _ => ⟨[], .nil, fun d z => absurd z List.not_mem_nil, by rw [nodesAll_nil]; exact Nat.zero_le _⟩
  | x :: xs, h => by
    obtain ⟨ds, h1, h2, h3⟩ := vv_all (xs := xs) fun y hy => h y (List.mem_cons_of_mem _ hy)
    obtain ⟨d, g1, g2, g3, g4⟩ := h x List.mem_cons_self
    refine ⟨d :: ds, .cons g1 h1, fun e he => ?_, ?_⟩
    · rcases List.mem_cons.mp he with he | he
      · rw [he]
        exact ⟨g2, g4⟩
      · exact h2 e he
    · rw [nodesAll_cons, List.length_cons, Nat.mul_add, Nat.mul_one]
      omega
/-- a display of values -/
theorem tv_new {B : Addr → Prop} {K : PySem.W.Frag} {H : Hp} {p : Addr} {xs : List V} {N D : Nat} (tb : TB B H) (n : H p = none) (h : ∀ x ∈ xs, Vv B K H x N D) : Tv B K (upd H p (.tup xs)) p (N * xs.length) D := by
  obtain ⟨ds, h1, h2, h3⟩ := vv_all h
  exact ⟨xs, ds, .inl upd_same, tb_off tb n, same_all (same_new n) h1, h2, h3⟩
theorem tv_rep {B : Addr → Prop} {K : PySem.W.Frag} {H H' : Hp} {a q : Addr} {N D k : Nat} {xs : List V} (tb : TB B H) (s : Same H H') (h : Tv B K H a N D) (hx : Rd H a (.tup xs)) (hq : Rd H' q (.tup (List.replicate k xs).flatten)) (w : q = a ∨ H q = none) : Tv B K H' q (N * k) D := by
  obtain ⟨xs', ds, h1, h2, h3, h4, h5⟩ := h
  have exx : xs' = xs := by
    rcases h1 with h1 | ⟨o, h1⟩ <;> rcases hx with hx | ⟨u, hx⟩ <;> (rw [h1] at hx; cases hx <;> rfl)
  subst exx
  have rep : ∀ m : Nat, ∃ es, DtAll B K H (List.replicate m xs').flatten es ∧ (∀ d ∈ es, d ∈ ds) ∧ nodesAll es = nodesAll ds * m := by
    intro m
    induction m with
    | zero => exact ⟨[], .nil, fun d z => absurd z List.not_mem_nil, by rw [nodesAll_nil, Nat.mul_zero]⟩
    | succ m ih =>
      obtain ⟨es, e1, e2, e3⟩ := ih
      refine ⟨ds ++ es, ?_, fun d hd => ?_, ?_⟩
      · rw [List.replicate_succ, List.flatten_cons]
        exact h3.append e1
      · rcases List.mem_append.mp hd with hd | hd
        · exact hd
        · exact e2 d hd
      · rw [nodesAll_append, e3, Nat.mul_add, Nat.mul_one, Nat.add_comm]
  obtain ⟨es, e1, e2, e3⟩ := rep k
  exact ⟨_, es, hq, nb_of tb h2 w, same_all s e1, fun d hd => h4 d (e2 d hd), by rw [e3]; exact Nat.mul_le_mul_right _ h5⟩
/-! ### rows, their edges, potentials -/
abbrev Rows := List (List (Option Nat))
/-- from u by a letter to v, worth g -/
def Edge (rs : Rows) (f : List Int) (u v : Nat) (g : Int) : Prop := ∃ (row : List (Option Nat)) (l : Nat), rs[u]? = some row ∧ row[l]? = some (some v) ∧ f[l]? = some g
inductive Reach (rs : Rows) : Nat → Prop
  | z : Reach rs 0
  | s {u v l : Nat} {row : List (Option Nat)} : Reach rs u → rs[u]? = some row → row[l]? = some (some v) → Reach rs v
abbrev Ed := Nat × Nat × Int
def PotE (E : List Ed) (p : Nat → Int) : Prop := 0 ≤ p 0 ∧ ∀ e ∈ E, p e.1 + e.2.2 ≤ p e.2.1
structure RS where
  h : Nat → Option Int
  par : Nat → Option Nat
  R : Nat → Nat
  T : Nat → Nat
  now : Nat
def raises (e : Ed) (s : RS) : Bool := match s.h e.1 with
  | none => false
  | some a => match s.h e.2.1 with
    | none => true
    | some b => decide (b < a + e.2.2)
def relax (i : Nat) (e : Ed) (s : RS) : RS := if raises e s then
    { h := fun x => if x = e.2.1 then some ((s.h e.1).getD 0 + e.2.2) else s.h x
      par := fun x => if x = e.2.1 then some e.1 else s.par x
      R := fun x => if x = e.2.1 then i else s.R x
      T := fun x => if x = e.2.1 then s.now + 1 else s.T x
      now := s.now + 1 } else s
def settled (e : Ed) (s : RS) : Prop := ∀ a, s.h e.1 = some a → ∃ b, s.h e.2.1 = some b ∧ a + e.2.2 ≤ b
structure RInv (E : List Ed) (i : Nat) (E1 E2 : List Ed) (last : Option Nat) (s : RS) : Prop where
  one : 1 ≤ i
  zero : ∃ a, s.h 0 = some a ∧ 0 ≤ a
  rle : ∀ v, s.R v ≤ i
  par : ∀ v, 1 ≤ s.R v → ∃ u g a b, s.par v = some u ∧ (u, v, g) ∈ E ∧ s.R v ≤ s.R u + 1 ∧ s.h u = some a ∧ s.h v = some b ∧ b ≤ a + g ∧ (s.T v ≤ s.T u → b < a + g)
  par0 : ∀ v, s.R v = 0 → s.par v = none
  done : ∀ e ∈ E1, s.R e.1 < i → settled e s
  todo : ∀ e ∈ E2, s.R e.1 + 1 < i → settled e s
  tle : ∀ v, s.T v ≤ s.now
  low : ∀ p, PotE E p → ∀ v a, s.h v = some a → a ≤ p v
  bnd : ∀ v a, s.h v = some a → -(100 * (s.now : Int)) ≤ a ∧ a ≤ 100 * (s.now : Int)
  dom : ∀ v a, s.h v = some a → v = 0 ∨ ∃ e ∈ E, e.2.1 = v
  lastN : last = none → ∀ e ∈ E1, settled e s
  lastS : ∀ v, last = some v → s.R v = i
  nowle : s.now ≤ (i - 1) * E.length + E1.length
def rs0 : RS := { h := fun x => if x = 0 then some 0 else none, par := fun _ => none, R := fun _ => 0, T := fun _ => 0, now := 0 }
theorem rinv0 {E : List Ed} : RInv E 1 [] E none rs0 where
  one := Nat.le_refl _
  zero := ⟨0, rfl, Int.le_refl _⟩
  rle := fun _ => Nat.zero_le _
  par := fun v h => absurd h (by show ¬ 1 ≤ 0; omega)
  par0 := fun _ _ => rfl
  done := fun e h => absurd h List.not_mem_nil
  todo := fun e _ h => by
    have : rs0.R e.1 + 1 < 1 := h
    omega
  tle := fun _ => Nat.le_refl _
  low := fun p hp v a h => by
    have h : (if v = 0 then some (0 : Int) else none) = some a := h
    by_cases e : v = 0
    · rw [if_pos e] at h
      cases h
      rw [e]
      exact hp.1
    · rw [if_neg e] at h
      cases h
  bnd := fun v a h => by
    have h : (if v = 0 then some (0 : Int) else none) = some a := h
    by_cases e : v = 0
    · rw [if_pos e] at h
      cases h
      exact ⟨by show -(100 * ((0 : Nat) : Int)) ≤ 0; omega, by show 0 ≤ 100 * ((0 : Nat) : Int); omega⟩
    · rw [if_neg e] at h
      cases h
  dom := fun v a h => by
    have h : (if v = 0 then some (0 : Int) else none) = some a := h
    by_cases e : v = 0
    · exact .inl e
    · rw [if_neg e] at h
      cases h
  lastN := fun _ e h => absurd h List.not_mem_nil
  lastS := fun v h => by cases h
  nowle := Nat.zero_le _
theorem raises_iff {e : Ed} {s : RS} : raises e s = true ↔ ∃ a, s.h e.1 = some a ∧ ∀ b, s.h e.2.1 = some b → b < a + e.2.2 := by
  unfold raises
  cases h1 : s.h e.1 with
  | none => simp
  | some a =>
    cases h2 : s.h e.2.1 with
    | none => simp
    | some b => simp
theorem not_raises {e : Ed} {s : RS} (h : ¬ raises e s = true) : settled e s := by
  intro a ha
  unfold raises at h
  rw [ha] at h
  cases h2 : s.h e.2.1 with
  | none =>
    rw [h2] at h
    exact absurd rfl h
  | some b =>
    rw [h2] at h
    have h : ¬ decide (b < a + e.2.2) = true := h
    rw [decide_eq_true_eq] at h
    exact ⟨b, rfl, by omega⟩
theorem rinv_step {E : List Ed} {i : Nat} {e : Ed} {E1 E2 : List Ed} {last : Option Nat} {s : RS} (he : e ∈ E) (hg : -100 ≤ e.2.2 ∧ e.2.2 ≤ 100) (I : RInv E i E1 (e :: E2) last s) :
    RInv E i (E1 ++ [e]) E2 (if raises e s then some e.2.1 else last) (relax i e s) := by
  by_cases hr : raises e s = true
  · rw [if_pos hr]
    unfold relax
    rw [if_pos hr]
    obtain ⟨u, v, g⟩ := e
    obtain ⟨a, ha, hb⟩ := raises_iff.mp hr
    simp only at ha hb hg
    have hRu : i ≤ s.R u + 1 := by
      refine Nat.le_of_not_lt fun z => ?_
      obtain ⟨b, h1, h2⟩ := I.todo _ List.mem_cons_self z a ha
      have := hb b h1
      simp only at h2
      omega
    have hup : ∀ x b, s.h x = some b → ∃ b', (if x = v then some ((s.h u).getD 0 + g) else s.h x) = some b' ∧ b ≤ b' := by
      intro x b hx
      by_cases e : x = v
      · rw [if_pos e, ha]
        refine ⟨a + g, rfl, ?_⟩
        rw [e] at hx
        have := hb b hx
        omega
      · rw [if_neg e]
        exact ⟨b, hx, Int.le_refl _⟩
    have hset : ∀ e' : Ed, e'.1 ≠ v → settled e' s → settled e' { h := fun x => if x = v then some ((s.h u).getD 0 + g) else s.h x, par := fun x => if x = v then some u else s.par x, R := fun x => if x = v then i else s.R x, T := fun x => if x = v then s.now + 1 else s.T x, now := s.now + 1 } := by
      intro e' hne hs a' ha'
      simp only at ha'
      rw [if_neg hne] at ha'
      obtain ⟨b, h1, h2⟩ := hs a' ha'
      obtain ⟨b', h3, h4⟩ := hup _ b h1
      exact ⟨b', h3, by omega⟩
    have hself : u ≠ v → settled (u, v, g) { h := fun x => if x = v then some ((s.h u).getD 0 + g) else s.h x, par := fun x => if x = v then some u else s.par x, R := fun x => if x = v then i else s.R x, T := fun x => if x = v then s.now + 1 else s.T x, now := s.now + 1 } := by
      intro hne a' ha'
      simp only at ha'
      rw [if_neg hne, ha] at ha'
      cases ha'
      refine ⟨a + g, ?_, Int.le_refl _⟩
      show (if v = v then some ((s.h u).getD 0 + g) else s.h v) = some (a + g)
      rw [if_pos rfl, ha]
      rfl
    refine ⟨I.one, ?_, fun x => ?_, fun x hx => ?_, fun x hx => ?_, fun e' h' hR => ?_, fun e' h' hR => ?_, fun x => ?_, fun p hp x b hx => ?_, fun x b hx => ?_, fun x b hx => ?_, fun z => ?_, fun x hx => ?_, ?_⟩
    · obtain ⟨b, h1, h2⟩ := I.zero
      obtain ⟨b', h3, h4⟩ := hup 0 b h1
      exact ⟨b', h3, by omega⟩
    · show (if x = v then i else s.R x) ≤ i
      by_cases e : x = v
      · rw [if_pos e]
        exact Nat.le_refl _
      · rw [if_neg e]
        exact I.rle x
    · by_cases e : x = v
      · subst e
        refine ⟨u, g, if u = x then a + g else a, a + g, if_pos rfl, he, ?_, ?_, ?_, ?_, ?_⟩
        · show (if x = x then i else s.R x) ≤ (if u = x then i else s.R u) + 1
          rw [if_pos rfl]
          by_cases e2 : u = x
          · rw [if_pos e2]
            omega
          · rw [if_neg e2]
            exact hRu
        · show (if u = x then some ((s.h u).getD 0 + g) else s.h u) = some (if u = x then a + g else a)
          by_cases e2 : u = x
          · rw [if_pos e2, if_pos e2, ha]
            rfl
          · rw [if_neg e2, if_neg e2, ha]
        · show (if x = x then some ((s.h u).getD 0 + g) else s.h x) = some (a + g)
          rw [if_pos rfl, ha]
          rfl
        · by_cases e2 : u = x
          · rw [if_pos e2]
            have := hb a (e2 ▸ ha)
            omega
          · rw [if_neg e2]
            omega
        · intro ht
          by_cases e2 : u = x
          · rw [if_pos e2]
            have := hb a (e2 ▸ ha)
            omega
          · have ht : (if x = x then s.now + 1 else s.T x) ≤ (if u = x then s.now + 1 else s.T u) := ht
            rw [if_pos rfl, if_neg e2] at ht
            have := I.tle u
            omega
      · have hx : 1 ≤ (if x = v then i else s.R x) := hx
        rw [if_neg e] at hx
        obtain ⟨u', g', a', b', p1, p2, p3, p4, p5, p6, p7⟩ := I.par x hx
        by_cases e2 : u' = v
        · have h9 := hb a' (e2 ▸ p4)
          refine ⟨u', g', a + g, b', ?_, p2, ?_, ?_, ?_, ?_, fun _ => ?_⟩
          · show (if x = v then some u else s.par x) = some u'
            rw [if_neg e, p1]
          · show (if x = v then i else s.R x) ≤ (if u' = v then i else s.R u') + 1
            rw [if_neg e, if_pos e2]
            have := I.rle x
            omega
          · show (if u' = v then some ((s.h u).getD 0 + g) else s.h u') = some (a + g)
            rw [if_pos e2, ha]
            rfl
          · show (if x = v then some ((s.h u).getD 0 + g) else s.h x) = some b'
            rw [if_neg e, p5]
          · omega
          · omega
        · refine ⟨u', g', a', b', ?_, p2, ?_, ?_, ?_, p6, fun ht => p7 ?_⟩
          · show (if x = v then some u else s.par x) = some u'
            rw [if_neg e, p1]
          · show (if x = v then i else s.R x) ≤ (if u' = v then i else s.R u') + 1
            rw [if_neg e, if_neg e2]
            exact p3
          · show (if u' = v then some ((s.h u).getD 0 + g) else s.h u') = some a'
            rw [if_neg e2, p4]
          · show (if x = v then some ((s.h u).getD 0 + g) else s.h x) = some b'
            rw [if_neg e, p5]
          · have ht : (if x = v then s.now + 1 else s.T x) ≤ (if u' = v then s.now + 1 else s.T u') := ht
            rw [if_neg e, if_neg e2] at ht
            exact ht
    · have hx : (if x = v then i else s.R x) = 0 := hx
      show (if x = v then some u else s.par x) = none
      by_cases e : x = v
      · rw [if_pos e] at hx
        have h1 := I.one
        omega
      · rw [if_neg e] at hx ⊢
        exact I.par0 x hx
    · have hR : (if e'.1 = v then i else s.R e'.1) < i := hR
      by_cases e : e'.1 = v
      · rw [if_pos e] at hR
        omega
      · rw [if_neg e] at hR
        rcases List.mem_append.mp h' with h' | h'
        · exact hset e' e (I.done e' h' hR)
        · rw [List.mem_singleton.mp h']
          rw [List.mem_singleton.mp h'] at e
          exact hself e
    · have hR : (if e'.1 = v then i else s.R e'.1) + 1 < i := hR
      by_cases e : e'.1 = v
      · rw [if_pos e] at hR
        omega
      · rw [if_neg e] at hR
        exact hset e' e (I.todo e' (List.mem_cons_of_mem _ h') hR)
    · show (if x = v then s.now + 1 else s.T x) ≤ s.now + 1
      by_cases e : x = v
      · rw [if_pos e]
        exact Nat.le_refl _
      · rw [if_neg e]
        exact Nat.le_succ_of_le (I.tle x)
    · have hx : (if x = v then some ((s.h u).getD 0 + g) else s.h x) = some b := hx
      by_cases e : x = v
      · rw [if_pos e, ha] at hx
        cases hx
        have h1 := I.low p hp u a ha
        have h2 := hp.2 _ he
        simp only at h2
        rw [e]
        show a + g ≤ p v
        omega
      · rw [if_neg e] at hx
        exact I.low p hp x b hx
    · have hx : (if x = v then some ((s.h u).getD 0 + g) else s.h x) = some b := hx
      show -(100 * ((s.now + 1 : Nat) : Int)) ≤ b ∧ b ≤ 100 * ((s.now + 1 : Nat) : Int)
      by_cases e : x = v
      · rw [if_pos e, ha] at hx
        cases hx
        have h1 := I.bnd u a ha
        show -(100 * ((s.now + 1 : Nat) : Int)) ≤ a + g ∧ a + g ≤ 100 * ((s.now + 1 : Nat) : Int)
        omega
      · rw [if_neg e] at hx
        have h1 := I.bnd x b hx
        omega
    · have hx : (if x = v then some ((s.h u).getD 0 + g) else s.h x) = some b := hx
      by_cases e : x = v
      · exact .inr ⟨_, he, e.symm⟩
      · rw [if_neg e] at hx
        exact I.dom x b hx
    · cases z
    · cases hx
      show (if v = v then i else s.R v) = i
      rw [if_pos rfl]
    · have := I.nowle
      rw [List.length_append, List.length_singleton]
      show s.now + 1 ≤ _
      omega
  · rw [if_neg hr]
    unfold relax
    rw [if_neg hr]
    have hs := not_raises hr
    refine ⟨I.one, I.zero, I.rle, I.par, I.par0, fun e' h' hR => ?_, fun e' h' hR => I.todo e' (List.mem_cons_of_mem _ h') hR, I.tle, I.low, I.bnd, I.dom, fun z e' h' => ?_, I.lastS, ?_⟩
    · rcases List.mem_append.mp h' with h' | h'
      · exact I.done e' h' hR
      · rw [List.mem_singleton.mp h']
        exact hs
    · rcases List.mem_append.mp h' with h' | h'
      · exact I.lastN z e' h'
      · rw [List.mem_singleton.mp h']
        exact hs
    · have := I.nowle
      rw [List.length_append, List.length_singleton]
      omega
theorem rinv_next {E : List Ed} {i : Nat} {last : Option Nat} {s : RS} (I : RInv E i E [] last s) : RInv E (i + 1) [] E none s where
  one := Nat.le_succ_of_le I.one
  zero := I.zero
  rle := fun v => Nat.le_succ_of_le (I.rle v)
  par := I.par
  par0 := I.par0
  done := fun e h => absurd h List.not_mem_nil
  todo := fun e h hR => I.done e h (by omega)
  tle := I.tle
  low := I.low
  bnd := I.bnd
  dom := I.dom
  lastN := fun _ e h => absurd h List.not_mem_nil
  lastS := fun v h => by cases h
  nowle := by
    have h1 := I.nowle
    have h2 := I.one
    rw [List.length_nil, Nat.add_sub_cancel]
    have h3 : i * E.length = (i - 1) * E.length + E.length := by
      rw [← Nat.succ_mul]
      congr 1
      omega
    omega
/-- more turns than a list has items: one comes twice -/
theorem pigeon (L : List Nat) : ∀ (c : Nat → Nat), (∀ k, k ≤ L.length → c k ∈ L) → ∃ a b, a < b ∧ b ≤ L.length ∧ c a = c b := by
  suffices H : ∀ (n : Nat) (L : List Nat) (c : Nat → Nat), L.length ≤ n → (∀ k, k ≤ n → c k ∈ L) → ∃ a b, a < b ∧ b ≤ n ∧ c a = c b from fun c h => H L.length L c (Nat.le_refl _) h
  intro n
  induction n with
  | zero =>
    intro L c hl h
    have := h 0 (Nat.le_refl _)
    cases L with
    | nil => exact absurd this List.not_mem_nil
    | cons x xs => simp at hl
  | succ n ih =>
    intro L c hl h
    by_cases e : ∃ k, k ≤ n ∧ c k = c (n + 1)
    · obtain ⟨k, h1, h2⟩ := e
      exact ⟨k, n + 1, by omega, Nat.le_refl _, h2⟩
    · have hm := h (n + 1) (Nat.le_refl _)
      obtain ⟨a, b, h1, h2, h3⟩ := ih (L.erase (c (n + 1))) c (by rw [List.length_erase_of_mem hm]; omega) (fun k hk => by
        have h4 : c k ≠ c (n + 1) := fun z => e ⟨k, hk, z⟩
        exact (List.mem_erase_of_ne h4).mpr (h k (by omega)))
      exact ⟨a, b, h1, by omega, h3⟩
def chainP (s : RS) (v : Nat) : Nat → Nat
  | 0 => v
  | k + 1 => (s.par (chainP s v k)).getD 0
section
variable {E : List Ed} {i : Nat} {E1 E2 : List Ed} {last : Option Nat} {s : RS} {ord : List Nat} {v : Nat}
theorem chain_R (I : RInv E i E1 E2 last s) (hv : ord.length ≤ s.R v) : ∀ k, k < ord.length → ord.length ≤ s.R (chainP s v k) + k ∧ 1 ≤ s.R (chainP s v k) := by
  intro k
  induction k with
  | zero => intro h; exact ⟨hv, by show 1 ≤ s.R v; omega⟩
  | succ k ih =>
    intro h
    obtain ⟨h1, h2⟩ := ih (by omega)
    obtain ⟨u, g, a, b, p1, p2, p3, _⟩ := I.par _ h2
    have e : chainP s v (k + 1) = u := by
      show (s.par (chainP s v k)).getD 0 = u
      rw [p1]
      rfl
    rw [e]
    omega
theorem chain_mem (I : RInv E i E1 E2 last s) (hE : ∀ e ∈ E, e.1 ∈ ord ∧ e.2.1 ∈ ord) (hv : ord.length ≤ s.R v) (hn : 1 ≤ ord.length) : ∀ k, k ≤ ord.length → chainP s v k ∈ ord := by
  intro k hk
  cases k with
  | zero =>
    obtain ⟨u, g, a, b, p1, p2, _⟩ := I.par v (by omega)
    exact (hE _ p2).2
  | succ k =>
    obtain ⟨h1, h2⟩ := chain_R I hv k (by omega)
    obtain ⟨u, g, a, b, p1, p2, p3, _⟩ := I.par _ h2
    have e : chainP s v (k + 1) = u := by
      show (s.par (chainP s v k)).getD 0 = u
      rw [p1]
      rfl
    rw [e]
    exact (hE _ p2).1
theorem chain_per {a b : Nat} (h : chainP s v a = chainP s v b) : ∀ j, chainP s v (a + j) = chainP s v (b + j) := by
  intro j
  induction j with
  | zero => exact h
  | succ j ih =>
    show (s.par (chainP s v (a + j))).getD 0 = (s.par (chainP s v (b + j))).getD 0
    rw [ih]
/-- each state that is come to against the edges was raised -/
theorem chain_all (I : RInv E i E1 E2 last s) (hE : ∀ e ∈ E, e.1 ∈ ord ∧ e.2.1 ∈ ord) (hv : ord.length ≤ s.R v) (hn : 1 ≤ ord.length) : ∀ k, 1 ≤ s.R (chainP s v k) := by
  obtain ⟨a, b, h1, h2, h3⟩ := pigeon ord (chainP s v) (chain_mem I hE hv hn)
  intro k
  induction k using Nat.strongRecOn with
  | ind k ih =>
    by_cases hk : k < ord.length
    · exact (chain_R I hv k hk).2
    · have e := chain_per h3 (k - b)
      rw [show b + (k - b) = k by omega] at e
      rw [← e]
      exact ih _ (by omega)
/-- raised in a late round: no potential -/
theorem no_pot (I : RInv E i E1 E2 last s) (hE : ∀ e ∈ E, e.1 ∈ ord ∧ e.2.1 ∈ ord) (hv : ord.length ≤ s.R v) (hn : 1 ≤ ord.length) (p : Nat → Int) (hp : PotE E p) : False := by
  obtain ⟨a, b, h1, h2, h3⟩ := pigeon ord (chainP s v) (chain_mem I hE hv hn)
  have key : ∀ j, (s.h (chainP s v a)).getD 0 - p (chainP s v a) ≤ (s.h (chainP s v (a + j))).getD 0 - p (chainP s v (a + j)) ∧
      ((s.h (chainP s v a)).getD 0 - p (chainP s v a) < (s.h (chainP s v (a + j))).getD 0 - p (chainP s v (a + j)) ∨ s.T (chainP s v (a + j)) + j ≤ s.T (chainP s v a)) := by
    intro j
    induction j with
    | zero => exact ⟨Int.le_refl _, .inr (Nat.le_refl _)⟩
    | succ j ih =>
      obtain ⟨u, g, x, y, p1, p2, p3, p4, p5, p6, p7⟩ := I.par _ (chain_all I hE hv hn (a + j))
      have e : chainP s v (a + (j + 1)) = u := by
        show (s.par (chainP s v (a + j))).getD 0 = u
        rw [p1]
        rfl
      have hpe := hp.2 _ p2
      simp only at hpe
      rw [e, p4]
      rw [p5] at ih
      simp only [Option.getD_some] at ih ⊢
      by_cases ht : s.T (chainP s v (a + j)) ≤ s.T u
      · have := p7 ht
        exact ⟨by omega, .inl (by omega)⟩
      · refine ⟨by omega, ?_⟩
        rcases ih.2 with h | h
        · exact .inl (by omega)
        · exact .inr (by omega)
  have hk := key (b - a)
  rw [show a + (b - a) = b by omega, ← h3] at hk
  omega
end
/-! ### the edges of rows, heights -/
def rowEd (f : List Int) (u : Nat) : Nat → List (Option Nat) → List Ed
  | _, [] => []
  | l, none :: r => rowEd f u (l + 1) r
  | l, some v :: r => (u, v, f.getD l 0) :: rowEd f u (l + 1) r
def edgesOf (rs : Rows) (f : List Int) (ord : List Nat) : List Ed := ord.flatMap fun u => rowEd f u 0 (rs.getD u [])
theorem mem_rowEd {f : List Int} {u : Nat} : ∀ {r : List (Option Nat)} {l : Nat} {e : Ed}, e ∈ rowEd f u l r ↔ e.1 = u ∧ ∃ k, r[k]? = some (some e.2.1) ∧ e.2.2 = f.getD (l + k) 0
  | [], l, e => by simp [rowEd]
  | none :: r, l, e => by
    rw [rowEd, mem_rowEd (r := r)]
    refine and_congr_right fun _ => ⟨fun ⟨k, h1, h2⟩ => ⟨k + 1, by simpa using h1, by rw [h2]; congr 1; omega⟩, fun ⟨k, h1, h2⟩ => ?_⟩
    cases k with
    | zero => simp at h1
    | succ k => exact ⟨k, by simpa using h1, by rw [h2]; congr 1; omega⟩
  | some v :: r, l, e => by
    rw [rowEd, List.mem_cons, mem_rowEd (r := r)]
    constructor
    · rintro (rfl | ⟨h, k, h1, h2⟩)
      · exact ⟨rfl, 0, rfl, rfl⟩
      · exact ⟨h, k + 1, by simpa using h1, by rw [h2]; congr 1; omega⟩
    · rintro ⟨h, k, h1, h2⟩
      cases k with
      | zero =>
        left
        simp at h1
        obtain ⟨a, b, c⟩ := e
        simp only at h h1 h2
        rw [h, ← h1, h2]
        rfl
      | succ k => exact .inr ⟨h, k, by simpa using h1, by rw [h2]; congr 1; omega⟩
/-- the form has something for each letter of each row -/
def Fits (rs : Rows) (f : List Int) : Prop := ∀ row ∈ rs, row.length = f.length
theorem mem_edges {rs : Rows} {f : List Int} {ord : List Nat} (hf : Fits rs f) {e : Ed} : e ∈ edgesOf rs f ord ↔ e.1 ∈ ord ∧ Edge rs f e.1 e.2.1 e.2.2 := by
  unfold edgesOf
  rw [List.mem_flatMap]
  constructor
  · rintro ⟨u, hu, he⟩
    obtain ⟨rfl, k, h1, h2⟩ := mem_rowEd.mp he
    rw [Nat.zero_add] at h2
    refine ⟨hu, ?_⟩
    cases hr : rs[e.1]? with
    | none =>
      rw [List.getD_eq_getElem?_getD, hr] at h1
      simp at h1
    | some row =>
      rw [List.getD_eq_getElem?_getD, hr] at h1
      have h1 : row[k]? = some (some e.2.1) := h1
      refine ⟨row, k, hr, h1, ?_⟩
      have hk := (List.getElem?_eq_some_iff.mp h1).1
      rw [hf row (List.mem_of_getElem? hr)] at hk
      rw [h2, List.getD_eq_getElem?_getD, List.getElem?_eq_getElem hk]
      rfl
  · rintro ⟨hu, row, k, h1, h2, h3⟩
    refine ⟨e.1, hu, mem_rowEd.mpr ⟨rfl, k, ?_, ?_⟩⟩
    · rw [List.getD_eq_getElem?_getD, h1]
      exact h2
    · rw [Nat.zero_add, List.getD_eq_getElem?_getD, h3]
      rfl
def Valid (rs : Rows) (es : List Bool) (f : List Int) (bd : Int) (hs : List (Option Int)) : Prop :=
  hs.length = rs.length ∧ (∃ a, hs[0]? = some (some a) ∧ 0 ≤ a) ∧ ∀ (u : Nat) (a : Int), hs[u]? = some (some a) → (es[u]? = some true → a ≤ bd) ∧ ∀ v g, Edge rs f u v g → ∃ b, hs[v]? = some (some b) ∧ a + g ≤ b
/-- the states that words come to, in some order -/
structure IsOrd (rs : Rows) (ord : List Nat) : Prop where
  mem : ∀ u, u ∈ ord ↔ Reach rs u
  lt : ∀ u ∈ ord, u < rs.length
  len : ord.length ≤ rs.length
theorem IsOrd.ne {rs : Rows} {ord : List Nat} (O : IsOrd rs ord) : 1 ≤ ord.length := by
  have := (O.mem 0).mpr .z
  cases ord with
  | nil => exact absurd this List.not_mem_nil
  | cons x xs => simp
theorem IsOrd.ends {rs : Rows} {f : List Int} {ord : List Nat} (O : IsOrd rs ord) (hf : Fits rs f) : ∀ e ∈ edgesOf rs f ord, e.1 ∈ ord ∧ e.2.1 ∈ ord := by
  intro e he
  obtain ⟨h1, row, l, h2, h3, _⟩ := (mem_edges hf).mp he
  exact ⟨h1, (O.mem _).mpr (.s ((O.mem _).mp h1) h2 h3)⟩
/-- all settled: each state that is come to has a height -/
theorem all_have {rs : Rows} {f : List Int} {ord : List Nat} {s : RS} (O : IsOrd rs ord) (hf : Fits rs f) (z : ∃ a, s.h 0 = some a ∧ 0 ≤ a) (S : ∀ e ∈ edgesOf rs f ord, settled e s) : ∀ u, Reach rs u → ∃ a, s.h u = some a := by
  intro u r
  induction r with
  | z => exact ⟨_, z.choose_spec.1⟩
  | s r h1 h2 ih =>
    rename_i u v l row
    obtain ⟨a, ha⟩ := ih
    have hl := (List.getElem?_eq_some_iff.mp h2).1
    rw [hf row (List.mem_of_getElem? h1)] at hl
    obtain ⟨b, hb, _⟩ := S (u, v, f[l]) ((mem_edges hf).mpr ⟨(O.mem _).mpr r, row, l, h1, h2, List.getElem?_eq_getElem hl⟩) a ha
    exact ⟨b, hb⟩
theorem pot_of {rs : Rows} {f : List Int} {ord : List Nat} {s : RS} (O : IsOrd rs ord) (hf : Fits rs f) (z : ∃ a, s.h 0 = some a ∧ 0 ≤ a) (S : ∀ e ∈ edgesOf rs f ord, settled e s) : PotE (edgesOf rs f ord) fun u => (s.h u).getD 0 := by
  refine ⟨?_, fun e he => ?_⟩
  · obtain ⟨a, h1, h2⟩ := z
    show 0 ≤ (s.h 0).getD 0
    rw [h1]
    exact h2
  · obtain ⟨a, ha⟩ := all_have O hf z S e.1 ((O.mem _).mp (O.ends hf e he).1)
    obtain ⟨b, hb, hab⟩ := S e he a ha
    show (s.h e.1).getD 0 + e.2.2 ≤ (s.h e.2.1).getD 0
    rw [ha, hb]
    exact hab
theorem valid_of {rs : Rows} {es : List Bool} {f : List Int} {bd : Int} {ord : List Nat} {s : RS} (O : IsOrd rs ord) (hf : Fits rs f) (z : ∃ a, s.h 0 = some a ∧ 0 ≤ a) (S : ∀ e ∈ edgesOf rs f ord, settled e s)
    (dom : ∀ v a, s.h v = some a → v = 0 ∨ ∃ e ∈ edgesOf rs f ord, e.2.1 = v) (B : ∀ u ∈ ord, es[u]? = some true → (s.h u).getD 0 ≤ bd) : Valid rs es f bd ((List.range rs.length).map s.h) := by
  have get : ∀ (u : Nat) (o : Option Int), ((List.range rs.length).map s.h)[u]? = some o → s.h u = o := by
    intro u o h
    rw [List.getElem?_map] at h
    obtain ⟨x, h1, h2⟩ := Option.map_eq_some_iff.mp h
    have := (List.getElem?_eq_some_iff.mp h1)
    obtain ⟨hl, hx⟩ := this
    rw [List.getElem_range] at hx
    rw [hx, h2]
  have put : ∀ u, u < rs.length → ((List.range rs.length).map s.h)[u]? = some (s.h u) := by
    intro u h
    rw [List.getElem?_map, List.getElem?_range h]
    rfl
  have inO : ∀ v a, s.h v = some a → v ∈ ord := by
    intro v a h
    rcases dom v a h with h | ⟨e, he, h⟩
    · rw [h]
      exact (O.mem 0).mpr .z
    · rw [← h]
      exact (O.ends hf e he).2
  refine ⟨by rw [List.length_map, List.length_range], ?_, fun u a h => ?_⟩
  · obtain ⟨a, h1, h2⟩ := z
    exact ⟨a, by rw [put 0 (O.lt 0 ((O.mem 0).mpr .z)), h1], h2⟩
  · have hu := get u _ h
    have uo := inO u a hu
    refine ⟨fun he => ?_, fun v g he => ?_⟩
    · have := B u uo he
      rw [hu] at this
      exact this
    · obtain ⟨b, hb, hab⟩ := S (u, v, g) ((mem_edges hf).mpr ⟨uo, he⟩) a hu
      exact ⟨b, by rw [put v (O.lt v (inO v b hb)), hb], hab⟩
/-- heights give a potential -/
theorem pot_of_valid {rs : Rows} {es : List Bool} {f : List Int} {bd : Int} {ord : List Nat} {hs : List (Option Int)} (O : IsOrd rs ord) (hf : Fits rs f) (V : Valid rs es f bd hs) :
    ∃ p, PotE (edgesOf rs f ord) p ∧ ∀ u ∈ ord, hs[u]? = some (some (p u)) := by
  have all : ∀ u, Reach rs u → ∃ a, hs[u]? = some (some a) := by
    intro u r
    induction r with
    | z => exact ⟨_, V.2.1.choose_spec.1⟩
    | s r h1 h2 ih =>
      rename_i u v l row
      obtain ⟨a, ha⟩ := ih
      have hl := (List.getElem?_eq_some_iff.mp h2).1
      rw [hf row (List.mem_of_getElem? h1)] at hl
      obtain ⟨b, hb, _⟩ := (V.2.2 u a ha).2 v f[l] ⟨row, l, h1, h2, List.getElem?_eq_getElem hl⟩
      exact ⟨b, hb⟩
  have val : ∀ (u : Nat) (a : Int), hs[u]? = some (some a) → ((hs[u]?).getD none).getD 0 = a := fun u a h => by rw [h]; rfl
  refine ⟨fun u => ((hs[u]?).getD none).getD 0, ⟨?_, fun e he => ?_⟩, fun u hu => ?_⟩
  · obtain ⟨a, h1, h2⟩ := V.2.1
    show 0 ≤ ((hs[0]?).getD none).getD 0
    rw [val 0 a h1]
    exact h2
  · obtain ⟨h1, h2⟩ := (mem_edges hf).mp he
    obtain ⟨a, ha⟩ := all e.1 ((O.mem _).mp h1)
    obtain ⟨b, hb, hab⟩ := (V.2.2 _ a ha).2 _ _ h2
    show ((hs[e.1]?).getD none).getD 0 + e.2.2 ≤ ((hs[e.2.1]?).getD none).getD 0
    rw [val _ a ha, val _ b hb]
    exact hab
  · obtain ⟨a, ha⟩ := all u ((O.mem _).mp hu)
    show hs[u]? = some (some (((hs[u]?).getD none).getD 0))
    rw [val _ a ha, ha]
/-! ### the row and the ring of many states -/
def rsLong (n : Nat) (ring : Bool) : Rows := (List.range (n - 1)).map (fun i => [some (i + 1)]) ++ [[if ring then some 0 else none]]
def esLong (n : Nat) : List Bool := List.replicate (n - 1) false ++ [true]
def hsLong (n : Nat) (own : Int) : List (Option Int) := (List.range n).map fun (i : Nat) => some (own * (i : Int))
theorem long_edge {n : Nat} {ring : Bool} {own : Int} (hn : 1 ≤ n) {u v : Nat} {g : Int} : Edge (rsLong n ring) [own] u v g ↔ g = own ∧ (u + 1 < n ∧ v = u + 1 ∨ u + 1 = n ∧ ring = true ∧ v = 0) := by
  have get : ∀ row, (rsLong n ring)[u]? = some row ↔ (u + 1 < n ∧ row = [some (u + 1)] ∨ u + 1 = n ∧ row = [if ring then some 0 else none]) := by
    intro row
    unfold rsLong
    by_cases h : u < n - 1
    · rw [List.getElem?_append_left (by rw [List.length_map, List.length_range]; exact h), List.getElem?_map, List.getElem?_range h]
      constructor
      · intro e
        exact .inl ⟨by omega, (Option.some.inj e).symm⟩
      · rintro (⟨_, rfl⟩ | ⟨e, _⟩)
        · rfl
        · omega
    · rw [List.getElem?_append_right (by rw [List.length_map, List.length_range]; omega), List.length_map, List.length_range]
      by_cases h2 : u = n - 1
      · rw [h2, Nat.sub_self]
        constructor
        · intro e
          exact .inr ⟨by omega, (Option.some.inj e).symm⟩
        · rintro (⟨e, _⟩ | ⟨_, rfl⟩)
          · omega
          · rfl
      · rw [List.getElem?_eq_none (by rw [List.length_singleton]; omega)]
        constructor
        · intro e
          cases e
        · rintro (⟨e, _⟩ | ⟨e, _⟩) <;> omega
  constructor
  · rintro ⟨row, l, h1, h2, h3⟩
    have hl : l = 0 := by
      have := (List.getElem?_eq_some_iff.mp h3).1
      rw [List.length_singleton] at this
      omega
    subst hl
    refine ⟨(Option.some.inj h3).symm, ?_⟩
    rcases (get row).mp h1 with ⟨a, rfl⟩ | ⟨a, rfl⟩
    · exact .inl ⟨a, by simpa using h2.symm⟩
    · cases ring with
      | true => exact .inr ⟨a, rfl, by simpa using h2.symm⟩
      | false => simp at h2
  · rintro ⟨rfl, ⟨a, rfl⟩ | ⟨a, rfl, rfl⟩⟩
    · exact ⟨_, 0, (get _).mpr (.inl ⟨a, rfl⟩), rfl, rfl⟩
    · exact ⟨_, 0, (get _).mpr (.inr ⟨a, rfl⟩), rfl, rfl⟩
theorem long_len {n : Nat} {ring : Bool} (hn : 1 ≤ n) : (rsLong n ring).length = n := by
  unfold rsLong
  rw [List.length_append, List.length_map, List.length_range, List.length_singleton]
  omega
theorem long_end {n u : Nat} (hn : 1 ≤ n) : (esLong n)[u]? = some true ↔ u + 1 = n := by
  unfold esLong
  by_cases h : u < n - 1
  · rw [List.getElem?_append_left (by rw [List.length_replicate]; exact h), List.getElem?_replicate, if_pos h]
    constructor
    · intro e
      cases e
    · intro e
      omega
  · rw [List.getElem?_append_right (by rw [List.length_replicate]; omega), List.length_replicate]
    by_cases h2 : u = n - 1
    · rw [h2, Nat.sub_self]
      exact ⟨fun _ => by omega, fun _ => rfl⟩
    · rw [List.getElem?_eq_none (by rw [List.length_singleton]; omega)]
      constructor
      · intro e
        cases e
      · intro e
        omega
def dueLong (n : Nat) (ring : Bool) (own bd : Int) : Prop := (own < 1 ∨ ring = false) ∧ own * ((n : Int) - 1) ≤ bd
theorem hsLong_get {n : Nat} {own : Int} {u : Nat} {o : Option Int} : (hsLong n own)[u]? = some o ↔ u < n ∧ o = some (own * (u : Int)) := by
  unfold hsLong
  rw [List.getElem?_map]
  by_cases h : u < n
  · rw [List.getElem?_range h]
    exact ⟨fun e => ⟨h, (Option.some.inj e).symm⟩, fun ⟨_, e⟩ => by rw [e]; rfl⟩
  · rw [List.getElem?_eq_none (by rw [List.length_range]; omega)]
    constructor
    · intro e
      cases e
    · rintro ⟨a, _⟩
      exact absurd a h
theorem long_least {n : Nat} {ring : Bool} {own bd : Int} (hn : 2 ≤ n) : Valid (rsLong n ring) (esLong n) [own] bd (hsLong n own) ↔ dueLong n ring own bd := by
  have hc : ((n - 1 : Nat) : Int) = (n : Int) - 1 := by omega
  constructor
  · intro V
    have hl := (hsLong_get (n := n) (own := own) (u := n - 1) (o := some (own * ((n - 1 : Nat) : Int)))).mpr ⟨by omega, rfl⟩
    obtain ⟨h1, h2⟩ := V.2.2 _ _ hl
    refine ⟨?_, ?_⟩
    · cases ring with
      | false => exact .inr rfl
      | true =>
        left
        obtain ⟨b, hb, hab⟩ := h2 0 own ((long_edge (by omega)).mpr ⟨rfl, .inr ⟨by omega, rfl, rfl⟩⟩)
        have := (hsLong_get.mp hb).2
        cases this
        rw [hc] at hab
        have e : own * ((n : Int) - 1) + own = own * (n : Int) := by rw [Int.mul_sub]; omega
        rw [e] at hab
        refine Int.not_le.mp fun z => ?_
        have : (1 : Int) * (n : Int) ≤ own * (n : Int) := Int.mul_le_mul_of_nonneg_right z (by omega)
        have : own * ((0 : Nat) : Int) = 0 := Int.mul_zero own
        omega
    · have := h1 ((long_end (by omega)).mpr (by omega))
      rw [hc] at this
      exact this
  · rintro ⟨h1, h2⟩
    refine ⟨by rw [long_len (by omega)]; unfold hsLong; rw [List.length_map, List.length_range], ⟨own * ((0 : Nat) : Int), hsLong_get.mpr ⟨by omega, rfl⟩, by rw [show own * ((0 : Nat) : Int) = 0 from Int.mul_zero own]; exact Int.le_refl _⟩, fun u a hu => ?_⟩
    obtain ⟨ul, ua⟩ := hsLong_get.mp hu
    cases ua
    refine ⟨fun he => ?_, fun v g he => ?_⟩
    · have := (long_end (by omega)).mp he
      rw [show (u : Int) = (n : Int) - 1 by omega]
      exact h2
    · obtain ⟨rfl, ⟨a, rfl⟩ | ⟨a, hr, rfl⟩⟩ := (long_edge (by omega)).mp he
      · refine ⟨g * ((u + 1 : Nat) : Int), hsLong_get.mpr ⟨a, rfl⟩, ?_⟩
        rw [show ((u + 1 : Nat) : Int) = (u : Int) + 1 by omega, Int.mul_add, Int.mul_one]
        exact Int.le_refl _
      · refine ⟨g * ((0 : Nat) : Int), hsLong_get.mpr ⟨by omega, rfl⟩, ?_⟩
        rcases h1 with h1 | h1
        · have e : g * (u : Int) + g = g * (n : Int) := by
            rw [show (n : Int) = (u : Int) + 1 by omega, Int.mul_add, Int.mul_one]
          rw [e, show g * ((0 : Nat) : Int) = 0 from Int.mul_zero g]
          exact Int.mul_nonpos_of_nonpos_of_nonneg (by omega) (by omega)
        · rw [hr] at h1
          cases h1
theorem long_none {n : Nat} {ring : Bool} {own bd : Int} (hn : 2 ≤ n) (hd : ¬ dueLong n ring own bd) (hs : List (Option Int)) : ¬ Valid (rsLong n ring) (esLong n) [own] bd hs := by
  intro V
  obtain ⟨x, hx, hx0⟩ := V.2.1
  have up : ∀ u : Nat, u < n → ∃ a, hs[u]? = some (some a) ∧ x + own * (u : Int) ≤ a := by
    intro u
    induction u with
    | zero => intro _; exact ⟨x, hx, by rw [show own * ((0 : Nat) : Int) = 0 from Int.mul_zero own]; omega⟩
    | succ u ih =>
      intro hu
      obtain ⟨a, h1, h2⟩ := ih (by omega)
      obtain ⟨b, hb, hab⟩ := (V.2.2 u a h1).2 (u + 1) own ((long_edge (by omega)).mpr ⟨rfl, .inl ⟨hu, rfl⟩⟩)
      refine ⟨b, hb, ?_⟩
      rw [show ((u + 1 : Nat) : Int) = (u : Int) + 1 by omega, Int.mul_add, Int.mul_one]
      omega
  obtain ⟨a, h1, h2⟩ := up (n - 1) (by omega)
  rw [show ((n - 1 : Nat) : Int) = (n : Int) - 1 by omega] at h2
  obtain ⟨h3, h4⟩ := V.2.2 _ a h1
  have h5 := h3 ((long_end (by omega)).mpr (by omega))
  refine hd ⟨?_, by omega⟩
  cases ring with
  | false => exact .inr rfl
  | true =>
    left
    obtain ⟨b, hb, hab⟩ := h4 0 own ((long_edge (by omega)).mpr ⟨rfl, .inr ⟨by omega, rfl, rfl⟩⟩)
    rw [hx] at hb
    cases hb
    have e : own * ((n : Int) - 1) + own = own * (n : Int) := by rw [Int.mul_sub]; omega
    refine Int.not_le.mp fun z => ?_
    have : (1 : Int) * (n : Int) ≤ own * (n : Int) := Int.mul_le_mul_of_nonneg_right z (by omega)
    omega

/-! ### enumerate of a tuple -/
abbrev tupIt (l : Addr) : Obj := { cls := .type "tuple_iterator", data := .fields #[.ref l, .int 0 0] }
abbrev enumOb (i : Addr) : Obj := { cls := .type "enumerate", data := .fields #[.none, .bool false, .ref i, rawInt 0, .none, .none] }
theorem enum_tup_new (l : Addr) (xs : Array Value) (n : Nat) (y : Option Addr) (sl : Array (Option Value)) :
    Meets (Builtin.«enumerate.__new__» ⟨[.type "enumerate", .ref l], []⟩) (fun _ R s => s.heap.get? l = some { cls := .type "tuple", dict := y, data := .seq xs n, slots := sl } ∧
      R (.ok (.ret (.ref (s.heap.push (tupIt l)).objs.size))) { s with heap := (s.heap.push (tupIt l)).push (enumOb s.heap.objs.size) }) := by
  refine .of_wp fun prog w A R s h => ?_
  cases s
  have k1 := h.1
  have k2 := h.2
  have k3 := sub_enumerate
  have k4 : Heap.IsTuple _ l xs := ⟨_, k1, rfl, n, rfl⟩
  wp_walk using AutoSeq1.wpAny_loadPart' k1
  refine wpAny_stack_any fun st => wpAny_pure ?_
  split
  · rename_i c _ _ _ _ _
    cases (c == Value.type "enumerate") <;> (wp_walk using AutoSeq1.wpAny_loadPart' k1, wpAny_pyIter_tuple k4 <;> exact ⟨_, rfl, k2⟩)
  · wp_walk using AutoSeq1.wpAny_loadPart' k1, wpAny_pyIter_tuple k4
    exact ⟨_, rfl, k2⟩
section
variable {prog : Program} {w : World} {A : Around} {E : Value → Shared → Prop} {s : Shared}
theorem call_enum_tup {l : Addr} {xs : Array Value} {Q : Value → Shared → Prop} (hl : s.heap.IsTuple l xs)
    (fin : ∀ h2, IsEnum h2 (s.heap.objs.size + 1) s.heap.objs.size 0 .none → h2.IsTupleIter s.heap.objs.size l 0 → (∀ b o, s.heap.get? b = some o → h2.get? b = some o) → Q (.ref (s.heap.objs.size + 1)) { s with heap := h2 }) :
    wpAny (model prog w) A (call (.type "enumerate") [.ref l]) Q E s := by
  obtain ⟨⟨c, y, data, sl⟩, ho, hc, n, hd⟩ := hl
  simp only at hc hd
  cases hc
  cases hd
  have e1 : (s.heap.push (tupIt l)).objs.size = s.heap.objs.size + 1 := Heap.size_push ..
  have e2 : ((s.heap.push (tupIt l)).push (enumOb s.heap.objs.size)).get? (s.heap.objs.size + 1) = some (enumOb s.heap.objs.size) := by
    rw [← e1]
    exact Heap.get?_push_size _ rfl
  refine callType_new F.called_enumerate (by decide) (F.typeCall_enumerate_1 _) (F.newCall_enumerate_1 _) (fun obj => F.args_object_init_2 obj _) F.entry_enumerate_new (enum_tup_new l xs n y sl) ⟨ho, ?_⟩
  rw [e1]
  exact ⟨⟨_, e2, rfl⟩, fin _ e2 ⟨_, Heap.get?_push_of_some _ (Heap.get?_push_size _ rfl), rfl, rfl⟩ fun b o q => Heap.get?_push_of_some _ (Heap.get?_push_of_some _ q)⟩
end
/-- the tuple at a, each item in a new pair behind its number -/
def ItT (K : PySem.W.Frag) (a : Addr) : It :=
  ⟨fun i H => ∃ (xs : List V) (x : V), SqT K H a xs ∧ xs[i]? = some x,
    fun i H v H' => ∃ T x, v = .ref T ∧ H T = none ∧ H' = upd H T (.tup [.int (i : Nat), x]) ∧ ∀ xs, SqT K H a xs → xs[i]? = some x,
    fun i H => ∃ xs : List V, SqT K H a xs ∧ xs.length ≤ i⟩
theorem turn_enumT {P : Program} {w : World} {K : PySem.W.Frag} {elts : List Expr} {kk : Nat} {tpos : Pos} (a e it : Addr) :
    Turn P w K (.Tuple elts kk tpos) (ItT K a) [e, it] e (fun i h => (∃ old, IsEnum h e it ((i : Nat) : Int) old) ∧ h.IsTupleIter it a i ∧ e ≠ it) where
  mem := List.mem_cons_self
  obj := fun i h st b hb => by
    obtain ⟨⟨old, he⟩, ⟨o, ho, hc, hd⟩, _⟩ := st
    rcases List.mem_cons.mp hb with z | z
    · subst z
      exact ⟨_, he, fun v q => nomatch q⟩
    · rw [List.mem_singleton.mp z]
      refine ⟨o, ho, fun v q => ?_⟩
      rw [hd] at q
      cases q
  keep := fun i h h2 st k => ⟨st.1.imp fun old he => k e List.mem_cons_self _ he, st.2.1.at fun o q => k it (List.mem_cons_of_mem _ (List.mem_singleton.mpr rfl)) o q, st.2.2⟩
  item := by
    intro X hP hw hK hc i pins s σ H E I hf st hg
    cases hP
    cases hw
    cases hK
    obtain ⟨⟨old, he⟩, hit, hne⟩ := st
    obtain ⟨xs, x, hq, hx⟩ := hg
    obtain ⟨its, rv, p, hz⟩ := I.tuple hq
    obtain ⟨u, hu, ru⟩ := rv.get hx
    have lt1 : e < s.heap.objs.size := Heap.lt_size he
    have lt2 : it < s.heap.objs.size := by
      obtain ⟨_, q, _⟩ := id hit
      exact Heap.lt_size q
    have pT : s.heap.IsTuple a its.toArray := p
    have nea : e ≠ a := fun z => by
      obtain ⟨o, q1, q2, _⟩ := id pT
      rw [← z] at q1
      cases (he.symm.trans q1)
      exact absurd (Value.type.inj q2) (by decide)
    have nia : a ≠ it := fun z => by
      obtain ⟨o, q1, q2, _⟩ := id pT
      obtain ⟨o2, q3, q4, _⟩ := id hit
      rw [z] at q1
      cases (q1.symm.trans q3)
      rw [q2] at q4
      exact absurd (Value.type.inj q4) (by decide)
    have no : e ∉ [it, a] := fun z => by
      rcases List.mem_cons.mp z with z | z
      · exact hne z
      · exact nea (List.mem_singleton.mp z)
    have hlt : i < its.toArray.size := by
      rw [List.size_toArray, ← rv.length]
      exact (List.getElem?_eq_some_iff.mp hx).1
    refine wpAny_pyNext_enum_itemD (Draws.tuple (by rw [show X.A.in1.handled = X.A.handled from rfl]; exact I.ok.hd hc) it a nia its.toArray) he ⟨hit, pT⟩ hlt hne no fun v h2 tk hv ho st2 hT hsz hk => ?_
    have ev : v = u := by
      have q1 : its.toArray[i]? = some u := by simpa using hu
      rw [q1] at hv
      exact (Option.some.inj hv).symm
    cases ev
    refine ⟨_, rfl, wpAny_letOwnedTupleGo_enum (s := { s with heap := h2, toks := tk + 1 }) ho fun h3 he3 sb => ?_⟩
    have hT3 : h3.get? s.heap.objs.size = some { cls := .type "tuple", data := .seq #[.int i tk, u] } := (sb.2 _ (Nat.ne_of_gt lt1)).trans hT
    have new : ObjOk X.prog X.w (upd H s.heap.objs.size (.tup [.int (i : Nat), x])) h3 s.heap.objs.size (.tup [.int (i : Nat), x]) := ⟨by show 2 ≤ sizeLine; decide, [.int i tk, u], .cons ⟨_, rfl⟩ (.cons ru .nil), ⟨_, hT3, rfl, _, rfl⟩⟩
    have mem1 : ∀ {b : Addr}, b ∉ [e, it] → b ≠ e ∧ b ≠ it := fun h => ⟨fun z => h (z ▸ List.mem_cons_self), fun z => h (z ▸ List.mem_cons_of_mem _ (List.mem_singleton.mpr rfl))⟩
    have I1 : Inv X pins σ (upd H s.heap.objs.size (.tup [.int (i : Nat), x])) { s with heap := h3, toks := tk + 1 } :=
      I.turnedNew (ch := [e, it]) (fun b ob hb q => (sb.2 b (mem1 hb).1).trans (hk b ob (mem1 hb).1 (mem1 hb).2 q)) hf (Nat.le_refl _) new
    refine ⟨.ref s.heap.objs.size, _, I1, rfl, ⟨_, x, rfl, I.hok.fresh (Nat.le_refl _), rfl, fun ys hy => by rw [I.tuple_inj hy hq]; exact hx⟩, ⟨⟨u, ?_⟩, st2.1.at fun o q => (sb.2 it (Ne.symm hne)).trans q, hne⟩, fun b hb => ?_⟩
    · rw [show ((i + 1 : Nat) : Int) = (i : Int) + 1 from by omega]
      exact he3
    · rw [upd_ne]
      · exact (hf b hb).1
      · rcases List.mem_cons.mp hb with z | z
        · rw [z]
          exact Nat.ne_of_lt lt1
        · rw [List.mem_singleton.mp z]
          exact Nat.ne_of_lt lt2
  done := by
    intro X hP hw hK hc i pins s σ H E I hf st hg
    cases hP
    cases hw
    cases hK
    obtain ⟨⟨old, he⟩, hit, hne⟩ := st
    obtain ⟨xs, hq, hx⟩ := hg
    obtain ⟨its, rv, p, hz⟩ := I.tuple hq
    obtain ⟨f0, f1, f2, f3, f4, f5⟩ := hf it (List.mem_cons_of_mem _ (List.mem_singleton.mpr rfl))
    have pT : s.heap.IsTuple a its.toArray := p
    have hl := rv.length
    have D : Draws X.prog X.w X.A.in1 it [it, a] i (fun _ _ => False) (fun j h => j = i ∧ h.IsTupleIter it a i ∧ h.IsTuple a its.toArray) := {
      live := fun _ _ st => let ⟨o, ho, _⟩ := st.2.1; ⟨o, ho⟩
      frame := fun _ _ _ st hk => ⟨st.1, st.2.1.at fun o e => hk it List.mem_cons_self o e, st.2.2.at fun o e => hk a (List.mem_cons_of_mem _ (List.mem_singleton.mpr rfl)) o e⟩
      item := fun j s Q E hj st _ => absurd st.1 (Nat.ne_of_lt hj)
      done := fun s Q E st hE => wpAny_nextOf_tuple_end (I.ok.hd hc) st.2.1 st.2.2 (by rw [List.getElem?_toArray]; exact List.getElem?_eq_none (by omega)) hE }
    exact wpAny_pyNext_enum_endD D he ⟨rfl, hit, pT⟩ fun h2 eb => ⟨rfl, I.turned (t' := s.toks) (fun b o hb q => eb b o hb q) f0 f1 f3 f4 f5⟩
  self := fun A i s Q E st h => wpAny_pyIter_enum st.1.choose_spec h
def iEnumT (K : PySem.W.Frag) (ta : TA) : TI := fun σ H R => ta σ H fun vs H1 => ∃ a xs, vs = [.ref a] ∧ SqT K H1 a xs ∧ R (ItT K a) H1
theorem pi_enumT {X : Cx} {e : Expr} {ta : TA} {p pos tpos : Pos} {elts : List Expr} {kk : Nat} (g : Gl X "enumerate") (m : X.mg "enumerate" = none) (ha : PA X [e] ta) (hs : starEach [e] X.env = [(false, eval e X.env)] := by rfl) :
    PI X (.Tuple elts kk tpos) (.Call (.Name "enumerate" p) [e] [] pos) (iEnumT X.K ta) := by
  refine ⟨fun pins s σ H R I h => Call_ (ld_blt I g m boot_enumerate (PyProof.Rows.callWith_type1 (thn (ha.run pos pins s σ H _ I h) fun us s1 w => ?_) hs rfl))⟩
  obtain ⟨vs, H1, I1, r1, a, xs, rfl, hq, k⟩ := w
  cases r1 with
  | cons r rr =>
    cases rr
    cases r
    obtain ⟨its, rv, pl, _⟩ := I1.tuple hq
    refine call_enum_tup (show s1.heap.IsTuple a its.toArray from pl) fun h2 he hit hk => wpAny_pyIter_enum he ?_
    have I2 : Inv X pins σ H1 { s1 with heap := h2 } := I1.kept (t' := s1.toks) hk
    refine ⟨s1.heap.objs.size + 1, [s1.heap.objs.size + 1, s1.heap.objs.size], _, _, H1, rfl, I2, turn_enumT a _ s1.heap.objs.size, ⟨⟨.none, he⟩, hit, Nat.succ_ne_self _⟩, fun b hb => ?_, k⟩
    have le : s1.heap.objs.size ≤ b := by
      rcases List.mem_cons.mp hb with z | z
      · rw [z]
        exact Nat.le_add_right _ _
      · exact Nat.le_of_eq (List.mem_singleton.mp z).symm
    exact I1.fpOk le (I1.hok.fresh le)
theorem walk_enumT {K : PySem.W.Frag} {a : Addr} {xs : List V} : Walk (ItT K a) xs.length (fun H => SqT K H a xs) (YPair (fun i => some (.int (i : Nat))) (fun i => xs[i]?)) := by
  refine ⟨fun i _ hi q => ⟨xs, xs[i], q, List.getElem?_eq_getElem hi⟩, fun _ q => ⟨xs, q, Nat.le_refl _⟩, fun i H v H' _ q y => ?_⟩
  obtain ⟨T, x, h1, h2, h3, h4⟩ := y
  exact ⟨T, .int (i : Nat), x, h1, h2, h3, rfl, h4 xs q⟩
theorem all_take' {α : Type} {f : α → Bool} {ds : List α} : ((ds.map f).all id) = ds.all f := by
  rw [List.all_map]
  rfl
/-! ### machines, forms, heights as data -/
def natV (n : Nat) : V := .int (n : Int)
def oV : Option Nat → V
  | none => .non
  | some k => .int (k : Int)
def oD : Option Nat → PyData
  | none => .none
  | some k => .int (k : Int)
def hV : Option Int → V
  | none => .non
  | some k => .int k
def hD : Option Int → PyData
  | none => .none
  | some k => .int k
def rowDt (row : List (Option Nat)) : PyData := .tuple (row.map oD)
def machDt (L : Nat) (rs : Rows) (es : List Bool) : PyData := .tuple [.int (L : Int), .tuple (rs.map rowDt), .tuple (es.map .bool)]
def formDt (f : List Int) : PyData := .tuple (f.map .int)
def hsDt (hs : List (Option Int)) : PyData := .tuple (hs.map hD)
structure MOk (L : Nat) (rs : Rows) (es : List Bool) : Prop where
  l1 : 1 ≤ rs.length
  l400 : rs.length ≤ 400
  row : ∀ row ∈ rs, row.length = L
  tgt : ∀ row ∈ rs, ∀ v, some v ∈ row → v < rs.length
  es : es.length = rs.length
  L1 : 1 ≤ L
  L3 : L ≤ 3
theorem MOk.reach_lt {L : Nat} {rs : Rows} {es : List Bool} (M : MOk L rs es) : ∀ u, Reach rs u → u < rs.length := by
  intro u r
  cases r with
  | z => exact M.l1
  | s r h1 h2 => exact M.tgt _ (List.mem_of_getElem? h1) _ (List.mem_of_getElem? h2)
section
variable {B : Addr → Prop} {K : PySem.W.Frag} {H H' : Hp}
theorem dt_sc {α : Type} {fD : α → PyData} {fV : α → V} (h1 : ∀ x v, Dt B K H v (fD x) → v = fV x) : ∀ {xs : List α} {vs : List V}, DtAll B K H vs (xs.map fD) → vs = xs.map fV
  | [], _, h => by cases h; rfl
  | x :: xs, _, h => by
    cases h with
    | cons a b => rw [h1 _ _ a, dt_sc h1 b]; rfl
theorem dt_cs {α : Type} {fD : α → PyData} {fV : α → V} (h1 : ∀ x, Dt B K H (fV x) (fD x)) : ∀ xs : List α, DtAll B K H (xs.map fV) (xs.map fD)
  | [] => .nil
  | x :: xs => .cons (h1 x) (dt_cs h1 xs)
theorem o_sc (x : Option Nat) (v : V) (h : Dt B K H v (oD x)) : v = oV x := by
  cases x with
  | none => cases h; rfl
  | some k => cases h; rfl
theorem o_cs (x : Option Nat) : Dt B K H (oV x) (oD x) := by
  cases x with
  | none => exact .non
  | some k => exact .int _
theorem h_sc (x : Option Int) (v : V) (h : Dt B K H v (hD x)) : v = hV x := by
  cases x with
  | none => cases h; rfl
  | some k => cases h; rfl
theorem h_cs (x : Option Int) : Dt B K H (hV x) (hD x) := by
  cases x with
  | none => exact .non
  | some k => exact .int _
theorem i_sc (x : Int) (v : V) (h : Dt B K H v (.int x)) : v = .int x := by cases h; rfl
theorem b_sc (x : Bool) (v : V) (h : Dt B K H v (.bool x)) : v = .bl x := by cases h; rfl
/-- a machine as it lies -/
structure MA (H : Hp) (L : Nat) (rs : Rows) (es : List Bool) (m pr pe : Addr) (rvs : List V) : Prop where
  hm : Rd H m (.tup [.int (L : Int), .ref pr, .ref pe])
  hr : Rd H pr (.tup rvs)
  hl : rvs.length = rs.length
  row : ∀ (u : Nat) (row : List (Option Nat)), rs[u]? = some row → ∃ q, rvs[u]? = some (.ref q) ∧ Rd H q (.tup (row.map oV))
  he : Rd H pe (.tup (es.map V.bl))
theorem MA.same {L : Nat} {rs : Rows} {es : List Bool} {m pr pe : Addr} {rvs : List V} (s : Same H H') (M : MA H L rs es m pr pe rvs) : MA H' L rs es m pr pe rvs :=
  ⟨same_rd s M.hm, same_rd s M.hr, M.hl, fun u row h => let ⟨q, h1, h2⟩ := M.row u row h; ⟨q, h1, same_rd s h2⟩, same_rd s M.he⟩
theorem dt_mach {L : Nat} {rs : Rows} {es : List Bool} {v : V} (h : Dt B K H v (machDt L rs es)) : ∃ m pr pe rvs, v = .ref m ∧ ¬ B m ∧ MA H L rs es m pr pe rvs := by
  obtain ⟨m, xs, rfl, nm, hm, ha, _⟩ := h.tup_rd
  cases ha with
  | cons h1 ha =>
    cases ha with
    | cons h2 ha =>
      cases ha with
      | cons h3 ha =>
        cases ha
        cases h1
        obtain ⟨pr, rvs, rfl, _, hr, har, hl⟩ := h2.tup_rd
        obtain ⟨pe, evs, rfl, _, he, hae, _⟩ := h3.tup_rd
        rw [dt_sc b_sc hae] at he
        refine ⟨m, pr, pe, rvs, rfl, nm, hm, hr, by rw [hl, List.length_map], fun u row hu => ?_, he⟩
        obtain ⟨v, hv, hd⟩ := har.get (i := u) (d := rowDt row) (by rw [List.getElem?_map, hu]; rfl)
        obtain ⟨q, ys, rfl, _, hq, hay, _⟩ := hd.tup_rd
        rw [dt_sc o_sc hay] at hq
        exact ⟨q, hv, hq⟩
theorem dt_form {f : List Int} {v : V} (h : Dt B K H v (formDt f)) : ∃ p, v = .ref p ∧ ¬ B p ∧ Rd H p (.tup (f.map V.int)) := by
  obtain ⟨p, xs, rfl, np, hp, ha, _⟩ := h.tup_rd
  rw [dt_sc i_sc ha] at hp
  exact ⟨p, rfl, np, hp⟩
end
/-- what lies elsewhere stays where a dict alone is written -/
theorem rd_dict {H H' : Hp} {d a : Addr} {xs : List V} {kvs : List (Key × V)} (k : Keep (fun b => b = d) H H') (hd : H d = some (.dK kvs)) (h : Rd H a (.tup xs)) : Rd H' a (.tup xs) := by
  refine k.rd (fun z => ?_) h
  rw [z] at h
  rcases h with h | ⟨o, h⟩
  · rw [hd] at h
    cases h
  · rw [hd] at h
    cases h
theorem nodup_len {n : Nat} {xs : List Nat} (hn : xs.Nodup) (hlt : ∀ x ∈ xs, x < n) : xs.length ≤ n := by
  refine Nat.le_of_not_lt fun hl => ?_
  obtain ⟨a, b, h1, h2, h3⟩ := pigeon (List.range n) (fun k => xs.getD k 0) (fun k hk => by
    rw [List.length_range] at hk
    have hk2 : k < xs.length := by omega
    have e : xs.getD k 0 = xs[k] := by rw [List.getD_eq_getElem?_getD, List.getElem?_eq_getElem hk2]; rfl
    rw [e]
    exact List.mem_range.mpr (hlt _ (List.getElem_mem hk2)))
  rw [List.length_range] at h2
  have ha : a < xs.length := by omega
  have hb : b < xs.length := by omega
  have ea : xs.getD a 0 = xs[a] := by rw [List.getD_eq_getElem?_getD, List.getElem?_eq_getElem ha]; rfl
  have eb : xs.getD b 0 = xs[b] := by rw [List.getD_eq_getElem?_getD, List.getElem?_eq_getElem hb]; rfl
  rw [ea, eb] at h3
  exact absurd h3 (List.pairwise_iff_getElem.mp hn a b ha hb h1)
/-! ### reached -/
def knB (n : Nat) (ord : List Nat) : List V := (List.range n).map fun u => V.bl (decide (u ∈ ord))
theorem knB_get {n : Nat} {ord : List Nat} {u : Nat} (h : u < n) : (knB n ord)[u]? = some (.bl (decide (u ∈ ord))) := by
  unfold knB
  rw [List.getElem?_map, List.getElem?_range h]
  rfl
theorem knB_len {n : Nat} {ord : List Nat} : (knB n ord).length = n := by
  unfold knB
  rw [List.length_map, List.length_range]
theorem knB_set {n : Nat} {ord : List Nat} {v : Nat} : (knB n ord).set v (.bl true) = knB n (ord ++ [v]) := by
  refine List.ext_getElem? fun u => ?_
  rw [List.getElem?_set, knB_len]
  by_cases hu : u < n
  · rw [knB_get hu, knB_get hu]
    by_cases e : v = u
    · subst e
      rw [if_pos rfl, if_pos hu, decide_eq_true (by simp)]
    · rw [if_neg e]
      congr 2
      have : (u ∈ ord ++ [v]) ↔ u ∈ ord := by
        rw [List.mem_append, List.mem_singleton]
        exact ⟨fun h => h.elim id fun z => absurd z.symm e, .inl⟩
      rw [Bool.eq_iff_iff, decide_eq_true_iff, decide_eq_true_iff, this]
  · have h1 : (knB n ord)[u]? = none := List.getElem?_eq_none (by rw [knB_len]; omega)
    have h2 : (knB n (ord ++ [v]))[u]? = none := List.getElem?_eq_none (by rw [knB_len]; omega)
    rw [h1, h2]
    by_cases e : v = u
    · rw [if_pos e]
      rw [if_neg (by omega)]
    · rw [if_neg e]
theorem natV_get {ord : List Nat} {i u : Nat} (h : ord[i]? = some u) : (ord.map natV)[i]? = some (.int (u : Int)) := by
  rw [List.getElem?_map, h]
  rfl
theorem natV_of {ord : List Nat} {i : Nat} {v : V} (h : (ord.map natV)[i]? = some v) : ∃ u : Nat, ord[i]? = some u ∧ v = .int (u : Int) := by
  rw [List.getElem?_map] at h
  obtain ⟨u, h1, h2⟩ := Option.map_eq_some_iff.mp h
  exact ⟨u, h1, h2.symm⟩
/-- what is known of the states that were come to -/
structure ROrd (rs : Rows) (i : Nat) (ord : List Nat) : Prop where
  nd : ord.Nodup
  zero : 0 ∈ ord
  rch : ∀ u ∈ ord, Reach rs u
  cl : ∀ k, k < i → ∀ u, ord[k]? = some u → ∀ (row : List (Option Nat)) v, rs[u]? = some row → some v ∈ row → v ∈ ord
  le : i ≤ ord.length
theorem ROrd.push {rs : Rows} {i : Nat} {ord : List Nat} {v : Nat} (R : ROrd rs i ord) (hn : v ∉ ord) (hv : Reach rs v) : ROrd rs i (ord ++ [v]) where
  nd := List.nodup_append.mpr ⟨R.nd, by simp, fun a ha b hb e => hn (by rw [List.mem_singleton.mp hb] at e; exact e ▸ ha)⟩
  zero := List.mem_append_left _ R.zero
  rch := fun u hu => (List.mem_append.mp hu).elim (R.rch u) fun z => by rw [List.mem_singleton.mp z]; exact hv
  cl := fun k hk u hu row w hr hw => List.mem_append_left _ (R.cl k hk u (by rw [List.getElem?_append_left (by have := R.le; omega)] at hu; exact hu) row w hr hw)
  le := by
    rw [List.length_append]
    have := R.le
    omega
theorem ROrd.next {rs : Rows} {i u : Nat} {ord : List Nat} {row : List (Option Nat)} (R : ROrd rs i ord) (hu : ord[i]? = some u) (hr : rs[u]? = some row) (h : ∀ v, some v ∈ row → v ∈ ord) : ROrd rs (i + 1) ord where
  nd := R.nd
  zero := R.zero
  rch := R.rch
  cl := fun k hk w hw row' v hr' hv => by
    by_cases e : k = i
    · subst e
      rw [hu] at hw
      cases hw
      rw [hr] at hr'
      cases hr'
      exact h v hv
    · exact R.cl k (by omega) w hw row' v hr' hv
  le := by
    have := (List.getElem?_eq_some_iff.mp hu).1
    omega
theorem ROrd.isOrd {L : Nat} {rs : Rows} {es : List Bool} {i : Nat} {ord : List Nat} (M : MOk L rs es) (R : ROrd rs i ord) (hi : ord.length ≤ i) : IsOrd rs ord where
  mem := fun u => ⟨R.rch u, fun r => by
    induction r with
    | z => exact R.zero
    | s r h1 h2 ih =>
      obtain ⟨k, hk⟩ := List.getElem?_of_mem ih
      have hl := (List.getElem?_eq_some_iff.mp hk).1
      exact R.cl k (by omega) _ hk _ _ h1 (List.mem_of_getElem? h2)⟩
  lt := fun u hu => M.reach_lt u (R.rch u hu)
  len := nodup_len R.nd fun u hu => M.reach_lt u (R.rch u hu)
theorem ROrd.len {L : Nat} {rs : Rows} {es : List Bool} {i : Nat} {ord : List Nat} (M : MOk L rs es) (R : ROrd rs i ord) : ord.length ≤ rs.length := nodup_len R.nd fun u hu => M.reach_lt u (R.rch u hu)
theorem rord0 {rs : Rows} : ROrd rs 0 [0] where
  nd := by simp
  zero := by simp
  rch := fun u hu => by rw [List.mem_singleton.mp hu]; exact .z
  cl := fun k hk => absurd hk (Nat.not_lt_zero _)
  le := Nat.zero_le _
section
variable {P : Program} {w : World} {K : PySem.W.Frag} {mg : Str → Option Value} {base : Heap}
theorem scReached : FnScope ["rows", "order", "known", "at", "state", "target"] ["rows"] (defScope sReached) := ⟨rfl, rfl, rfl, by decide +kernel, rfl, by decide +kernel, by decide +kernel⟩
def spReached : Sp := fun vs H Q _ => ∃ (L : Nat) (rs : Rows) (es : List Bool) (m pr pe : Addr) (rvs : List V), vs = [.ref pr] ∧ MOk L rs es ∧ MA H L rs es m pr pe rvs ∧
  ∀ (H' : Hp) (p : Addr) (ord : List Nat), Same H H' → H p = none → H' p = some (.lst (ord.map natV)) → IsOrd rs ord → Q (.ref p) H'
theorem ok_reached {f : Addr} {fd : FuncData} (F : Fun K "reached" "reached" sReached f fd) (T : Mg mg) : FnOk P w K mg base CX0 1 f fd ["rows"] spReached := by
  refine F.ok scReached (fun vs H Q E h => ?_) (fun cdv A outer s H vs Q E hr h => ?_)
  · obtain ⟨L, rs, es, m, pr, pe, rvs, rfl, _⟩ := h
    rfl
  · obtain ⟨L, rs, es, m, pr, pe, rvs, rfl, M, MM, k⟩ := h
    refine ⟨_, pss_cons (ps_set (i := 1) scReached.nd rfl (.inl rfl) (pe_lst (pa_cons pe_int pa_nil)))
      (pss_cons (ps_set (i := 2) scReached.nd rfl (.inl rfl) (pe_op op_rep (pe_lst (pa_cons pe_bl pa_nil)) (pe_callB (r := rLen K) call_len_seq (by rfl) T.len PySem.boot_len (pa_cons (pv 0) pa_nil))))
      (pss_cons (ps_asg pe_bl (pg_sub (pv 2) pe_int set_list))
      (pss_cons (ps_set (i := 3) scReached.nd rfl (.inl rfl) pe_int)
      (pss_cons (ps_while PassesOwn.never (pt_cmpR op_lt (pv 3) (pe_callB (r := rLen K) call_len_seq (by rfl) T.len PySem.boot_len (pa_cons (pv 1) pa_nil)) (nomark _))
        (pss_cons (ps_set (i := 4) scReached.nd rfl (.inl rfl) (pe_ix ix_list (pv 1) (pv 3) (fun _ _ => rfl)))
        (pss_cons (ps_for PassesOwn.never rfl (pi_tup (pe_ix (r := rIxT K) ix_tup (pv 0) (pv 4) (fun _ _ => rfl))) (pg_name (i := 5) scReached.nd rfl (.inl rfl))
          (pss_one (ps_if (PW.pt (pw_and (pt_cmp (pc_notN (pv 5))) (pw_and1 (pt_not (pt_val (pe_ix ix_list (pv 2) (pv 5) (fun _ _ => rfl)))))))
            (pss_cons (ps_asg pe_bl (pg_sub (pv 2) (pv 5) set_list)) (pss_one (ps_expr (pe_bm PySem.F.plainAttrs_list PySem.F.slot_list_append PySem.F.type_list_append mt_append (pv 1) (pa_cons (pv 5) pa_nil)))))
            pss_nil)))
        (pss_one (ps_aug (i := 3) scReached.nd rfl (.inl rfl) pe_int ip_add)))))
      (pss_one (ps_ret (pv 1))))))), ?_⟩
    refine ⟨by show 1 ≤ sizeLine; decide, fun o ho => ?_⟩
    refine ⟨by show 1 ≤ sizeLine; decide, fun t ht => ?_⟩
    have s1 := same_new (o := .lst [.int 0]) ho
    have s2 := same_new (o := .lst [.bl false]) ht
    have M1 := MM.same (s1.trans s2)
    refine ⟨_, rfl, pr, rvs, rfl, .inr (.inl M1.hr), ?_⟩
    have hlen := MM.hl
    have l1 := M.l1
    have l4 := M.l400
    refine ⟨t, (rvs.length : Int), [V.bl false], rfl, rfl, upd_same, by omega, by omega, sz_of (by rw [List.length_singleton]; omega), fun kn hk => ?_⟩
    refine ⟨.ref kn, rfl, kn, _, 0, 0, rfl, rfl, upd_same, ?_, ?_⟩
    · unfold ixN
      rw [if_pos (by omega), if_pos]
      · rfl
      · simp
        omega
    have ek : ((List.replicate (rvs.length : Int).toNat [V.bl false]).flatten).set 0 (.bl true) = knB rs.length [0] := by
      have e0 : (List.replicate (rvs.length : Int).toNat [V.bl false]).flatten = knB rs.length [] := by
        refine List.ext_getElem? fun u => ?_
        rw [show (List.replicate (rvs.length : Int).toNat [V.bl false]).flatten = List.replicate rs.length (V.bl false) by rw [hlen]; simp]
        by_cases hu : u < rs.length
        · rw [knB_get hu, List.getElem?_replicate, if_pos hu]
          rfl
        · rw [List.getElem?_eq_none (by rw [List.length_replicate]; omega), List.getElem?_eq_none (by rw [knB_len]; omega)]
      rw [e0]
      exact knB_set
    rw [ek]
    have s3 := same_new (o := .lst (List.replicate (rvs.length : Int).toNat [V.bl false]).flatten) hk
    have nko : kn ≠ o := fun z => by
      rw [z, s2 _ _ upd_same] at hk
      cases hk
    have hG : ∃ G, G = upd (upd (upd (upd H o (.lst [.int 0])) t (.lst [.bl false])) kn (.lst (List.replicate (rvs.length : Int).toNat [V.bl false]).flatten)) kn (.lst (knB rs.length [0])) := ⟨_, rfl⟩
    obtain ⟨G, hG⟩ := hG
    rw [← hG]
    have sG : Same H G := fun b u e => by
      have e3 := s3 _ _ (s2 _ _ (s1 _ _ e))
      rw [hG]
      have : b ≠ kn := fun z => by
        rw [z] at e
        have := s2 _ _ (s1 _ _ e)
        rw [hk] at this
        cases this
      rw [upd_ne this]
      exact e3
    have gO : G o = some (.lst ([0].map natV)) := by
      rw [hG, upd_ne nko.symm]
      exact s3 _ _ (s2 _ _ upd_same)
    have gK : G kn = some (.lst (knB rs.length [0])) := by rw [hG, upd_same]
    have kn0 : H kn = none := by
      cases z : H kn with
      | none => rfl
      | some u =>
        have := s2 _ _ (s1 _ _ z)
        rw [hk] at this
        cases this
    clear hG ek
    have pushH : ∀ {H1 : Hp} {ord : List Nat} {v : Nat}, Same H H1 → H1 o = some (.lst (ord.map natV)) → H1 kn = some (.lst (knB rs.length ord)) →
        Same H (upd (upd H1 kn (.lst (knB rs.length (ord ++ [v])))) o (.lst (ord.map natV ++ [V.int (v : Int)]))) ∧ (upd (upd H1 kn (.lst (knB rs.length (ord ++ [v])))) o (.lst (ord.map natV ++ [V.int (v : Int)]))) o = some (.lst ((ord ++ [v]).map natV)) ∧
        (upd (upd H1 kn (.lst (knB rs.length (ord ++ [v])))) o (.lst (ord.map natV ++ [V.int (v : Int)]))) kn = some (.lst (knB rs.length (ord ++ [v]))) := by
      intro H1 ord v sm h1 h2
      refine ⟨fun b u e => ?_, by rw [upd_same, List.map_append]; rfl, by rw [upd_ne nko, upd_same]⟩
      rw [upd_ne (ne_of_none e ho), upd_ne (ne_of_none e kn0)]
      exact sm b u e
    refine while_by (fun σ H' => ∃ (i : Nat) (ord : List Nat) (y4 y5 : Option V), σ = [some (.ref pr), some (.ref o), some (.ref kn), some (.int (i : Int)), y4, y5] ∧ Same H H' ∧ H' o = some (.lst (ord.map natV)) ∧ H' kn = some (.lst (knB rs.length ord)) ∧ ROrd rs i ord)
      (fun (σ : List (Option V)) (_ : Hp) => match σ[3]? with
        | some (some (V.int i)) => 401 - i.toNat
        | _ => 0) ⟨0, [0], none, none, rfl, sG, gO, gK, rord0⟩ ?_ ?_
    · rintro σ H1 ⟨i, ord, y4, y5, rfl, sm, h1, h2, R⟩
      have hol := R.len M
      refine ⟨_, rfl, _, rfl, o, _, rfl, .inl (SqL.of h1), _, _, rfl, rfl, _, rfl, ite2 (fun hlt => ?_) fun hlt => ?_⟩
      · have hlt := of_decide_eq_true hlt
        rw [List.length_map] at hlt
        have hi : i < ord.length := by omega
        have hu : ord[i]? = some ord[i] := List.getElem?_eq_getElem hi
        have hmu := List.getElem_mem hi
        generalize ord[i] = u at *
        have hun := M.reach_lt u (R.rch u hmu)
        have hrow : rs[u]? = some rs[u] := List.getElem?_eq_getElem hun
        have hmr := List.getElem_mem hun
        generalize rs[u] = row at *
        have MM1 := MM.same sm
        obtain ⟨q, hq1, hq2⟩ := MM1.row u row hrow
        refine ⟨_, rfl, _, rfl, o, _, (i : Int), _, rfl, rfl, SqL.of h1, atI_nat (natV_get hu), ?_⟩
        refine ⟨_, rfl, _, rfl, pr, rvs, (u : Int), _, rfl, rfl, .inl MM1.hr, atI_nat hq1, q, rfl, ⟨_, .inl hq2⟩, ?_⟩
        refine for_tup (K := K) (a := q) (xs := row.map oV) (fun j σ H' => (∃ y5, σ = [some (.ref pr), some (.ref o), some (.ref kn), some (.int (i : Int)), some (.int (u : Int)), y5]) ∧ Same H H' ∧ (∀ {a : Addr} {xs : List V}, Rd H1 a (.tup xs) → Rd H' a (.tup xs)) ∧ ∃ ord', H' o = some (.lst (ord'.map natV)) ∧ H' kn = some (.lst (knB rs.length ord')) ∧ ROrd rs i ord' ∧ ord'[i]? = some u ∧ ∀ k, k < j → ∀ v, row[k]? = some (some v) → v ∈ ord')
          ⟨⟨_, rfl⟩, sm, fun h => h, ord, h1, h2, R, hu, fun k hk => absurd hk (Nat.not_lt_zero _)⟩ (fun j σ H' _ p => .inl (p.2.2.1 hq2)) ?_ ?_
        · rintro j x σ H2 hx ⟨⟨y5, rfl⟩, sm2, rdk, ord', g1, g2, R', hu', hall⟩
          rw [List.getElem?_map] at hx
          obtain ⟨tg, hj, rfl⟩ := Option.map_eq_some_iff.mp hx
          refine ⟨_, rfl, _, rfl, ?_⟩
          cases tg with
          | none =>
            refine ⟨⟨_, rfl⟩, sm2, rdk, ord', g1, g2, R', hu', fun k hk v hv => ?_⟩
            by_cases e : k = j
            · rw [e, hj] at hv
              cases hv
            · exact hall k (by omega) v hv
          | some v =>
            have hvn := M.tgt row hmr v (List.mem_of_getElem? hj)
            have hrv : Reach rs v := .s (R'.rch u (List.mem_of_getElem? hu')) hrow hj
            refine ⟨_, rfl, _, rfl, kn, _, (v : Int), _, rfl, rfl, SqL.of g2, atI_nat (knB_get hvn), _, rfl, ?_⟩
            by_cases hin : v ∈ ord'
            · rw [decide_eq_true hin]
              refine ⟨⟨_, rfl⟩, sm2, rdk, ord', g1, g2, R', hu', fun k hk w hw => ?_⟩
              by_cases e : k = j
              · rw [e, hj] at hw
                cases hw
                exact hin
              · exact hall k (by omega) w hw
            · rw [decide_eq_false hin]
              refine ⟨_, rfl, _, rfl, kn, _, (v : Int), v, rfl, rfl, g2, Evl.ixN_nat (by rw [knB_len]; exact hvn), ?_⟩
              rw [knB_set]
              have g1' : (upd H2 kn (.lst (knB rs.length (ord' ++ [v])))) o = some (.lst (ord'.map natV)) := by
                rw [upd_ne nko.symm]
                exact g1
              have hol2 := (R'.push hin hrv).len M
              rw [List.length_append, List.length_singleton] at hol2
              refine ⟨_, rfl, .inl ⟨rfl, _, SqL.of g1'⟩, _, rfl, o, _, _, rfl, rfl, g1', small1000 (by rw [List.length_map]; omega), ?_⟩
              obtain ⟨q1, q2, q3⟩ := pushH (v := v) sm2 g1 g2
              refine ⟨⟨_, rfl⟩, q1, fun {a} {xs} h => ?_, ord' ++ [v], q2, q3, R'.push hin hrv, ?_, fun k hk w hw => ?_⟩
              · have h' := rdk h
                have na : a ≠ o := fun z => by
                  rw [z] at h'
                  rcases h' with h' | ⟨_, h'⟩ <;> (rw [g1] at h'; cases h')
                have nb : a ≠ kn := fun z => by
                  rw [z] at h'
                  rcases h' with h' | ⟨_, h'⟩ <;> (rw [g2] at h'; cases h')
                rcases h' with h' | ⟨ob, h'⟩
                · exact .inl (by rw [upd_ne na, upd_ne nb]; exact h')
                · exact .inr ⟨ob, by rw [upd_ne na, upd_ne nb]; exact h'⟩
              · rw [List.getElem?_append_left (List.getElem?_eq_some_iff.mp hu').1]
                exact hu'
              · by_cases e : k = j
                · rw [e, hj] at hw
                  cases hw
                  exact List.mem_append_right _ (List.mem_singleton.mpr rfl)
                · exact List.mem_append_left _ (hall k (by omega) w hw)
        · rintro σ H2 ⟨⟨y5, rfl⟩, sm2, rdk, ord', g1, g2, R', hu', hall⟩
          have R'' := R'.next hu' hrow (fun v hv => by
            obtain ⟨k, hk⟩ := List.getElem?_of_mem hv
            exact hall k (by rw [List.length_map]; exact (List.getElem?_eq_some_iff.mp hk).1) v hk)
          have hl2 := R''.len M
          have hle := R''.le
          refine ⟨_, rfl, _, _, rfl, rfl, ⟨i + 1, ord', _, _, rfl, sm2, g1, g2, R''⟩, ?_⟩
          show 401 - ((i : Int) + 1).toNat < 401 - (i : Int).toNat
          omega
      · refine ⟨_, rfl, k H1 o ord sm ho h1 (R.isOrd M ?_)⟩
        have h9 : ¬ ((i : Int) < ((ord.map natV).length : Int)) := fun z => hlt (decide_eq_true z)
        rw [List.length_map] at h9
        omega
    · rintro σ H1 Q1 Q2 hQ ⟨x, e1, y, e2, p, ys, e3, e4, i, j, e5, e6, b, e7, q⟩
      exact ⟨x, e1, y, e2, p, ys, e3, e4, i, j, e5, e6, b, e7, hQ _ _ q⟩
end
/-! ### ring_behind -/
theorem valV_mem {kvs : List (Key × V)} {k : Key} {v : V} (h : valV kvs k = some v) : ∃ kv ∈ kvs, kv.1 = k ∧ kv.2 = v := by
  unfold valV at h
  obtain ⟨kv, h1, h2⟩ := Option.map_eq_some_iff.mp h
  exact ⟨kv, List.mem_of_find?_eq_some h1, by simpa using List.find?_some h1, h2⟩
theorem mem_putK {kvs : List (Key × V)} {k : Key} {y : V} {kv : Key × V} (h : kv ∈ putK kvs k y) : kv = (k, y) ∨ (kv ∈ kvs ∧ kv.1 ≠ k) := by
  unfold putK at h
  by_cases a : (kvs.any fun kv => decide (kv.1 = k)) = true
  · rw [if_pos a] at h
    obtain ⟨kw, h1, h2⟩ := List.mem_map.mp h
    by_cases e : kw.1 = k
    · rw [if_pos e] at h2
      exact .inl (by rw [← h2, e])
    · rw [if_neg e] at h2
      rw [← h2]
      exact .inr ⟨h1, e⟩
  · rw [if_neg a] at h
    rcases List.mem_append.mp h with h | h
    · refine .inr ⟨h, fun e => a ?_⟩
      rw [List.any_eq_true]
      exact ⟨kv, h, decide_eq_true e⟩
    · exact .inl (List.mem_singleton.mp h)
def itN (nx : Nat → Nat) (v : Nat) : Nat → Nat
  | 0 => v
  | k + 1 => nx (itN nx v k)
def keyN (kv : Key × V) : Nat := match kv.1 with
  | .inl i => i.toNat
  | .inr _ => 0
theorem itN_per {nx : Nat → Nat} {v a b : Nat} (h : itN nx v a = itN nx v b) : ∀ j, itN nx v (a + j) = itN nx v (b + j)
  | 0 => h
  | j + 1 => congrArg nx (itN_per h j)
/-- going round: behind as many turns as there are keys one stands on a ring -/
theorem itN_ring {nx : Nat → Nat} {v : Nat} {kvs : List (Key × V)} (h : ∀ k, ∃ x, valV kvs (.inl (itN nx v k : Int)) = some x) : ∃ p, 1 ≤ p ∧ p ≤ kvs.length ∧ itN nx v (kvs.length + p) = itN nx v kvs.length := by
  obtain ⟨a, b, h1, h2, h3⟩ := pigeon (kvs.map keyN) (itN nx v) (fun k _ => by
    obtain ⟨x, hx⟩ := h k
    obtain ⟨kv, m, e1, _⟩ := valV_mem hx
    refine List.mem_map.mpr ⟨kv, m, ?_⟩
    unfold keyN
    rw [e1]
    exact Int.toNat_natCast _)
  rw [List.length_map] at h2
  refine ⟨b - a, by omega, by omega, ?_⟩
  have := itN_per h3 (kvs.length - a)
  rw [show a + (kvs.length - a) = kvs.length by omega, show b + (kvs.length - a) = kvs.length + (b - a) by omega] at this
  exact this.symm
section
variable {P : Program} {w : World} {K : PySem.W.Frag} {mg : Str → Option Value} {base : Heap}
theorem scRing : FnScope ["came", "state", "_", "ring"] ["came", "state"] (defScope sRing) := ⟨rfl, rfl, rfl, by decide +kernel, rfl, by decide +kernel, by decide +kernel⟩
def spRing : Sp := fun vs H Q _ => ∃ (cd : Addr) (kvs : List (Key × V)) (nx : Nat → Nat) (v : Nat), vs = [.ref cd, .int (v : Int)] ∧ H cd = some (.dK kvs) ∧ kvs.length ≤ 1000000 ∧
  (∀ k, ∃ q rest, valV kvs (.inl (itN nx v k : Int)) = some (.ref q) ∧ Rd H q (.tup (.int (itN nx v (k + 1) : Int) :: rest))) ∧ ∀ H' p, Same H H' → Q (.ref p) H'
theorem ok_ring {f : Addr} {fd : FuncData} (F : Fun K "ring_behind" "ring_behind" sRing f fd) (T : Mg mg) : FnOk P w K mg base CX0 1 f fd ["came", "state"] spRing := by
  refine F.ok scRing (fun vs H Q E h => ?_) (fun cdv A outer s H vs Q E hr h => ?_)
  · obtain ⟨cd, kvs, nx, v, rfl, _⟩ := h
    rfl
  · obtain ⟨cd, kvs, nx, v, rfl, hc, hn, hall, k⟩ := h
    have hu1 := hu_of hr
    refine ⟨_, pss_cons (ps_for PassesOwn.never rfl (pi_range1 (by rfl) T.range (pa_cons (pe_callB call_lenD (by rfl) T.len PySem.boot_len (pa_cons (pv 0) pa_nil)) pa_nil)) (pg_name (i := 2) scRing.nd rfl (.inl rfl))
        (pss_one (ps_set (i := 1) scRing.nd rfl (.inl rfl) (pe_ix ix_tup (pe_dget hu1 (pv 0) (pv 1) (fun _ _ => rfl)) pe_int (fun _ _ => rfl)))))
      (pss_cons (ps_set (i := 3) scRing.nd rfl (.inl rfl) (pe_lst (pa_cons (pe_dget hu1 (pv 0) (pv 1) (fun _ _ => rfl)) pa_nil)))
      (pss_cons (ps_while PassesOwn.never (pt_cmpR op_ne (pe_ix ix_tup (pe_ix ix_list (pv 3) (pe_un un_neg pe_int) (fun _ _ => rfl)) pe_int (fun _ _ => rfl)) (pv 1) (nomark _))
        (pss_one (ps_expr (pe_bm PySem.F.plainAttrs_list PySem.F.slot_list_append PySem.F.type_list_append mt_append (pv 3) (pa_cons (pe_dget hu1 (pv 0) (pe_ix ix_tup (pe_ix ix_list (pv 3) (pe_un un_neg pe_int) (fun _ _ => rfl)) pe_int (fun _ _ => rfl)) (fun _ _ => rfl)) pa_nil)))))
      (pss_one (ps_ret (pv 3))))), ?_⟩
    refine ⟨_, rfl, cd, kvs, rfl, hc, kvs.length, rfl, by omega, by omega, ?_⟩
    refine for_range (lo := 0) (n := (kvs.length : Int).toNat) (fun i σ H' => (∃ y2, σ = [some (.ref cd), some (.int (itN nx v i : Int)), y2, none]) ∧ H' = H) ⟨⟨_, rfl⟩, rfl⟩ ?_ ?_
    · rintro i σ H1 hi ⟨⟨y2, rfl⟩, rfl⟩
      obtain ⟨q, rest, h1, h2⟩ := hall i
      refine ⟨_, rfl, _, rfl, cd, .ref q, rfl, .inl ⟨kvs, .inl _, .inl hc, rfl, h1.symm⟩, q, _, 0, _, rfl, rfl, .inl h2, atI_nat (j := 0) rfl, ?_⟩
      exact ⟨⟨_, rfl⟩, rfl⟩
    · rintro σ H1 ⟨⟨y2, rfl⟩, rfl⟩
      rw [Int.toNat_natCast]
      obtain ⟨pp, p1, p2, p3⟩ := itN_ring (nx := nx) (v := v) (kvs := kvs) (fun k => by
        obtain ⟨q, rest, h1, _⟩ := hall k
        exact ⟨_, h1⟩)
      obtain ⟨q0, rest0, e1, e2⟩ := hall kvs.length
      refine ⟨_, rfl, _, rfl, cd, .ref q0, rfl, .inl ⟨kvs, .inl _, .inl hc, rfl, e1.symm⟩, by show 1 ≤ sizeLine; decide, fun r hr0 => ?_⟩
      refine while_by (fun σ H' => ∃ (t : Nat) (xs : List V) (q : Addr) (rest : List V), (∃ y2, σ = [some (.ref cd), some (.int (itN nx v kvs.length : Int)), y2, some (.ref r)]) ∧ Same H1 H' ∧ H' r = some (.lst (xs ++ [.ref q])) ∧ xs.length = t ∧ t < pp ∧ Rd H' q (.tup (.int (itN nx v (kvs.length + t + 1) : Int) :: rest)))
        (fun _ H' => match H' r with
          | some (.lst xs) => kvs.length + 1 - xs.length
          | _ => 0) ⟨0, [], q0, rest0, ⟨_, rfl⟩, same_new hr0, upd_same, rfl, by omega, same_rd (same_new hr0) e2⟩ ?_ ?_
      · rintro σ H2 ⟨t, xs, q, rest, ⟨y2, rfl⟩, sm, g1, rfl, ht, g2⟩
        refine ⟨_, rfl, 1, rfl, r, _, -1, _, rfl, rfl, SqL.of g1, atI_last xs _, q, _, 0, _, rfl, rfl, .inl g2, atI_nat (j := 0) rfl, _, rfl, rfl, _, rfl, ite2 (fun h1 => ?_) fun h1 => ?_⟩
        · have hne : itN nx v (kvs.length + xs.length + 1) ≠ itN nx v kvs.length := fun z => by
            rw [z, decide_eq_true rfl] at h1
            cases h1
          have ht2 : xs.length + 1 < pp := by
            refine Nat.lt_of_le_of_ne ht fun z => hne ?_
            rw [show kvs.length + xs.length + 1 = kvs.length + pp by omega]
            exact p3
          obtain ⟨q2, rest2, f1, f2⟩ := hall (kvs.length + xs.length + 1)
          refine ⟨_, rfl, .inl ⟨rfl, _, SqL.of g1⟩, _, rfl, _, rfl, 1, rfl, r, _, -1, _, rfl, rfl, SqL.of g1, atI_last xs _, q, _, 0, _, rfl, rfl, .inl g2, atI_nat (j := 0) rfl, cd, .ref q2, rfl, .inl ⟨kvs, .inl _, .inl (sm _ _ hc), rfl, f1.symm⟩, r, _, _, rfl, rfl, g1, ?_, ?_⟩
          · exact Nat.lt_of_le_of_lt (show (xs ++ [V.ref q]).length ≤ 1000001 by rw [List.length_append, List.length_singleton]; omega) (by decide)
          · have s3 : Same H1 (upd H2 r (.lst (xs ++ [.ref q] ++ [.ref q2]))) := fun b u e => by
              rw [upd_ne (ne_of_none e hr0)]
              exact sm b u e
            refine ⟨⟨xs.length + 1, xs ++ [.ref q], q2, rest2, ⟨_, rfl⟩, s3, upd_same, by rw [List.length_append, List.length_singleton], ht2, same_rd s3 f2⟩, ?_⟩
            rw [upd_same, g1]
            show kvs.length + 1 - (xs ++ [V.ref q] ++ [V.ref q2]).length < kvs.length + 1 - (xs ++ [V.ref q]).length
            rw [List.length_append, List.length_append, List.length_singleton, List.length_singleton]
            omega
        · exact ⟨_, rfl, k _ _ sm⟩
      · rintro σ H2 Q1 Q2 hQ ⟨x, e1, i, e2, p, xs, j, y, e3, e4, e5, e6, p', xs', j', y', e7, e8, e9, e10, z, e11, e12, b, e13, q⟩
        exact ⟨x, e1, i, e2, p, xs, j, y, e3, e4, e5, e6, p', xs', j', y', e7, e8, e9, e10, z, e11, e12, b, e13, hQ _ _ q⟩
end
/-! ### raised -/
structure DictH (kvs : List (Key × V)) (s : RS) : Prop where
  val : ∀ n : Nat, valV kvs (.inl (n : Int)) = (s.h n).map V.int
  len : kvs.length ≤ s.now + 1
  mem : ∀ kv ∈ kvs, ∃ (n : Nat) (a : Int), kv = (.inl (n : Int), .int a) ∧ s.h n = some a
theorem dictH0 : DictH [(.inl 0, .int 0)] rs0 where
  val := fun n => by
    by_cases e : n = 0
    · rw [e]
      rfl
    · rw [valV_neg (fun z => e (by have := Sum.inl.inj z; omega))]
      show _ = (if n = 0 then some (0 : Int) else none).map V.int
      rw [if_neg e]
      rfl
  len := Nat.le_refl _
  mem := fun kv h => by
    rw [List.mem_singleton.mp h]
    exact ⟨0, 0, rfl, rfl⟩
theorem DictH.put {kvs : List (Key × V)} {s : RS} {i : Nat} {e : Ed} {a : Int} (D : DictH kvs s) (hr : raises e s = true) (ha : s.h e.1 = some a) : DictH (putK kvs (.inl (e.2.1 : Int)) (.int (a + e.2.2))) (relax i e s) := by
  unfold relax
  rw [if_pos hr]
  refine ⟨fun n => ?_, ?_, fun kv h => ?_⟩
  · rw [valV_put]
    show _ = (if n = e.2.1 then some ((s.h e.1).getD 0 + e.2.2) else s.h n).map V.int
    by_cases z : n = e.2.1
    · rw [if_pos (by rw [z]), if_pos z, ha]
      rfl
    · rw [if_neg (fun q => z (by have := Sum.inl.inj q; omega)), if_neg z]
      exact D.val n
  · have := length_putK kvs (.inl (e.2.1 : Int)) (V.int (a + e.2.2))
    have := D.len
    show _ ≤ s.now + 1 + 1
    omega
  · rcases mem_putK h with h | ⟨h, hne⟩
    · refine ⟨e.2.1, a + e.2.2, h, ?_⟩
      show (if e.2.1 = e.2.1 then some ((s.h e.1).getD 0 + e.2.2) else _) = _
      rw [if_pos rfl, ha]
      rfl
    · obtain ⟨n, x, h1, h2⟩ := D.mem kv h
      refine ⟨n, x, h1, ?_⟩
      show (if n = e.2.1 then _ else s.h n) = some x
      rw [if_neg (fun z => hne (by rw [h1, z])), h2]
structure CameH (H : Hp) (cvs : List (Key × V)) (s : RS) : Prop where
  len : cvs.length ≤ s.now
  val : ∀ u t : Nat, s.par u = some t → ∃ q rest, valV cvs (.inl (u : Int)) = some (.ref q) ∧ Rd H q (.tup (.int (t : Int) :: rest))
theorem CameH.put {H H' : Hp} {cvs : List (Key × V)} {s : RS} {i : Nat} {e : Ed} {q : Addr} {rest : List V} (C : CameH H cvs s) (k : ∀ {a : Addr} {xs : List V}, Rd H a (.tup xs) → Rd H' a (.tup xs)) (hr : raises e s = true) (hq : Rd H' q (.tup (.int (e.1 : Int) :: rest))) :
    CameH H' (putK cvs (.inl (e.2.1 : Int)) (.ref q)) (relax i e s) := by
  unfold relax
  rw [if_pos hr]
  refine ⟨?_, fun u t h => ?_⟩
  · have := length_putK cvs (.inl (e.2.1 : Int)) (V.ref q)
    have := C.len
    show _ ≤ s.now + 1
    omega
  · rw [valV_put]
    have h : (if u = e.2.1 then some e.1 else s.par u) = some t := h
    by_cases z : u = e.2.1
    · rw [if_pos z] at h
      cases h
      rw [if_pos (by rw [z])]
      exact ⟨q, rest, rfl, hq⟩
    · rw [if_neg z] at h
      rw [if_neg (fun y => z (by have := Sum.inl.inj y; omega))]
      obtain ⟨q', rest', h1, h2⟩ := C.val u t h
      exact ⟨q', rest', h1, k h2⟩
theorem CameH.keep {H H' : Hp} {cvs : List (Key × V)} {s : RS} (C : CameH H cvs s) (k : ∀ {a : Addr} {xs : List V}, Rd H a (.tup xs) → Rd H' a (.tup xs)) : CameH H' cvs s :=
  ⟨C.len, fun u t h => let ⟨q, r, h1, h2⟩ := C.val u t h; ⟨q, r, h1, k h2⟩⟩
theorem came0 {H : Hp} : CameH H [] rs0 := ⟨Nat.le_refl _, fun u t h => by cases h⟩
theorem rd_up {H : Hp} {d a : Addr} {xs : List V} {o : HO} {kvs : List (Key × V)} (hd : H d = some (.dK kvs)) (h : Rd H a (.tup xs)) : Rd (upd H d o) a (.tup xs) := by
  have na : a ≠ d := fun z => by
    rw [z] at h
    rcases h with h | ⟨ob, h⟩ <;> (rw [hd] at h; cases h)
  rcases h with h | ⟨ob, h⟩
  · exact .inl (by rw [upd_ne na]; exact h)
  · exact .inr ⟨ob, by rw [upd_ne na]; exact h⟩
theorem rd_up' {H : Hp} {d a : Addr} {o o' : HO} (hd : H d = none) (h : Rd H a o') : Rd (upd H d o) a o' := same_rd (same_new hd) h
/-- the edges as they lie in a list -/
def EdAt (H : Hp) (evs : List V) (E : List Ed) : Prop := evs.length = E.length ∧ ∀ (j : Nat) (e : Ed), E[j]? = some e → ∃ q y, evs[j]? = some (.ref q) ∧ Rd H q (.tup [.int (e.1 : Int), .int (e.2.1 : Int), .int e.2.2, y])
theorem EdAt.keep {H H' : Hp} {evs : List V} {E : List Ed} (C : EdAt H evs E) (k : ∀ {a : Addr} {xs : List V}, Rd H a (.tup xs) → Rd H' a (.tup xs)) : EdAt H' evs E :=
  ⟨C.1, fun j e h => let ⟨q, y, h1, h2⟩ := C.2 j e h; ⟨q, y, h1, k h2⟩⟩
section
variable {P : Program} {w : World} {K : PySem.W.Frag} {mg : Str → Option Value} {base : Heap}
theorem scRaised : FnScope ["edges", "heights", "many", "came", "last", "_", "edge", "tail", "head", "gain"] ["edges", "heights", "many"] (defScope sRaised) := ⟨rfl, rfl, rfl, by decide +kernel, rfl, by decide +kernel, by decide +kernel⟩
def spRaised (K : PySem.W.Frag) : Sp := fun vs H Q _ => ∃ (el d : Addr) (E : List Ed) (evs : List V) (ord : List Nat), vs = [.ref el, .ref d, .int (ord.length : Int)] ∧ SqL K H el evs ∧ el ≠ d ∧ EdAt H evs E ∧ H d = some (.dK [(.inl 0, .int 0)]) ∧
  1 ≤ ord.length ∧ ord.length ≤ 400 ∧ E.length ≤ 1200 ∧ (∀ e ∈ E, e.1 ∈ ord ∧ e.2.1 ∈ ord) ∧ (∀ e ∈ E, -100 ≤ e.2.2 ∧ e.2.2 ≤ 100) ∧
  (∀ H' i s kvs, Keep (fun b => b = d) H H' → H' d = some (.dK kvs) → DictH kvs s → RInv E i E [] none s → i ≤ 401 → Q .non H') ∧
  ∀ H' p, Keep (fun b => b = d) H H' → (∀ p, ¬ PotE E p) → Q (.ref p) H'
theorem ok_raised {f fR : Addr} {fd fdR : FuncData} (F : Fun K "raised" "raised" sRaised f fd) (R : FnOk P w K mg base CX0 1 fR fdR ["came", "state"] spRing) (FR : Fun K "ring_behind" "ring_behind" sRing fR fdR) (bR : Binds K fdR ["came", "state"] []) (gR : mg "ring_behind" = some (.ref fR)) (T : Mg mg) :
    FnOk P w K mg base CX0 2 f fd ["edges", "heights", "many"] (spRaised K) := by
  refine F.ok scRaised (fun vs H Q E h => ?_) (fun cdv A outer s H vs Q E hr h => ?_)
  · obtain ⟨el, d, E, evs, ord, rfl, _⟩ := h
    rfl
  · obtain ⟨el, d, Es, evs, ord, rfl, hel, ned, hE, hd, n1, n400, e1200, hin, hg, kN, kR⟩ := h
    have hu1 := hu_of hr
    refine ⟨_, pss_cons (ps_set (i := 3) scRaised.nd rfl (.inl rfl) pe_dnewK)
      (pss_cons (ps_set (i := 4) scRaised.nd rfl (.inl rfl) pe_non)
      (pss_cons (ps_for PassesOwn.never rfl (pi_range1 (by rfl) T.range (pa_cons (pv 2) pa_nil)) (pg_name (i := 5) scRaised.nd rfl (.inl rfl))
        (pss_cons (ps_set (i := 4) scRaised.nd rfl (.inl rfl) pe_non)
        (pss_cons (ps_for PassesOwn.never rfl (pi_list (pv 0)) (pg_name (i := 6) scRaised.nd rfl (.inl rfl))
          (pss_cons (ps_asg (pv 6) (pg_tup rfl (pgs_cons (pg_name (i := 7) scRaised.nd rfl (.inl rfl)) (pgs_cons (pg_name (i := 8) scRaised.nd rfl (.inl rfl)) (pgs_cons (pg_name (i := 9) scRaised.nd rfl (.inl rfl)) (pgs_cons (pg_name (i := 5) scRaised.nd rfl (.inl rfl)) pgs_nil))))))
          (pss_one (ps_if (PW.pt (pw_and (pt_cmp (pc_din hu1 (pv 7) (pv 1))) (pw_and1 (PW.pt (pw_or (pt_cmp (pc_dnotin hu1 (pv 8) (pv 1))) (pw_or1 (pt_cmpR op_lt (pe_dget hu1 (pv 1) (pv 8) (fun _ _ => rfl)) (pe_op op_add (pe_dget hu1 (pv 1) (pv 7) (fun _ _ => rfl)) (pv 9)) (nomark _))))))))
            (pss_cons (ps_dput hu1 (pv 1) (pv 8) (pe_op op_add (pe_dget hu1 (pv 1) (pv 7) (fun _ _ => rfl)) (pv 9)) rfl)
            (pss_cons (ps_dput hu1 (pv 3) (pv 8) (pv 6) rfl)
            (pss_one (ps_set (i := 4) scRaised.nd rfl (.inl rfl) (pv 8)))))
            pss_nil))))
        (pss_one (ps_if (pt_cmp (pc_isN (pv 4))) (pss_one (ps_ret pe_non)) pss_nil)))))
      (pss_one (ps_ret (pe_call R hr (by rfl) gR FR.kp bR .nil pass0 (pa_cons (pv 3) (pa_cons (pv 4) pa_nil))))))), ?_⟩
    refine fun cd hcd => ?_
    have s0 := same_new (o := .dK []) hcd
    have ndc : cd ≠ d := fun z => by
      rw [z, hd] at hcd
      cases hcd
    refine ⟨_, rfl, (ord.length : Int), rfl, by omega, by omega, ?_⟩
    refine for_range (lo := 0) (n := (ord.length : Int).toNat) (fun i σ H' => ∃ (s' : RS) (kvs cvs : List (Key × V)) (last : Option Nat), (∃ y5 y6 y7 y8 y9 : Option V, σ = [some (.ref el), some (.ref d), some (.int (ord.length : Int)), some (.ref cd), some (oV last), y5, y6, y7, y8, y9]) ∧ Keep (fun b => b = d) H H' ∧ (∀ {a : Addr} {xs : List V}, Rd H a (.tup xs) → Rd H' a (.tup xs)) ∧ H' d = some (.dK kvs) ∧ H' cd = some (.dK cvs) ∧ DictH kvs s' ∧ CameH H' cvs s' ∧ RInv Es (i + 1) [] Es none s' ∧ (i = 0 ∨ ∃ v, last = some v ∧ s'.R v = i))
      ⟨rs0, _, _, none, ⟨_, _, _, _, _, rfl⟩, Keep.same s0, fun h => rd_up' hcd h, ?_, upd_same, dictH0, came0, rinv0, .inl rfl⟩ ?_ ?_
    · rw [upd_ne ndc.symm]
      exact hd
    · rintro i σ H1 hi ⟨s1, kvs, cvs, last, ⟨y5, y6, y7, y8, y9, rfl⟩, kp, rk, hd1, hc1, DH1, CH1, RI1, _⟩
      have hi : i < ord.length := by omega
      have hS : SqL K H1 el evs := kp.seqL ned hel
      refine ⟨_, rfl, el, rfl, ⟨_, hS⟩, ?_⟩
      refine for_list (K := K) (a := el) (xs := evs) (fun j σ H2 => ∃ (s' : RS) (kvs cvs : List (Key × V)) (last : Option Nat), (∃ y5 y6 y7 y8 y9 : Option V, σ = [some (.ref el), some (.ref d), some (.int (ord.length : Int)), some (.ref cd), some (oV last), y5, y6, y7, y8, y9]) ∧ Keep (fun b => b = d) H H2 ∧ (∀ {a : Addr} {xs : List V}, Rd H a (.tup xs) → Rd H2 a (.tup xs)) ∧ H2 d = some (.dK kvs) ∧ H2 cd = some (.dK cvs) ∧ DictH kvs s' ∧ CameH H2 cvs s' ∧ RInv Es (i + 1) (Es.take j) (Es.drop j) last s')
        ⟨s1, kvs, cvs, none, ⟨_, _, _, _, _, rfl⟩, kp, rk, hd1, hc1, DH1, CH1, RI1⟩ (fun j σ H2 _ p => by
          obtain ⟨_, _, _, _, _, kp, _⟩ := p
          exact kp.seqL ned hel) ?_ ?_
      · rintro j x σ H2 hx ⟨s', kvs, cvs, last, ⟨y5, y6, y7, y8, y9, rfl⟩, kp, rk, hd', hc', DH, CH, RI⟩
        have hj : j < Es.length := by rw [← hE.1]; exact (List.getElem?_eq_some_iff.mp hx).1
        have he : Es[j]? = some Es[j] := List.getElem?_eq_getElem hj
        obtain ⟨q, y, hq1, hq⟩ := hE.2 j _ he
        have RI' : RInv Es (i + 1) (Es.take j) (Es[j] :: Es.drop (j + 1)) last s' := by
          rw [← List.drop_eq_getElem_cons hj]
          exact RI
        generalize Es[j] = e at *
        rw [hx] at hq1
        cases hq1
        have hq2 := rk hq
        have stay : raises e s' = false → RInv Es (i + 1) (Es.take (j + 1)) (Es.drop (j + 1)) last s' := fun hf => by
          have st := rinv_step (List.mem_of_getElem? he) (hg e (List.mem_of_getElem? he)) RI'
          rw [if_neg (by rw [hf]; exact Bool.false_ne_true)] at st
          unfold relax at st
          rw [if_neg (by rw [hf]; exact Bool.false_ne_true)] at st
          rw [List.take_add_one, he]
          exact st
        refine ⟨_, rfl, q, _, rfl, .inl hq2, rfl, _, _, rfl, _, _, rfl, _, _, rfl, _, _, rfl, rfl, ?_⟩
        refine ⟨_, rfl, _, rfl, d, (s'.h e.1).map V.int, rfl, .inl ⟨kvs, .inl _, .inl hd', rfl, (DH.val _).symm⟩, _, rfl, ?_⟩
        cases ha : s'.h e.1 with
        | none =>
          refine ⟨s', kvs, cvs, last, ⟨_, _, _, _, _, rfl⟩, kp, rk, hd', hc', DH, CH, stay ?_⟩
          unfold raises
          rw [ha]
        | some a =>
          refine ⟨_, rfl, _, rfl, d, (s'.h e.2.1).map V.int, rfl, .inl ⟨kvs, .inl _, .inl hd', rfl, (DH.val _).symm⟩, _, rfl, ?_⟩
          cases hb : s'.h e.2.1 with
          | none =>
            have hr : raises e s' = true := by
              unfold raises
              rw [ha, hb]
            have hnew : s'.now ≤ 1000000 := by
              have := RI.nowle
              have h1 : (i + 1 - 1) * Es.length ≤ 400 * 1200 := Nat.mul_le_mul (by omega) e1200
              have h2 : (Es.take j).length ≤ Es.length := by rw [List.length_take]; omega
              omega
            have lk : kvs.length < sizeLine := Nat.lt_of_le_of_lt (show kvs.length ≤ 1000001 by have := DH.len; omega) (by decide)
            have lc : cvs.length < sizeLine := Nat.lt_of_le_of_lt (show cvs.length ≤ 1000001 by have := CH.len; omega) (by decide)
            refine ⟨_, rfl, _, rfl, d, .int a, rfl, .inl ⟨kvs, .inl _, .inl hd', rfl, (by rw [DH.val, ha]; rfl)⟩, _, rfl, _, _, rfl, rfl, _, rfl, _, rfl, d, _, rfl, DPut.k (k := .inl (e.2.1 : Int)) hd' lk, ?_⟩
            have hc2 : (upd H2 d (.dK (putK kvs (.inl (e.2.1 : Int)) (.int (a + e.2.2))))) cd = some (.dK cvs) := by rw [upd_ne ndc]; exact hc'
            refine ⟨_, rfl, _, rfl, _, rfl, cd, _, rfl, DPut.k (k := .inl (e.2.1 : Int)) hc2 lc, _, rfl, ?_⟩
            have rk3 : ∀ {x : Addr} {xs : List V}, Rd H2 x (.tup xs) → Rd (upd (upd H2 d (.dK (putK kvs (.inl (e.2.1 : Int)) (.int (a + e.2.2))))) cd (.dK (putK cvs (.inl (e.2.1 : Int)) (.ref q)))) x (.tup xs) := fun h => rd_up (by rw [upd_ne ndc]; exact hc') (rd_up hd' h)
            have st := rinv_step (List.mem_of_getElem? he) (hg e (List.mem_of_getElem? he)) RI'
            rw [if_pos hr] at st
            refine ⟨relax (i + 1) e s', _, _, some e.2.1, ⟨_, _, _, _, _, rfl⟩, fun b u nb ho => ?_, fun h => rk3 (rk h), ?_, upd_same, DH.put hr ha, CH.put rk3 hr (rk3 hq2), ?_⟩
            · rw [upd_ne (ne_of_none ho hcd), upd_ne nb]
              exact kp b u nb ho
            · rw [upd_ne ndc.symm, upd_same]
            · rw [List.take_add_one, he]
              exact st
          | some b =>
            refine ⟨_, rfl, _, rfl, d, .int b, rfl, .inl ⟨kvs, .inl _, .inl hd', rfl, (by rw [DH.val, hb]; rfl)⟩, _, rfl, _, rfl, d, .int a, rfl, .inl ⟨kvs, .inl _, .inl hd', rfl, (by rw [DH.val, ha]; rfl)⟩, _, rfl, _, _, rfl, rfl, _, _, rfl, rfl, _, rfl, ite2 (fun h1 => ?_) fun h1 => ?_⟩
            · have hr : raises e s' = true := by
                unfold raises
                rw [ha, hb]
                exact h1
              have hnew : s'.now ≤ 1000000 := by
                have := RI.nowle
                have h1 : (i + 1 - 1) * Es.length ≤ 400 * 1200 := Nat.mul_le_mul (by omega) e1200
                have h2 : (Es.take j).length ≤ Es.length := by rw [List.length_take]; omega
                omega
              have lk : kvs.length < sizeLine := Nat.lt_of_le_of_lt (show kvs.length ≤ 1000001 by have := DH.len; omega) (by decide)
              have lc : cvs.length < sizeLine := Nat.lt_of_le_of_lt (show cvs.length ≤ 1000001 by have := CH.len; omega) (by decide)
              refine ⟨_, rfl, _, rfl, d, .int a, rfl, .inl ⟨kvs, .inl _, .inl hd', rfl, (by rw [DH.val, ha]; rfl)⟩, _, rfl, _, _, rfl, rfl, _, rfl, _, rfl, d, _, rfl, DPut.k (k := .inl (e.2.1 : Int)) hd' lk, ?_⟩
              have hc2 : (upd H2 d (.dK (putK kvs (.inl (e.2.1 : Int)) (.int (a + e.2.2))))) cd = some (.dK cvs) := by rw [upd_ne ndc]; exact hc'
              refine ⟨_, rfl, _, rfl, _, rfl, cd, _, rfl, DPut.k (k := .inl (e.2.1 : Int)) hc2 lc, _, rfl, ?_⟩
              have rk3 : ∀ {x : Addr} {xs : List V}, Rd H2 x (.tup xs) → Rd (upd (upd H2 d (.dK (putK kvs (.inl (e.2.1 : Int)) (.int (a + e.2.2))))) cd (.dK (putK cvs (.inl (e.2.1 : Int)) (.ref q)))) x (.tup xs) := fun h => rd_up (by rw [upd_ne ndc]; exact hc') (rd_up hd' h)
              have st := rinv_step (List.mem_of_getElem? he) (hg e (List.mem_of_getElem? he)) RI'
              rw [if_pos hr] at st
              refine ⟨relax (i + 1) e s', _, _, some e.2.1, ⟨_, _, _, _, _, rfl⟩, fun b u nb ho => ?_, fun h => rk3 (rk h), ?_, upd_same, DH.put hr ha, CH.put rk3 hr (rk3 hq2), ?_⟩
              · rw [upd_ne (ne_of_none ho hcd), upd_ne nb]
                exact kp b u nb ho
              · rw [upd_ne ndc.symm, upd_same]
              · rw [List.take_add_one, he]
                exact st
            · refine ⟨s', kvs, cvs, last, ⟨_, _, _, _, _, rfl⟩, kp, rk, hd', hc', DH, CH, stay ?_⟩
              unfold raises
              rw [ha, hb]
              exact Bool.eq_false_iff.mpr h1
      · rintro σ H2 ⟨s', kvs, cvs, last, ⟨y5, y6, y7, y8, y9, rfl⟩, kp, rk, hd', hc', DH, CH, RI⟩
        rw [hE.1, List.take_length, List.drop_length] at RI
        refine ⟨_, rfl, _, rfl, ?_⟩
        cases last with
        | none => exact kN H2 (i + 1) s' kvs kp hd' DH RI (by omega)
        | some v => exact ⟨s', kvs, cvs, some v, ⟨_, _, _, _, _, rfl⟩, kp, rk, hd', hc', DH, CH, rinv_next RI, .inr ⟨v, rfl, RI.lastS v rfl⟩⟩
    · rintro σ H1 ⟨s', kvs, cvs, last, ⟨y5, y6, y7, y8, y9, rfl⟩, kp, rk, hd', hc', DH, CH, RI, h0⟩
      rw [Int.toNat_natCast] at RI h0
      rcases h0 with h0 | ⟨v, rfl, hv⟩
      · omega
      · have hRv : ord.length ≤ s'.R v := by omega
        have hch := chain_all RI hin hRv n1
        have hnow : s'.now ≤ 1000000 := by
          have := RI.nowle
          have h1 : (ord.length + 1 - 1) * Es.length ≤ 400 * 1200 := Nat.mul_le_mul (by omega) e1200
          rw [List.length_nil] at this
          omega
        refine ⟨_, rfl, _, rfl, cd, cvs, fun u => (s'.par u).getD 0, v, rfl, hc', by have := CH.len; omega, fun k => ?_, fun H2 p sm => ?_⟩
        · have e1 : ∀ k, itN (fun u => (s'.par u).getD 0) v k = chainP s' v k := by
            intro k
            induction k with
            | zero => rfl
            | succ k ih =>
              show (s'.par (itN _ v k)).getD 0 = (s'.par (chainP s' v k)).getD 0
              rw [ih]
          rw [e1, e1]
          obtain ⟨u, g, a, b, p1, _⟩ := RI.par _ (hch k)
          obtain ⟨q, rest, h1, h2⟩ := CH.val _ _ p1
          refine ⟨q, rest, h1, ?_⟩
          have e2 : chainP s' v (k + 1) = u := by
            show (s'.par (chainP s' v k)).getD 0 = u
            rw [p1]
            rfl
          rw [e2]
          exact h2
        · exact kR H2 p (kp.trans (Keep.same sm)) fun p hp => no_pot RI hin hRv n1 p hp
end
/-! ### heights -/
theorem rowEd_snoc {f : List Int} {u : Nat} {o : Option Nat} : ∀ {r : List (Option Nat)} {l : Nat}, rowEd f u l (r ++ [o]) = rowEd f u l r ++ (match o with | some v => [(u, v, f.getD (l + r.length) 0)] | none => [])
  | [], l => by cases o <;> rfl
  | none :: r, l => by
    rw [List.cons_append, rowEd, rowEd, rowEd_snoc (r := r), List.length_cons, show l + 1 + r.length = l + (r.length + 1) by omega]
  | some v :: r, l => by
    rw [List.cons_append, rowEd, rowEd, rowEd_snoc (r := r), List.length_cons, show l + 1 + r.length = l + (r.length + 1) by omega, List.cons_append]
theorem rowEd_len {f : List Int} {u : Nat} : ∀ {r : List (Option Nat)} {l : Nat}, (rowEd f u l r).length ≤ r.length
  | [], _ => Nat.le_refl _
  | none :: r, l => Nat.le_succ_of_le (rowEd_len (r := r))
  | some v :: r, l => Nat.succ_le_succ (rowEd_len (r := r))
theorem edges_snoc {rs : Rows} {f : List Int} {ord : List Nat} {i u : Nat} (h : ord[i]? = some u) : edgesOf rs f (ord.take (i + 1)) = edgesOf rs f (ord.take i) ++ rowEd f u 0 (rs.getD u []) := by
  unfold edgesOf
  rw [List.take_add_one, h, List.flatMap_append]
  simp
theorem edges_len {rs : Rows} {f : List Int} {L : Nat} (h : ∀ row ∈ rs, row.length = L) : ∀ ord : List Nat, (edgesOf rs f ord).length ≤ L * ord.length
  | [] => Nat.zero_le _
  | u :: ord => by
    have ih := edges_len (f := f) h ord
    have h1 : (rowEd f u 0 (rs.getD u [])).length ≤ L := by
      refine Nat.le_trans rowEd_len ?_
      rw [List.getD_eq_getElem?_getD]
      cases e : rs[u]? with
      | none => exact Nat.zero_le _
      | some row => exact Nat.le_of_eq (h row (List.mem_of_getElem? e))
    show (rowEd f u 0 (rs.getD u []) ++ edgesOf rs f ord).length ≤ L * (ord.length + 1)
    rw [List.length_append, Nat.mul_succ]
    omega
theorem EdAt.snoc {H H' : Hp} {evs : List V} {E : List Ed} {q : Addr} {y : V} {e : Ed} (C : EdAt H evs E) (k : ∀ {a : Addr} {xs : List V}, Rd H a (.tup xs) → Rd H' a (.tup xs)) (hq : Rd H' q (.tup [.int (e.1 : Int), .int (e.2.1 : Int), .int e.2.2, y])) : EdAt H' (evs ++ [.ref q]) (E ++ [e]) := by
  refine ⟨by rw [List.length_append, List.length_append, C.1]; rfl, fun j e' h => ?_⟩
  by_cases hj : j < E.length
  · rw [List.getElem?_append_left hj] at h
    obtain ⟨q', y', h1, h2⟩ := C.2 j e' h
    exact ⟨q', y', by rw [List.getElem?_append_left (by rw [C.1]; exact hj)]; exact h1, k h2⟩
  · rw [List.getElem?_append_right (by omega)] at h
    have hj2 : j - E.length = 0 := by
      have := (List.getElem?_eq_some_iff.mp h).1
      rw [List.length_singleton] at this
      omega
    rw [hj2] at h
    cases h
    exact ⟨q, y, by rw [List.getElem?_append_right (by rw [C.1]; omega), C.1, hj2]; rfl, hq⟩
def NInv {α : Type} (f : α → V) (xs : List α) (H : Hp) (D : Addr) (i : Nat) (H' : Hp) : Prop := Same H H' ∧ H' D = some (.lst ((xs.take i).map f))
theorem nstart {α : Type} {f : α → V} {xs : List α} {H : Hp} {D : Addr} (hD : H D = none) : NInv f xs H D 0 (upd H D (.lst [])) := ⟨same_new hD, by rw [upd_same]; rfl⟩
theorem nturn {α : Type} {f : α → V} {xs : List α} {H H' H'' : Hp} {D : Addr} {i : Nat} {x : α} (hz : xs.length < sizeLine) (hD : H D = none) (hx : xs[i]? = some x) (p : NInv f xs H D i H') (s2 : Same H' H'') :
    ∀ v, v = f x → ∃ acc, H'' D = some (.lst acc) ∧ acc.length < sizeLine ∧ NInv f xs H D (i + 1) (upd H'' D (.lst (acc ++ [v]))) := by
  intro v ev
  obtain ⟨sm, hD'⟩ := p
  refine ⟨_, s2 _ _ hD', ?_, fun p o z => ?_, ?_⟩
  · rw [List.length_map, List.length_take]
    omega
  · rw [upd_ne (ne_of_none z hD)]
    exact s2 _ _ (sm _ _ z)
  · rw [upd_same, List.take_add_one, hx, List.map_append, ev]
    rfl
theorem nend {α : Type} {f : α → V} {xs : List α} {H H' : Hp} {D : Addr} {n : Nat} (e : n = xs.length) (p : NInv f xs H D n H') : Same H H' ∧ H' D = some (.lst (xs.map f)) := by
  obtain ⟨sm, hD'⟩ := p
  rw [e, List.take_length] at hD'
  exact ⟨sm, hD'⟩
/-- the edges so far, in the list at el -/
def EInv (H : Hp) (el : Addr) (E : List Ed) (H' : Hp) : Prop := Same H H' ∧ ∃ evs, H' el = some (.lst evs) ∧ EdAt H' evs E
theorem EInv.step {H H1 H2 : Hp} {el q : Addr} {E : List Ed} {e : Ed} {y : V} (h0 : H el = none) (hE : E.length ≤ 100000) (p : EInv H el E H1) (s : Same H1 H2) (hq : H2 q = none) :
    ∃ evs, (upd H2 q (.tup [.int (e.1 : Int), .int (e.2.1 : Int), .int e.2.2, y])) el = some (.lst evs) ∧ evs.length < sizeLine ∧ EInv H el (E ++ [e]) (upd (upd H2 q (.tup [.int (e.1 : Int), .int (e.2.1 : Int), .int e.2.2, y])) el (.lst (evs ++ [.ref q]))) := by
  obtain ⟨sm, evs, h1, h2⟩ := p
  have sq := same_new (o := .tup [.int (e.1 : Int), .int (e.2.1 : Int), .int e.2.2, y]) hq
  have h3 : (upd H2 q (.tup [.int (e.1 : Int), .int (e.2.1 : Int), .int e.2.2, y])) el = some (.lst evs) := sq _ _ (s _ _ h1)
  have nq : q ≠ el := fun z => by
    rw [← z] at h1
    rw [s _ _ h1] at hq
    cases hq
  have kp : ∀ {a : Addr} {xs : List V}, Rd (upd H2 q (.tup [.int (e.1 : Int), .int (e.2.1 : Int), .int e.2.2, y])) a (.tup xs) → Rd (upd (upd H2 q (.tup [.int (e.1 : Int), .int (e.2.1 : Int), .int e.2.2, y])) el (.lst (evs ++ [.ref q]))) a (.tup xs) := by
    intro a xs h
    have na : a ≠ el := fun z => by
      rw [z] at h
      rcases h with h | ⟨ob, h⟩ <;> (rw [h3] at h; cases h)
    rcases h with h | ⟨ob, h⟩
    · exact .inl (by rw [upd_ne na]; exact h)
    · exact .inr ⟨ob, by rw [upd_ne na]; exact h⟩
  refine ⟨evs, h3, Nat.lt_of_le_of_lt (show evs.length ≤ 100000 by rw [h2.1]; exact hE) (by decide), fun b u z => ?_, _, upd_same, h2.snoc (fun h => kp (same_rd sq (same_rd s h))) (kp (.inl upd_same))⟩
  rw [upd_ne (ne_of_none z h0)]
  exact sq _ _ (s _ _ (sm _ _ z))
theorem EInv.same {H H1 H2 : Hp} {el : Addr} {E : List Ed} (p : EInv H el E H1) (s : Same H1 H2) : EInv H el E H2 := by
  obtain ⟨sm, evs, h1, h2⟩ := p
  exact ⟨sm.trans s, evs, s _ _ h1, h2.keep fun h => same_rd s h⟩
section
variable {P : Program} {w : World} {K : PySem.W.Frag} {mg : Str → Option Value} {base : Heap}
theorem scHeights : FnScope ["machine", "form", "bound", "_", "rows", "ends", "order", "edges", "state", "letter", "target", "found"] ["machine", "form", "bound"] (defScope sHeights) := ⟨rfl, rfl, rfl, by decide +kernel, rfl, by decide +kernel, by decide +kernel⟩
def spHeights (K : PySem.W.Frag) : Sp := fun vs H Q _ => ∃ (B B2 : Addr → Prop) (x vf : V) (L : Nat) (rs : Rows) (es : List Bool) (f : List Int) (bd : Int), vs = [x, vf, .int bd] ∧ Dt B K H x (machDt L rs es) ∧ Dt B2 K H vf (formDt f) ∧ MOk L rs es ∧ f.length = L ∧ (∀ g ∈ f, -100 ≤ g ∧ g ≤ 100) ∧
  (∀ H', Same H H' → (∀ hs, ¬ Valid rs es f bd hs) → Q .non H') ∧
  ∀ H' p hs, Same H H' → H p = none → H' p = some (.tup (hs.map hV)) → Valid rs es f bd hs → (∀ a, some a ∈ hs → -100000000 ≤ a ∧ a ≤ 100000000) → Q (.ref p) H'
theorem ok_heights {f fR fO : Addr} {fd fdR fdO : FuncData} (F : Fun K "heights" "heights" sHeights f fd) (R : FnOk P w K mg base CX0 2 fR fdR ["edges", "heights", "many"] (spRaised K)) (FR : Fun K "raised" "raised" sRaised fR fdR) (bR : Binds K fdR ["edges", "heights", "many"] []) (gR : mg "raised" = some (.ref fR))
    (O : FnOk P w K mg base CX0 1 fO fdO ["rows"] spReached) (FO : Fun K "reached" "reached" sReached fO fdO) (bO : Binds K fdO ["rows"] []) (gO : mg "reached" = some (.ref fO)) (T : Mg mg) :
    FnOk P w K mg base CX0 3 f fd ["machine", "form", "bound"] (spHeights K) := by
  refine F.ok scHeights (fun vs H Q E h => ?_) (fun cdv A outer s H vs Q E hr h => ?_)
  · obtain ⟨B, B2, x, vf, L, rs, es, f, bd, rfl, _⟩ := h
    rfl
  · obtain ⟨B, B2, x, vf, L, rs, es, f, bd, rfl, hdm, hdf, M, hfl, hfg, kN, kV⟩ := h
    have hu1 := hu_of hr
    refine ⟨_, pss_cons (ps_asg (pv 0) (pg_tup rfl (pgs_cons (pg_name (i := 3) scHeights.nd rfl (.inl rfl)) (pgs_cons (pg_name (i := 4) scHeights.nd rfl (.inl rfl)) (pgs_cons (pg_name (i := 5) scHeights.nd rfl (.inr rfl)) pgs_nil)))))
      (pss_cons (ps_set (i := 6) scHeights.nd rfl (.inl rfl) (pe_call O (hr.mono (by decide)) (by rfl) gO FO.kp bO .nil pass0 (pa_cons (pv 4) pa_nil)))
      (pss_cons (ps_set (i := 7) scHeights.nd rfl (.inl rfl) (pe_lst pa_nil))
      (pss_cons (ps_for PassesOwn.never rfl (pi_list (pv 6)) (pg_name (i := 8) scHeights.nd rfl (.inl rfl))
        (pss_one (ps_for PassesOwn.never rfl (pi_enumT (by rfl) T.enum (pa_cons (pe_ix ix_tup (pv 4) (pv 8) (fun _ _ => rfl)) pa_nil)) (pg_tup rfl (pgs_cons (pg_name (i := 9) scHeights.nd rfl (.inl rfl)) (pgs_cons (pg_name (i := 10) scHeights.nd rfl (.inl rfl)) pgs_nil)))
          (pss_one (ps_if (pt_cmp (pc_notN (pv 10))) (pss_one (ps_expr (pe_bm PySem.F.plainAttrs_list PySem.F.slot_list_append PySem.F.type_list_append mt_append (pv 7) (pa_cons (pe_tup (pa_cons (pv 8) (pa_cons (pv 10) (pa_cons (pe_ix ix_tup (pv 1) (pv 9) (fun _ _ => rfl)) (pa_cons (pv 9) pa_nil))))) pa_nil)))) pss_nil)))))
      (pss_cons (ps_set (i := 11) scHeights.nd rfl (.inr rfl) (pe_disp (pps_cons pe_int pe_int pps_nil) (by rfl) (by rfl) (fun z => by cases z) (by decide)))
      (pss_cons (ps_if (pt_cmp (pc_notN (pe_call R hr (by rfl) gR FR.kp bR .nil pass0 (pa_cons (pv 7) (pa_cons (pv 11) (pa_cons (pe_callB (r := rLen K) call_len_seq (by rfl) T.len PySem.boot_len (pa_cons (pv 6) pa_nil)) pa_nil)))))) (pss_one (ps_ret pe_non)) pss_nil)
      (pss_cons (ps_if (pt_val (pe_callB (cr_any rfl) (by rfl) T.any (by decide +kernel) (pa_cons (pe_lc (own := [("state", 8)]) (g := gName 8) (tt := tYes) rfl scHeights.nd (pi_list (pv 6)) (blkOk_by (N := ["machine", "form", "bound", "_", "rows", "ends", "order", "edges", "state", "letter", "target", "found"]) (sc := defScope sHeights) (by decide +kernel)) (fun _ _ _ _ _ => pg_name (i := 8) scHeights.nd rfl (Or.inl rfl)) (fun _ _ _ _ _ => pts_nil)
          (fun _ _ _ _ _ => pe_and (pe_ix (r := rIxT K) ix_tup (pv 5) (pv 8) (fun _ _ => rfl)) (pe_one (pe_cmpR op_gt (pe_dget hu1 (pv 11) (pv 8) (fun _ _ => rfl)) (pv 2) (nomark _))))) pa_nil))) (pss_one (ps_ret pe_non)) pss_nil)
      (pss_one (ps_ret (pe_callTy (r := rTup K) call_tuple_of (by rfl) T.tuple PyProof.Rows.boot_tuple (pa_cons (pe_lc (own := [("state", 8)]) (g := gName 8) (tt := tYes) rfl scHeights.nd (pi_range1 (by rfl) T.range (pa_cons (pe_callB (r := rLen K) call_len_seq (by rfl) T.len PySem.boot_len (pa_cons (pv 4) pa_nil)) pa_nil)) (blkOk_by (N := ["machine", "form", "bound", "_", "rows", "ends", "order", "edges", "state", "letter", "target", "found"]) (sc := defScope sHeights) (by decide +kernel)) (fun _ _ _ _ _ => pg_name (i := 8) scHeights.nd rfl (Or.inl rfl)) (fun _ _ _ _ _ => pts_nil)
          (fun _ _ _ _ _ => pe_dget1 hu1 (pv 11) (pv 8) ⟨rfl, rfl, rfl, rfl⟩)) pa_nil)))))))))), ?_⟩
    obtain ⟨m, pr, pe, rvs, rfl, _, MM⟩ := dt_mach hdm
    obtain ⟨pf, rfl, _, hpf⟩ := dt_form hdf
    have hf : Fits rs f := fun row h => by rw [M.row row h, hfl]
    refine ⟨_, rfl, m, _, rfl, .inl MM.hm, rfl, _, _, rfl, _, _, rfl, _, _, rfl, rfl, ?_⟩
    refine ⟨_, rfl, L, rs, es, m, pr, pe, rvs, rfl, M, MM, fun H1 o ord s1 hno ho O1 => ?_⟩
    have MM1 := MM.same s1
    refine ⟨Nat.zero_le _, fun el hel => ?_⟩
    have s2 := same_new (o := .lst []) hel
    have ho2 := s2 _ _ ho
    have h0 : EInv H1 el [] (upd H1 el (.lst [])) := ⟨s2, [], upd_same, rfl, fun j e h => by simp at h⟩
    have heq0 : edgesOf rs f (ord.take 0) = [] := rfl
    refine ⟨_, rfl, o, rfl, ⟨_, SqL.of ho2⟩, ?_⟩
    have hlo : ord.length ≤ 400 := Nat.le_trans O1.len M.l400
    have eb : ∀ ord' : List Nat, ord'.length ≤ 400 → (edgesOf rs f ord').length ≤ 1200 := fun ord' h => Nat.le_trans (edges_len M.row ord') (Nat.mul_le_mul M.L3 h)
    refine for_list (K := K) (a := o) (xs := ord.map natV) (fun i σ H' => (∃ y8 y9 y10 : Option V, σ = [some (.ref m), some (.ref pf), some (.int bd), some (.int (L : Int)), some (.ref pr), some (.ref pe), some (.ref o), some (.ref el), y8, y9, y10, none]) ∧ EInv H1 el (edgesOf rs f (ord.take i)) H')
      ⟨⟨_, _, _, rfl⟩, h0⟩ (fun i σ H' _ p => SqL.of (p.2.1 _ _ ho)) ?_ ?_
    · rintro i x σ H2 hx ⟨⟨y8, y9, y10, rfl⟩, EI⟩
      obtain ⟨u, hu, rfl⟩ := natV_of hx
      have huo := List.mem_of_getElem? hu
      have hun := O1.lt u huo
      have hrow : rs[u]? = some rs[u] := List.getElem?_eq_getElem hun
      have hmr := List.getElem_mem hun
      have hgd : rs.getD u [] = rs[u] := by rw [List.getD_eq_getElem?_getD, hrow]; rfl
      rw [edges_snoc hu, hgd]
      generalize rs[u] = row at *
      obtain ⟨q, hq1, hq0⟩ := MM1.row u row hrow
      have hq2 := same_rd EI.1 hq0
      refine ⟨_, rfl, _, rfl, pr, rvs, (u : Int), _, rfl, rfl, .inl (MM1.same EI.1).hr, atI_nat hq1, q, _, rfl, .inl hq2, ?_⟩
      refine for_it (walk_enumT (K := K) (a := q) (xs := row.map oV)) (fun j σ H' => (∃ y9 y10 : Option V, σ = [some (.ref m), some (.ref pf), some (.int bd), some (.int (L : Int)), some (.ref pr), some (.ref pe), some (.ref o), some (.ref el), some (.int (u : Int)), y9, y10, none]) ∧ EInv H1 el (edgesOf rs f (ord.take i) ++ rowEd f u 0 (row.take j)) H' ∧ SqT K H' q (row.map oV))
        ⟨⟨_, _, rfl⟩, by rw [List.take_zero, rowEd, List.append_nil]; exact EI, .inl hq2⟩ (fun j σ H' _ p => p.2.2) ?_ ?_
      · rintro j x σ H3 H4 hj ⟨⟨y9, y10, rfl⟩, EI3, hq3⟩ ⟨T1, va, vb, rfl, nT, rfl, ea, eb2⟩
        cases ea
        replace eb2 : (row.map oV)[j]? = some vb := eb2
        rw [List.getElem?_map] at eb2
        obtain ⟨tg, hjt, rfl⟩ := Option.map_eq_some_iff.mp eb2
        have sT := same_new (o := .tup [V.int (j : Nat), oV tg]) nT
        refine ⟨T1, _, rfl, SqT.of upd_same, rfl, _, _, rfl, _, _, rfl, rfl, ?_⟩
        have tk : row.take (j + 1) = row.take j ++ [tg] := by rw [List.take_add_one, hjt]; rfl
        have hlt : (row.take j).length = j := by
          rw [List.length_take]
          have := (List.getElem?_eq_some_iff.mp hjt).1
          omega
        refine ⟨_, rfl, _, rfl, ?_⟩
        cases tg with
        | none =>
          refine ⟨⟨_, _, rfl⟩, ?_, same_seqT sT hq3⟩
          rw [tk, rowEd_snoc, List.append_nil]
          exact EI3.same sT
        | some v =>
          have hjL : j < f.length := by
            rw [hfl, ← M.row row hmr]
            exact (List.getElem?_eq_some_iff.mp hjt).1
          have hfj : f[j]? = some (f.getD j 0) := by rw [List.getD_eq_getElem?_getD, List.getElem?_eq_getElem hjL]; rfl
          have EI4 := EI3.same sT
          have hpf4 : Rd (upd H3 T1 (.tup [V.int (j : Nat), oV (some v)])) pf (.tup (f.map V.int)) := same_rd EI4.1 (same_rd s1 hpf)
          have hel4 := EI4
          obtain ⟨_, evs4, he4, _⟩ := hel4
          refine ⟨_, rfl, .inl ⟨rfl, _, SqL.of he4⟩, _, rfl, _, rfl, _, rfl, _, rfl, pf, _, (j : Int), _, rfl, rfl, .inl hpf4, atI_nat (v := .int (f.getD j 0)) (by rw [List.getElem?_map, hfj]; rfl), _, rfl, by show 4 ≤ sizeLine; decide, fun q4 nq4 => ?_⟩
          have hlen : (edgesOf rs f (ord.take i) ++ rowEd f u 0 (row.take j)).length ≤ 100000 := by
            rw [List.length_append]
            have h1 := eb (ord.take i) (by rw [List.length_take]; omega)
            have h2 := rowEd_len (f := f) (u := u) (r := row.take j) (l := 0)
            have h3 := M.row row hmr
            have h4 := M.L3
            rw [hlt] at h2
            have := (List.getElem?_eq_some_iff.mp hjt).1
            omega
          obtain ⟨evs, g1, g2, g3⟩ := EInv.step (e := (u, v, f.getD j 0)) (y := .int (j : Nat)) hel hlen EI4 (L2.Same.refl _) nq4
          refine ⟨el, evs, _, rfl, rfl, g1, g2, ⟨_, _, rfl⟩, ?_, ?_⟩
          · rw [tk, rowEd_snoc, hlt, Nat.zero_add, ← List.append_assoc]
            exact g3
          · exact .inl (same_rd g3.1 hq0)
      · rintro σ H3 ⟨⟨y9, y10, rfl⟩, EI3, hq3⟩
        rw [List.length_map, List.take_length] at EI3
        exact ⟨⟨_, _, _, rfl⟩, EI3⟩
    · rintro σ H2 ⟨⟨y8, y9, y10, rfl⟩, EI⟩
      rw [List.length_map, List.take_length] at EI
      obtain ⟨sE, evs, hevs, hEd⟩ := EI
      refine fun d hd => ⟨upd_same, [(.inl 0, .int 0)], rfl, by decide, ?_⟩
      have hG : ∃ G, G = upd (upd H2 d (.dK [])) d (.dK (mergeK [] [(.inl 0, .int 0)])) := ⟨_, rfl⟩
      obtain ⟨G, hG⟩ := hG
      rw [← hG]
      have sG : Same H2 G := fun b u e => by
        rw [hG, upd_ne (ne_of_none e hd), upd_ne (ne_of_none e hd)]
        exact e
      have gd : G d = some (.dK [(.inl 0, .int 0)]) := by
        rw [hG, upd_same]
        rfl
      have sHG : Same H G := s1.trans (sE.trans sG)
      have go : G o = some (.lst (ord.map natV)) := sG _ _ (sE _ _ ho)
      have gel : G el = some (.lst evs) := sG _ _ hevs
      have hd0 : H d = none := by
        cases z : H d with
        | none => rfl
        | some u =>
          rw [s1.trans sE _ _ z] at hd
          cases hd
      have nel : el ≠ d := fun z => by
        rw [z] at hevs
        rw [hevs] at hd
        cases hd
      have nod : o ≠ d := fun z => by
        have := sE _ _ ho
        rw [z, hd] at this
        cases this
      clear hG
      have hin := O1.ends hf
      have hgE : ∀ e ∈ edgesOf rs f ord, -100 ≤ e.2.2 ∧ e.2.2 ≤ 100 := fun e he => by
        obtain ⟨_, row, l, _, _, h3⟩ := (mem_edges hf).mp he
        exact hfg _ (List.mem_of_getElem? h3)
      refine ⟨_, rfl, _, rfl, _, rfl, o, _, rfl, .inl (SqL.of go), el, d, edgesOf rs f ord, evs, ord, (by rw [List.length_map]; rfl), SqL.of gel, nel, hEd.keep (fun h => same_rd sG h), gd, O1.ne, hlo, eb ord hlo, hin, hgE, fun H3 i s' kvs kp hd3 DH RI hi => ?_, fun H3 p kp hno => ?_⟩
      · -- settled
        have s3 : Same H H3 := fun b u e => kp b u (fun z => by rw [z, hd0] at e; cases e) (sHG b u e)
        have ho3 : H3 o = some (.lst (ord.map natV)) := kp _ _ nod go
        have S : ∀ e ∈ edgesOf rs f ord, settled e s' := RI.lastN rfl
        have hav := all_have O1 hf RI.zero S
        refine ⟨_, rfl, ?_⟩
        have MM3 := MM.same s3
        have hlz : ord.length < sizeLine := small1000 (by omega)
        refine ⟨_, rfl, o, rfl, ⟨_, SqL.of ho3⟩, fun D hD => ?_⟩
        refine lc_list (K := K) (a := o) (xs := ord.map natV) (NInv (fun u : Nat => V.bl ((es[u]?).getD false && decide ((s'.h u).getD 0 > bd))) ord H3 D) (nstart hD) (fun i H' _ q => SqL.of (q.1 _ _ ho3)) ?_ ?_
        · rintro i y H4 hy p
          obtain ⟨u, hu, rfl⟩ := natV_of hy
          have huo := List.mem_of_getElem? hu
          have hun := O1.lt u huo
          obtain ⟨eu, heu⟩ : ∃ eu, es[u]? = some eu := ⟨_, List.getElem?_eq_getElem (show u < es.length by rw [M.es]; exact hun)⟩
          obtain ⟨a, ha⟩ := hav u ((O1.mem u).mp huo)
          refine ⟨rfl, _, rfl, _, rfl, pe, _, (u : Int), .bl eu, rfl, rfl, .inl ((MM3.same p.1).he), atI_nat (by rw [List.getElem?_map, heu]; rfl), eu, rfl, ?_⟩
          have fin := nturn hlz hD hu p (L2.Same.refl H4)
          rw [heu, ha] at fin
          cases eu with
          | false =>
            exact fin _ rfl
          | true =>
            exact ⟨_, rfl, _, rfl, d, .int a, rfl, .inl ⟨kvs, .inl _, .inl (p.1 _ _ hd3), rfl, (by rw [DH.val, ha]; rfl)⟩, _, rfl, _, _, rfl, rfl, fin _ rfl⟩
        · rintro H4 p
          obtain ⟨s4, hD4⟩ := nend (List.length_map (natV) (as := ord)) p
          refine ⟨D, ord.map fun u : Nat => ((es[u]?).getD false && decide ((s'.h u).getD 0 > bd)), rfl, SqL.of (by rw [hD4, List.map_map]; rfl), _, rfl, ite2 (fun h1 => ?_) fun h1 => ?_⟩
          · refine kN H4 (s3.trans s4) fun hs V => ?_
            rw [List.any_map, List.any_eq_true] at h1
            obtain ⟨u, huo, h2⟩ := h1
            simp only [Function.comp, id, Bool.and_eq_true, decide_eq_true_eq] at h2
            obtain ⟨p, hp, hps⟩ := pot_of_valid O1 hf V
            obtain ⟨a, ha⟩ := hav u ((O1.mem u).mp huo)
            have h3 := RI.low p hp u a ha
            have h4 := (V.2.2 u _ (hps u huo)).1 (by
              cases z : es[u]? with
              | none => rw [z] at h2; exact absurd h2.1 Bool.false_ne_true
              | some b => rw [z] at h2; rw [show b = true from h2.1])
            rw [ha] at h2
            have := h2.2
            simp only [Option.getD_some] at this
            omega
          · have B1 : ∀ u ∈ ord, es[u]? = some true → (s'.h u).getD 0 ≤ bd := by
              intro u huo he
              refine Int.not_lt.mp fun z => h1 ?_
              rw [List.any_map, List.any_eq_true]
              refine ⟨u, huo, ?_⟩
              simp only [Function.comp, id, he, Option.getD_some, Bool.true_and]
              exact decide_eq_true z
            have VV := valid_of O1 hf RI.zero S RI.dom B1
            have hrz : (List.range rs.length).length < sizeLine := small1000 (by rw [List.length_range]; exact Nat.le_trans M.l400 (by decide))
            have s34 := s3.trans s4
            have MM4 := MM.same s34
            refine ⟨_, rfl, pr, rvs, rfl, .inr (.inl MM4.hr), (rvs.length : Int), rfl, by omega, by have := MM.hl; have := M.l400; omega, fun D2 hD2 => ?_⟩
            refine lc_range (lo := 0) (n := (rvs.length : Int).toNat) (NInv (fun u : Nat => hV (s'.h u)) (List.range rs.length) H4 D2) (nstart hD2) ?_ ?_
            · rintro j H5 hj p
              have hj2 : j < rs.length := by have := MM.hl; omega
              have fin := nturn hrz hD2 (List.getElem?_range hj2) p (L2.Same.refl H5)
              refine ⟨rfl, _, rfl, d, rfl, .inl ⟨kvs, .inl (p.1 _ _ (s4 _ _ hd3))⟩, _, rfl, (s'.h j).map V.int, .inl ⟨kvs, .inl _, .inl (p.1 _ _ (s4 _ _ hd3)), rfl, (by rw [show ((0 : Int) + (j : Int)) = (j : Int) by omega]; exact (DH.val j).symm)⟩, fin _ ?_⟩
              cases s'.h j <;> rfl
            · rintro H5 p
              have hl5 : (rvs.length : Int).toNat = (List.range rs.length).length := by rw [List.length_range]; have := MM.hl; omega
              obtain ⟨s5, hD5⟩ := nend hl5 p
              refine ⟨D2, _, rfl, .inl ⟨SqL.of hD5, fun q hq => ?_⟩⟩
              have sF := (s34.trans s5).trans (same_new (o := .tup ((List.range rs.length).map fun u : Nat => hV (s'.h u))) hq)
              have hq0 : H q = none := by
                cases z : H q with
                | none => rfl
                | some u =>
                  rw [s34.trans s5 _ _ z] at hq
                  cases hq
              refine kV _ q ((List.range rs.length).map s'.h) sF hq0 (by rw [upd_same, List.map_map]; rfl) VV (fun a ha => ?_)
              obtain ⟨u, _, hu⟩ := List.mem_map.mp ha
              have hb := RI.bnd u a hu
              have hn := RI.nowle
              have h7 : (i - 1) * (edgesOf rs f ord).length ≤ 400 * 1200 := Nat.mul_le_mul (by omega) (eb ord hlo)
              have h8 := eb ord hlo
              omega
      · -- a ring that gains
        have s3 : Same H H3 := fun b u e => kp b u (fun z => by rw [z, hd0] at e; cases e) (sHG b u e)
        refine ⟨_, rfl, kN H3 s3 fun hs V => ?_⟩
        obtain ⟨p, hp, _⟩ := pot_of_valid O1 hf V
        exact hno p hp
end
/-! ### heights_hold -/
open Classical in
/-- whether the data are heights -/
noncomputable def hsB (rs : Rows) (es : List Bool) (f : List Int) (bd : Int) (d : PyData) : Bool := decide (∃ hs, d = hsDt hs ∧ Valid rs es f bd hs)
theorem hs_inj : ∀ {a b : List (Option Int)}, a.map hD = b.map hD → a = b
  | [], [], _ => rfl
  | [], _ :: _, h => by cases h
  | _ :: _, [], h => by cases h
  | x :: a, y :: b, h => by
    rw [List.map_cons, List.map_cons] at h
    obtain ⟨h1, h2⟩ := List.cons.inj h
    rw [hs_inj h2]
    congr 1
    cases x <;> cases y <;> first | rfl | (cases h1; rfl) | cases h1
open Classical in
theorem hsB_iff {rs : Rows} {es : List Bool} {f : List Int} {bd : Int} {hs : List (Option Int)} : hsB rs es f bd (hsDt hs) = true ↔ Valid rs es f bd hs := by
  unfold hsB
  rw [decide_eq_true_iff]
  refine ⟨fun ⟨hs', h1, h2⟩ => ?_, fun h => ⟨hs, rfl, h⟩⟩
  rw [hs_inj (PyData.tuple.inj h1)]
  exact h2
open Classical in
theorem hsB_no {rs : Rows} {es : List Bool} {f : List Int} {bd : Int} {d : PyData} (h : ∀ hs, d = hsDt hs → ¬ Valid rs es f bd hs) : hsB rs es f bd d = false := by
  unfold hsB
  rw [decide_eq_false_iff_not]
  rintro ⟨hs, h1, h2⟩
  exact h hs h1 h2
theorem hsB_not {rs : Rows} {es : List Bool} {f : List Int} {bd : Int} {hs : List (Option Int)} (h : ¬ Valid rs es f bd hs) : hsB rs es f bd (hsDt hs) = false := by
  cases z : hsB rs es f bd (hsDt hs) with
  | false => rfl
  | true => exact absurd (hsB_iff.mp z) h
def okI : PyData → Bool
  | .none => true
  | .int _ => true
  | _ => false
theorem all_okI : ∀ {ds : List PyData}, ds.all okI = true → ∃ hs : List (Option Int), ds = hs.map hD
  | [], _ => ⟨[], rfl⟩
  | d :: ds, h => by
    rw [List.all_cons, Bool.and_eq_true] at h
    obtain ⟨hs, e⟩ := all_okI h.2
    cases d with
    | none => exact ⟨none :: hs, by rw [e]; rfl⟩
    | int i => exact ⟨some i :: hs, by rw [e]; rfl⟩
    | _ => exact absurd h.1 Bool.false_ne_true
theorem okI_all : ∀ hs : List (Option Int), (hs.map hD).all okI = true
  | [] => rfl
  | x :: hs => by
    rw [List.map_cons, List.all_cons, okI_all hs, Bool.and_true]
    cases x <;> rfl
theorem ne_int {n m : Int} (h : (!decide (V.int n = V.int m)) = true) : ¬ n = m := fun e => by
  rw [e, decide_eq_true rfl] at h
  cases h
theorem ne_int' {n m : Int} (h : ¬ (!decide (V.int n = V.int m)) = true) : n = m := by
  by_cases e : n = m
  · exact e
  · exfalso
    apply h
    rw [decide_eq_false fun q => e (V.int.inj q)]
    rfl
/-- what Valid asks at the places below i, of the rest of Valid -/
def VUp (rs : Rows) (es : List Bool) (f : List Int) (bd : Int) (hs : List (Option Int)) (u : Nat) : Prop :=
  ∀ a : Int, hs[u]? = some (some a) → (es[u]? = some true → a ≤ bd) ∧ ∀ v g, Edge rs f u v g → ∃ b : Int, hs[v]? = some (some b) ∧ a + g ≤ b
section
variable {P : Program} {w : World} {K : PySem.W.Frag} {mg : Str → Option Value} {base : Heap}
theorem scHold : FnScope ["machine", "form", "bound", "value", "_", "rows", "ends", "item", "state", "height", "letter", "target"] ["machine", "form", "bound", "value"] (defScope sHold) := ⟨rfl, rfl, rfl, by decide +kernel, rfl, by decide +kernel, by decide +kernel⟩
def spHold (K : PySem.W.Frag) : Sp := fun vs H Q _ => ∃ (B B2 B3 : Addr → Prop) (x vf v : V) (L : Nat) (rs : Rows) (es : List Bool) (f : List Int) (bd : Int) (d : PyData), vs = [x, vf, .int bd, v] ∧ Dt B K H x (machDt L rs es) ∧ Dt B2 K H vf (formDt f) ∧ Dt B3 K H v d ∧ MOk L rs es ∧ f.length = L ∧ nodes d ≤ 100000 ∧
  ∀ H', Same H H' → Q (.bl (hsB rs es f bd d)) H'
theorem ok_hold {f fI : Addr} {fd fdI : FuncData} (F : Fun K "heights_hold" "heights_hold" sHold f fd) (I : FnOk P w K mg base CX0 1 fI fdI ["value"] (spInt K)) (FI : Fun K "is_integer" "is_integer" sInteger fI fdI) (bI : Binds K fdI ["value"] []) (gI : mg "is_integer" = some (.ref fI)) (T : Mg mg) :
    FnOk P w K mg base CX0 2 f fd ["machine", "form", "bound", "value"] (spHold K) := by
  refine F.ok scHold (fun vs H Q E h => ?_) (fun cdv A outer s H vs Q E hr h => ?_)
  · obtain ⟨B, B2, B3, x, vf, v, L, rs, es, f, bd, d, rfl, _⟩ := h
    rfl
  · obtain ⟨B, B2, B3, x, vf, v, L, rs, es, f, bd, d, rfl, hdm, hdf, hdv, M, hfl, hnd, k⟩ := h
    refine ⟨_, pss_cons (ps_asg (pv 0) (pg_tup rfl (pgs_cons (pg_name (i := 4) scHold.nd rfl (.inl rfl)) (pgs_cons (pg_name (i := 5) scHold.nd rfl (.inl rfl)) (pgs_cons (pg_name (i := 6) scHold.nd rfl (.inl rfl)) pgs_nil)))))
      (pss_cons (ps_if (PW.pt (pw_or (pt_not (pt_val (pe_callB (r := rIsi K) call_isi (by rfl) T.isi PyProof.Rows.boot_isinstance (pa_cons (pv 3) (pa_cons (pe_bltn (v := .ty "tuple") (by rfl) T.tuple PyProof.Rows.boot_tuple rfl) pa_nil))))) (pw_or1 (pt_cmpR op_ne (pe_callB (r := rLen K) call_len_seq (by rfl) T.len PySem.boot_len (pa_cons (pv 3) pa_nil)) (pe_callB (r := rLen K) call_len_seq (by rfl) T.len PySem.boot_len (pa_cons (pv 5) pa_nil)) (nomark _))))) (pss_one (ps_ret pe_bl)) pss_nil)
      (pss_cons (ps_if (pt_not (pt_val (pe_callB (cr_all rfl) (by rfl) T.all (by decide +kernel) (pa_cons (pe_lc (own := [("item", 7)]) (g := gName 7) (tt := tYes) rfl scHold.nd (pi_tup (pv 3)) (blkOk_by (N := ["machine", "form", "bound", "value", "_", "rows", "ends", "item", "state", "height", "letter", "target"]) (sc := defScope sHold) (by decide +kernel)) (fun _ _ _ _ _ => pg_name (i := 7) scHold.nd rfl (Or.inl rfl)) (fun _ _ _ _ _ => pts_nil)
          (fun _ _ _ _ _ => pe_or (pe_cmp (pc_isN (pv 7))) (pe_one (pe_call I hr (by rfl) gI FI.kp bI .nil pass0 (pa_cons (pv 7) pa_nil))))) pa_nil)))) (pss_one (ps_ret pe_bl)) pss_nil)
      (pss_cons (ps_if (PW.pt (pw_or (pt_cmp (pc_isN (pe_ix (r := rIxT K) ix_tup (pv 3) pe_int (fun _ _ => rfl)))) (pw_or1 (pt_cmpR op_lt (pe_ix (r := rIxT K) ix_tup (pv 3) pe_int (fun _ _ => rfl)) pe_int (nomark _))))) (pss_one (ps_ret pe_bl)) pss_nil)
      (pss_cons (ps_for PassesOwn.never rfl (pi_enumT (by rfl) T.enum (pa_cons (pv 3) pa_nil)) (pg_tup rfl (pgs_cons (pg_name (i := 8) scHold.nd rfl (.inl rfl)) (pgs_cons (pg_name (i := 9) scHold.nd rfl (.inl rfl)) pgs_nil)))
        (pss_cons (ps_if (pt_cmp (pc_isN (pv 9))) (pss_one ps_continue) pss_nil)
        (pss_cons (ps_if (PW.pt (pw_and (pt_val (pe_ix (r := rIxT K) ix_tup (pv 6) (pv 8) (fun _ _ => rfl))) (pw_and1 (pt_cmpR op_gt (pv 9) (pv 2) (nomark _))))) (pss_one (ps_ret pe_bl)) pss_nil)
        (pss_one (ps_for PassesOwn.never rfl (pi_enumT (by rfl) T.enum (pa_cons (pe_ix ix_tup (pv 5) (pv 8) (fun _ _ => rfl)) pa_nil)) (pg_tup rfl (pgs_cons (pg_name (i := 10) scHold.nd rfl (.inl rfl)) (pgs_cons (pg_name (i := 11) scHold.nd rfl (.inl rfl)) pgs_nil)))
          (pss_one (ps_if (PW.pt (pw_and (pt_cmp (pc_notN (pv 11))) (pw_and1 (PW.pt (pw_or (pt_cmp (pc_isN (pe_ix (r := rIxT K) ix_tup (pv 3) (pv 11) (fun _ _ => rfl)))) (pw_or1 (pt_cmpR op_lt (pe_ix (r := rIxT K) ix_tup (pv 3) (pv 11) (fun _ _ => rfl)) (pe_op op_add (pv 9) (pe_ix (r := rIxT K) ix_tup (pv 1) (pv 10) (fun _ _ => rfl))) (nomark _)))))))) (pss_one (ps_ret pe_bl)) pss_nil)))))))
      (pss_one (ps_ret pe_bl)))))), ?_⟩
    obtain ⟨m, pr, pe, rvs, rfl, _, MM⟩ := dt_mach hdm
    obtain ⟨pf, rfl, _, hpf⟩ := dt_form hdf
    refine ⟨_, rfl, m, _, rfl, .inl MM.hm, rfl, _, _, rfl, _, _, rfl, _, _, rfl, rfl, ?_⟩
    have kno : ∀ H', Same H H' → (∀ hs, d = hsDt hs → ¬ Valid rs es f bd hs) → Q (.bl false) H' := fun H' sm h => by
      have := k H' sm
      rw [hsB_no h] at this
      exact this
    refine ⟨v, rfl, v, .ty "tuple", _, _, _, rfl, .ty _, tyD hdv, kitT d, _, rfl, ?_⟩
    cases d with
    | none => exact kno H (Same.refl H) fun hs e => by cases e
    | bool _ => exact kno H (Same.refl H) fun hs e => by cases e
    | int _ => exact kno H (Same.refl H) fun hs e => by cases e
    | str _ => exact kno H (Same.refl H) fun hs e => by cases e
    | list _ => exact kno H (Same.refl H) fun hs e => by cases e
    | dict _ => exact kno H (Same.refl H) fun hs e => by cases e
    | tuple ds =>
      obtain ⟨a, xs, rfl, nb, hs, ha, hl⟩ := hdv.tup_rd
      have hz : ds.length < sizeLine := by
        have := len_nodes ds
        rw [nodes_tup] at hnd
        exact Nat.lt_of_le_of_lt (show _ ≤ 100000 by omega) (by decide)
      have hrl := MM.hl
      refine ⟨.ref a, rfl, a, xs, rfl, .inr (.inl hs), .ref pr, rfl, pr, rvs, rfl, .inr (.inl MM.hr), rfl, _, rfl, ite2 (fun h1 => ?_) (fun h1 => ?_)⟩
      · refine kno H (Same.refl H) fun gs e V => ne_int h1 ?_
        have e2 : ds = gs.map hD := PyData.tuple.inj e
        have := V.1
        rw [hl, e2, List.length_map]
        omega
      · have h2 : ds.length = rs.length := by
          have := ne_int' h1
          omega
        refine ⟨.ref a, rfl, a, rfl, ⟨xs, .inl hs⟩, fun D nD => ?_⟩
        refine lc_tup (K := K) (a := a) (xs := xs) (NInv (fun d => V.bl (okI d)) ds H D) (nstart nD) (fun i H' _ q => .inl (same_rd q.1 hs)) ?_ ?_
        · rintro i y H' hy p
          obtain ⟨d, hd1, hd2⟩ := ha.getV hy
          have hd' := same_dt p.1 hd2
          have fin := nturn hz nD hd1 p (L2.Same.refl H')
          refine ⟨rfl, _, rfl, _, rfl, ?_⟩
          cases d with
          | none => cases hd'; exact fin _ rfl
          | int i => cases hd'; exact ⟨_, rfl, B3, _, .int i, rfl, .int i, fin _ rfl⟩
          | bool i => cases hd'; exact ⟨_, rfl, B3, _, .bool i, rfl, .bl i, fin _ rfl⟩
          | str i => cases hd'; exact ⟨_, rfl, B3, _, .str i, rfl, .str i, fin _ rfl⟩
          | list i =>
            have hd2' := hd'
            cases hd' with
            | lst nb ne hs' ha' => exact ⟨_, rfl, B3, _, .list i, rfl, hd2', fin _ rfl⟩
          | tuple i =>
            have hd2' := hd'
            cases hd' with
            | tup nb hs' ha' => exact ⟨_, rfl, B3, _, .tuple i, rfl, hd2', fin _ rfl⟩
          | dict i =>
            have hd2' := hd'
            cases hd' with
            | emp nb hs' => exact ⟨_, rfl, B3, _, .dict [], rfl, hd2', fin _ rfl⟩
        · rintro H1 p
          obtain ⟨s1, hD1⟩ := nend hl p
          refine ⟨D, ds.map okI, rfl, SqL.of (by rw [hD1, List.map_map]; rfl), ?_⟩
          rw [all_take']
          refine ⟨_, rfl, ite2 (fun h3 => ?_) (fun h3 => ?_)⟩
          · refine kno H1 s1 fun gs e V => ?_
            rw [PyData.tuple.inj e, okI_all] at h3
            exact absurd h3 (by decide)
          · have h4 : ds.all okI = true := by
              cases z : ds.all okI with
              | true => rfl
              | false => exact absurd (by rw [z]; rfl) h3
            obtain ⟨gs, rfl⟩ := all_okI h4
            rw [dt_sc h_sc ha] at hs hl
            rw [List.length_map] at h2
            have hs1 := same_rd s1 hs
            have MM1 := MM.same s1
            have hpf1 := same_rd s1 hpf
            have kN : ∀ H', Same H1 H' → ¬ Valid rs es f bd gs → Q (.bl false) H' := fun H' sm h => by
              have := k H' (s1.trans sm)
              rw [show PyData.tuple (gs.map hD) = hsDt gs from rfl, hsB_not h] at this
              exact this
            have kY : ∀ H', Same H1 H' → Valid rs es f bd gs → Q (.bl true) H' := fun H' sm h => by
              have := k H' (s1.trans sm)
              rw [show PyData.tuple (gs.map hD) = hsDt gs from rfl, hsB_iff.mpr h] at this
              exact this
            have l1 := M.l1
            obtain ⟨g0, hg0⟩ : ∃ g0, gs[0]? = some g0 := ⟨_, List.getElem?_eq_getElem (by omega)⟩
            have hx0 : (gs.map hV)[0]? = some (hV g0) := by rw [List.getElem?_map, hg0]; rfl
            refine ⟨_, rfl, a, _, 0, _, rfl, rfl, .inl hs1, atI_nat (j := 0) hx0, _, rfl, ?_⟩
            cases g0 with
            | none =>
              refine kN H1 (L2.Same.refl H1) fun V => ?_
              obtain ⟨x, hx, _⟩ := V.2.1
              rw [hg0] at hx
              cases hx
            | some x0 =>
              refine ⟨_, rfl, a, _, 0, _, rfl, rfl, .inl hs1, atI_nat (j := 0) hx0, x0, 0, rfl, rfl, _, rfl, ite2 (fun h5 => ?_) (fun h5 => ?_)⟩
              · refine kN H1 (L2.Same.refl H1) fun V => ?_
                obtain ⟨x, hx, hx1⟩ := V.2.1
                rw [hg0] at hx
                cases hx
                have := of_decide_eq_true h5
                omega
              · have hx0' : 0 ≤ x0 := by
                  refine Int.not_lt.mp fun z => h5 (decide_eq_true z)
                refine ⟨_, rfl, a, _, rfl, .inl hs1, ?_⟩
                refine for_it (walk_enumT (K := K) (a := a) (xs := gs.map hV)) (fun i σ H' => (∃ y8 y9 y10 y11 : Option V, σ = [some (.ref m), some (.ref pf), some (.int bd), some (.ref a), some (.int (L : Int)), some (.ref pr), some (.ref pe), none, y8, y9, y10, y11]) ∧ Same H1 H' ∧ ∀ u, u < i → VUp rs es f bd gs u)
                  ⟨⟨_, _, _, _, rfl⟩, L2.Same.refl H1, fun u hu => absurd hu (Nat.not_lt_zero _)⟩ (fun i σ H' _ q => .inl (same_rd q.2.1 hs1)) ?_ ?_
                · rintro i x σ H2 H3 hi ⟨⟨y8, y9, y10, y11, rfl⟩, sm, hall⟩ ⟨T1, va, vb, rfl, nT, rfl, ea, eb⟩
                  cases ea
                  replace eb : (gs.map hV)[i]? = some vb := eb
                  rw [List.getElem?_map] at eb
                  obtain ⟨g, hgi, rfl⟩ := Option.map_eq_some_iff.mp eb
                  have sT := sm.trans (same_new (o := .tup [V.int (i : Nat), hV g]) nT)
                  refine ⟨T1, _, rfl, SqT.of upd_same, rfl, _, _, rfl, _, _, rfl, rfl, ?_⟩
                  refine ⟨_, rfl, _, rfl, ?_⟩
                  have upto : (VUp rs es f bd gs i) → ∀ u, u < i + 1 → VUp rs es f bd gs u := fun h u hu => by
                    by_cases e : u = i
                    · rw [e]; exact h
                    · exact hall u (by omega)
                  cases g with
                  | none => exact ⟨⟨_, _, _, _, rfl⟩, sT, upto fun a0 ha0 => by rw [hgi] at ha0; cases ha0⟩
                  | some g =>
                    have hil := (List.getElem?_eq_some_iff.mp hgi).1
                    obtain ⟨eu, heu⟩ : ∃ eu, es[i]? = some eu := ⟨_, List.getElem?_eq_getElem (show i < es.length by rw [M.es]; omega)⟩
                    have MM2 := MM1.same sT
                    have bad : ∀ H', Same H1 H' → ¬ VUp rs es f bd gs i → Q (.bl false) H' := fun H' s h => kN H' s fun V => h (V.2.2 i)
                    refine ⟨_, rfl, _, rfl, pe, _, (i : Int), .bl eu, rfl, rfl, .inl MM2.he, atI_nat (by rw [List.getElem?_map, heu]; rfl), eu, rfl, ?_⟩
                    cases eu with
                    | false =>
                      obtain ⟨row, hrow⟩ : ∃ row, rs[i]? = some row := ⟨_, List.getElem?_eq_getElem (show i < rs.length by omega)⟩
                      obtain ⟨q, hq1, hq2⟩ := MM2.row i row hrow
                      refine ⟨_, rfl, _, rfl, pr, rvs, (i : Int), _, rfl, rfl, .inl MM2.hr, atI_nat hq1, q, _, rfl, .inl hq2, ?_⟩
                      refine for_it (walk_enumT (K := K) (a := q) (xs := row.map oV)) (fun j σ H' => (∃ y10 y11 : Option V, σ = [some (.ref m), some (.ref pf), some (.int bd), some (.ref a), some (.int (L : Int)), some (.ref pr), some (.ref pe), none, some (.int (i : Int)), some (.int g), y10, y11]) ∧ Same (upd H2 T1 (.tup [V.int (i : Nat), hV (some g)])) H' ∧ ∀ l, l < j → ∀ v x, row[l]? = some (some v) → f[l]? = some x → ∃ b : Int, gs[v]? = some (some b) ∧ g + x ≤ b)
                        ⟨⟨_, _, rfl⟩, L2.Same.refl _, fun l hl => absurd hl (Nat.not_lt_zero _)⟩ (fun j σ H' _ p => .inl (same_rd p.2.1 hq2)) ?_ ?_
                      · rintro j x σ H4 H5 hj ⟨⟨y10, y11, rfl⟩, sm4, hal⟩ ⟨T2, va, vb, rfl, nT2, rfl, ea, eb⟩
                        cases ea
                        replace eb : (row.map oV)[j]? = some vb := eb
                        rw [List.getElem?_map] at eb
                        obtain ⟨tg, htg, rfl⟩ := Option.map_eq_some_iff.mp eb
                        have s5 := sT.trans (sm4.trans (same_new (o := .tup [V.int (j : Nat), oV tg]) nT2))
                        have sL := sm4.trans (same_new (o := .tup [V.int (j : Nat), oV tg]) nT2)
                        refine ⟨T2, _, rfl, SqT.of upd_same, rfl, _, _, rfl, _, _, rfl, rfl, ?_⟩
                        refine ⟨_, rfl, _, rfl, ?_⟩
                        have hrl2 := M.row row (List.mem_of_getElem? hrow)
                        have hjl := (List.getElem?_eq_some_iff.mp htg).1
                        have hfj : f[j]? = some (f.getD j 0) := by rw [List.getD_eq_getElem?_getD, List.getElem?_eq_getElem (show j < f.length by omega)]; rfl
                        cases tg with
                        | none =>
                          refine ⟨⟨_, _, rfl⟩, sL, fun l hl v x hv hx => ?_⟩
                          by_cases e : l = j
                          · rw [e, htg] at hv
                            cases hv
                          · exact hal l (by omega) v x hv hx
                        | some v =>
                          have hvn := M.tgt row (List.mem_of_getElem? hrow) v (List.mem_of_getElem? htg)
                          obtain ⟨gv, hgv⟩ : ∃ gv, gs[v]? = some gv := ⟨_, List.getElem?_eq_getElem (show v < gs.length by omega)⟩
                          have hxv : (gs.map hV)[v]? = some (hV gv) := by rw [List.getElem?_map, hgv]; rfl
                          have hsV := same_rd s5 hs1
                          have hE : Edge rs f i v (f.getD j 0) := ⟨row, j, hrow, htg, hfj⟩
                          refine ⟨_, rfl, _, rfl, a, _, (v : Int), _, rfl, rfl, .inl hsV, atI_nat hxv, _, rfl, ?_⟩
                          cases gv with
                          | none =>
                            refine bad _ s5 fun h => ?_
                            obtain ⟨b, hb, _⟩ := (h g hgi).2 v _ hE
                            rw [hgv] at hb
                            cases hb
                          | some gv =>
                            refine ⟨_, rfl, _, rfl, a, _, (v : Int), _, rfl, rfl, .inl hsV, atI_nat hxv, _, rfl, _, rfl, _, rfl, pf, _, (j : Int), .int (f.getD j 0), rfl, rfl, .inl (same_rd s5 hpf1), atI_nat (by rw [List.getElem?_map, hfj]; rfl), _, _, rfl, rfl, _, _, rfl, rfl, _, rfl, ite2 (fun h8 => ?_) (fun h8 => ?_)⟩
                            · refine bad _ s5 fun h => ?_
                              obtain ⟨b, hb, hb2⟩ := (h g hgi).2 v _ hE
                              rw [hgv] at hb
                              cases hb
                              have := of_decide_eq_true h8
                              omega
                            · have h9 : ¬ (gv < g + f.getD j 0) := fun z => h8 (decide_eq_true z)
                              refine ⟨⟨_, _, rfl⟩, sL, fun l hl v' x hv hx => ?_⟩
                              by_cases e : l = j
                              · subst e
                                rw [htg] at hv
                                cases hv
                                rw [hfj] at hx
                                cases hx
                                exact ⟨gv, hgv, by omega⟩
                              · exact hal l (by omega) v' x hv hx
                      · rintro σ H4 ⟨⟨y10, y11, rfl⟩, sm4, hal⟩
                        refine ⟨⟨_, _, _, _, rfl⟩, sT.trans sm4, upto fun a0 ha0 => ?_⟩
                        rw [hgi] at ha0
                        cases ha0
                        refine ⟨fun h => (by rw [heu] at h; cases h), fun v x hE => ?_⟩
                        obtain ⟨row', l, e1, e2, e3⟩ := hE
                        rw [hrow] at e1
                        cases e1
                        exact hal l (by rw [List.length_map]; exact (List.getElem?_eq_some_iff.mp e2).1) v x e2 e3
                    | true =>
                      refine ⟨_, rfl, _, rfl, _, _, rfl, rfl, _, rfl, ite2 (fun h6 => ?_) (fun h6 => ?_)⟩
                      · refine bad _ sT fun h => ?_
                        have := (h g hgi).1 heu
                        have := of_decide_eq_true h6
                        omega
                      · have h7 : ¬ (g > bd) := fun z => h6 (decide_eq_true z)
                        obtain ⟨row, hrow⟩ : ∃ row, rs[i]? = some row := ⟨_, List.getElem?_eq_getElem (show i < rs.length by omega)⟩
                        obtain ⟨q, hq1, hq2⟩ := MM2.row i row hrow
                        refine ⟨_, rfl, _, rfl, pr, rvs, (i : Int), _, rfl, rfl, .inl MM2.hr, atI_nat hq1, q, _, rfl, .inl hq2, ?_⟩
                        refine for_it (walk_enumT (K := K) (a := q) (xs := row.map oV)) (fun j σ H' => (∃ y10 y11 : Option V, σ = [some (.ref m), some (.ref pf), some (.int bd), some (.ref a), some (.int (L : Int)), some (.ref pr), some (.ref pe), none, some (.int (i : Int)), some (.int g), y10, y11]) ∧ Same (upd H2 T1 (.tup [V.int (i : Nat), hV (some g)])) H' ∧ ∀ l, l < j → ∀ v x, row[l]? = some (some v) → f[l]? = some x → ∃ b : Int, gs[v]? = some (some b) ∧ g + x ≤ b)
                          ⟨⟨_, _, rfl⟩, L2.Same.refl _, fun l hl => absurd hl (Nat.not_lt_zero _)⟩ (fun j σ H' _ p => .inl (same_rd p.2.1 hq2)) ?_ ?_
                        · rintro j x σ H4 H5 hj ⟨⟨y10, y11, rfl⟩, sm4, hal⟩ ⟨T2, va, vb, rfl, nT2, rfl, ea, eb⟩
                          cases ea
                          replace eb : (row.map oV)[j]? = some vb := eb
                          rw [List.getElem?_map] at eb
                          obtain ⟨tg, htg, rfl⟩ := Option.map_eq_some_iff.mp eb
                          have s5 := sT.trans (sm4.trans (same_new (o := .tup [V.int (j : Nat), oV tg]) nT2))
                          have sL := sm4.trans (same_new (o := .tup [V.int (j : Nat), oV tg]) nT2)
                          refine ⟨T2, _, rfl, SqT.of upd_same, rfl, _, _, rfl, _, _, rfl, rfl, ?_⟩
                          refine ⟨_, rfl, _, rfl, ?_⟩
                          have hrl2 := M.row row (List.mem_of_getElem? hrow)
                          have hjl := (List.getElem?_eq_some_iff.mp htg).1
                          have hfj : f[j]? = some (f.getD j 0) := by rw [List.getD_eq_getElem?_getD, List.getElem?_eq_getElem (show j < f.length by omega)]; rfl
                          cases tg with
                          | none =>
                            refine ⟨⟨_, _, rfl⟩, sL, fun l hl v x hv hx => ?_⟩
                            by_cases e : l = j
                            · rw [e, htg] at hv
                              cases hv
                            · exact hal l (by omega) v x hv hx
                          | some v =>
                            have hvn := M.tgt row (List.mem_of_getElem? hrow) v (List.mem_of_getElem? htg)
                            obtain ⟨gv, hgv⟩ : ∃ gv, gs[v]? = some gv := ⟨_, List.getElem?_eq_getElem (show v < gs.length by omega)⟩
                            have hxv : (gs.map hV)[v]? = some (hV gv) := by rw [List.getElem?_map, hgv]; rfl
                            have hsV := same_rd s5 hs1
                            have hE : Edge rs f i v (f.getD j 0) := ⟨row, j, hrow, htg, hfj⟩
                            refine ⟨_, rfl, _, rfl, a, _, (v : Int), _, rfl, rfl, .inl hsV, atI_nat hxv, _, rfl, ?_⟩
                            cases gv with
                            | none =>
                              refine bad _ s5 fun h => ?_
                              obtain ⟨b, hb, _⟩ := (h g hgi).2 v _ hE
                              rw [hgv] at hb
                              cases hb
                            | some gv =>
                              refine ⟨_, rfl, _, rfl, a, _, (v : Int), _, rfl, rfl, .inl hsV, atI_nat hxv, _, rfl, _, rfl, _, rfl, pf, _, (j : Int), .int (f.getD j 0), rfl, rfl, .inl (same_rd s5 hpf1), atI_nat (by rw [List.getElem?_map, hfj]; rfl), _, _, rfl, rfl, _, _, rfl, rfl, _, rfl, ite2 (fun h8 => ?_) (fun h8 => ?_)⟩
                              · refine bad _ s5 fun h => ?_
                                obtain ⟨b, hb, hb2⟩ := (h g hgi).2 v _ hE
                                rw [hgv] at hb
                                cases hb
                                have := of_decide_eq_true h8
                                omega
                              · have h9 : ¬ (gv < g + f.getD j 0) := fun z => h8 (decide_eq_true z)
                                refine ⟨⟨_, _, rfl⟩, sL, fun l hl v' x hv hx => ?_⟩
                                by_cases e : l = j
                                · subst e
                                  rw [htg] at hv
                                  cases hv
                                  rw [hfj] at hx
                                  cases hx
                                  exact ⟨gv, hgv, by omega⟩
                                · exact hal l (by omega) v' x hv hx
                        · rintro σ H4 ⟨⟨y10, y11, rfl⟩, sm4, hal⟩
                          refine ⟨⟨_, _, _, _, rfl⟩, sT.trans sm4, upto fun a0 ha0 => ?_⟩
                          rw [hgi] at ha0
                          cases ha0
                          refine ⟨fun _ => Int.not_lt.mp h7, fun v x hE => ?_⟩
                          obtain ⟨row', l, e1, e2, e3⟩ := hE
                          rw [hrow] at e1
                          cases e1
                          exact hal l (by rw [List.length_map]; exact (List.getElem?_eq_some_iff.mp e2).1) v x e2 e3
                · rintro σ H2 ⟨⟨y8, y9, y10, y11, rfl⟩, sm, hall⟩
                  refine kY H2 sm ⟨h2, ⟨x0, hg0, hx0'⟩, fun u x hu => hall u ?_ x hu⟩
                  rw [List.length_map]
                  exact (List.getElem?_eq_some_iff.mp hu).1
end
/-! ### the law's own states that are come to -/
theorem notIn_nat {ord : List Nat} {v : Nat} : inV (.int (v : Int)) (ord.map natV) = decide (v ∈ ord) := by
  unfold inV
  rw [Bool.eq_iff_iff, List.any_eq_true, decide_eq_true_iff]
  constructor
  · rintro ⟨y, hy, e⟩
    obtain ⟨u, hu, rfl⟩ := List.mem_map.mp hy
    have e : ((u : Int) == (v : Int)) = true := e
    have := eq_of_beq e
    rw [show v = u by omega]
    exact hu
  · intro h
    exact ⟨natV v, List.mem_map_of_mem h, by show ((v : Int) == (v : Int)) = true; exact beq_self_eq_true _⟩
theorem flat_nat {ord : List Nat} : (ord.map natV).all flatV = true := by
  rw [List.all_map, List.all_eq_true]
  exact fun _ _ => rfl
section
variable {P : Program} {w : World} {K : PySem.W.Frag} {mg : Str → Option Value} {base : Heap}
theorem scMet : FnScope ["_law_rows", "_law_found", "_law_at", "_law_item"] ["_law_rows"] (defScope sMet) := ⟨rfl, rfl, rfl, by decide +kernel, rfl, by decide +kernel, by decide +kernel⟩
theorem ok_met {f : Addr} {fd : FuncData} (F : Fun K "_law_met" "_law_met" sMet f fd) (T : Mg mg) : FnOk P w K mg base CX0 1 f fd ["_law_rows"] spReached := by
  refine F.ok scMet (fun vs H Q E h => ?_) (fun cdv A outer s H vs Q E hr h => ?_)
  · obtain ⟨L, rs, es, m, pr, pe, rvs, rfl, _⟩ := h
    rfl
  · obtain ⟨L, rs, es, m, pr, pe, rvs, rfl, M, MM, k⟩ := h
    refine ⟨_, pss_cons (ps_par (i := 1) (j := 2) rfl scMet.nd rfl rfl (by decide) rfl rfl (pa_cons (pe_lst (pa_cons pe_int pa_nil)) (pa_cons pe_int pa_nil)) (by rfl))
      (pss_cons (ps_while PassesOwn.never (pt_cmpR op_lt (pv 2) (pe_callB (r := rLen K) call_len_seq (by rfl) T.len PySem.boot_len (pa_cons (pv 1) pa_nil)) (nomark _))
        (pss_cons (ps_for PassesOwn.never rfl (pi_tup (pe_ix (r := rIxT K) ix_tup (pv 0) (pe_ix ix_list (pv 1) (pv 2) (fun _ _ => rfl)) (fun _ _ => rfl))) (pg_name (i := 3) scMet.nd rfl (.inl rfl))
          (pss_one (ps_if (PW.pt (pw_and (pt_cmp (pc_notN (pv 3))) (pw_and1 (pt_cmpR op_notIn_seq (pv 3) (pv 1) rfl))))
            (pss_one (ps_expr (pe_bm PySem.F.plainAttrs_list PySem.F.slot_list_append PySem.F.type_list_append mt_append (pv 1) (pa_cons (pv 3) pa_nil))))
            pss_nil)))
        (pss_one (ps_set (i := 2) scMet.nd rfl (.inl rfl) (pe_op op_add (pv 2) pe_int)))))
      (pss_one (ps_ret (pv 1)))), ?_⟩
    refine ⟨by show 1 ≤ sizeLine; decide, fun o ho => ?_⟩
    have s1 := same_new (o := .lst [.int 0]) ho
    have l4 := M.l400
    refine ⟨_, _, rfl, ?_⟩
    refine while_by (fun σ H' => ∃ (i : Nat) (ord : List Nat) (y3 : Option V), σ = [some (.ref pr), some (.ref o), some (.int (i : Int)), y3] ∧ Same H H' ∧ H' o = some (.lst (ord.map natV)) ∧ ROrd rs i ord)
      (fun (σ : List (Option V)) (_ : Hp) => match σ[2]? with
        | some (some (V.int i)) => 401 - i.toNat
        | _ => 0) ⟨0, [0], none, rfl, s1, upd_same, rord0⟩ ?_ ?_
    · rintro σ H1 ⟨i, ord, y3, rfl, sm, h1, R⟩
      have hol := R.len M
      refine ⟨_, rfl, _, rfl, o, _, rfl, .inl (SqL.of h1), _, _, rfl, rfl, _, rfl, ite2 (fun hlt => ?_) fun hlt => ?_⟩
      · have hlt := of_decide_eq_true hlt
        rw [List.length_map] at hlt
        have hi : i < ord.length := by omega
        have hu : ord[i]? = some ord[i] := List.getElem?_eq_getElem hi
        have hmu := List.getElem_mem hi
        generalize ord[i] = u at *
        have hun := M.reach_lt u (R.rch u hmu)
        have hrow : rs[u]? = some rs[u] := List.getElem?_eq_getElem hun
        have hmr := List.getElem_mem hun
        generalize rs[u] = row at *
        have MM1 := MM.same sm
        obtain ⟨q, hq1, hq2⟩ := MM1.row u row hrow
        refine ⟨_, rfl, _, rfl, _, rfl, o, _, (i : Int), _, rfl, rfl, SqL.of h1, atI_nat (natV_get hu), pr, rvs, (u : Int), _, rfl, rfl, .inl MM1.hr, atI_nat hq1, q, rfl, ⟨_, .inl hq2⟩, ?_⟩
        refine for_tup (K := K) (a := q) (xs := row.map oV) (fun j σ H' => (∃ y3, σ = [some (.ref pr), some (.ref o), some (.int (i : Int)), y3]) ∧ Same H H' ∧ (∀ {a : Addr} {xs : List V}, Rd H1 a (.tup xs) → Rd H' a (.tup xs)) ∧ ∃ ord', H' o = some (.lst (ord'.map natV)) ∧ ROrd rs i ord' ∧ ord'[i]? = some u ∧ ∀ k, k < j → ∀ v, row[k]? = some (some v) → v ∈ ord')
          ⟨⟨_, rfl⟩, sm, fun h => h, ord, h1, R, hu, fun k hk => absurd hk (Nat.not_lt_zero _)⟩ (fun j σ H' _ p => .inl (p.2.2.1 hq2)) ?_ ?_
        · rintro j x σ H2 hx ⟨⟨y5, rfl⟩, sm2, rdk, ord', g1, R', hu', hall⟩
          rw [List.getElem?_map] at hx
          obtain ⟨tg, hj, rfl⟩ := Option.map_eq_some_iff.mp hx
          refine ⟨_, rfl, _, rfl, ?_⟩
          cases tg with
          | none =>
            refine ⟨⟨_, rfl⟩, sm2, rdk, ord', g1, R', hu', fun k hk v hv => ?_⟩
            by_cases e : k = j
            · rw [e, hj] at hv
              cases hv
            · exact hall k (by omega) v hv
          | some v =>
            have hrv : Reach rs v := .s (R'.rch u (List.mem_of_getElem? hu')) hrow hj
            refine ⟨_, rfl, _, rfl, o, _, rfl, .inl (SqL.of g1), rfl, flat_nat, _, rfl, ?_⟩
            have enot : inV (oV (some v)) (ord'.map natV) = decide (v ∈ ord') := notIn_nat
            rw [enot]
            by_cases hin : v ∈ ord'
            · rw [decide_eq_true hin]
              refine ⟨⟨_, rfl⟩, sm2, rdk, ord', g1, R', hu', fun k hk w hw => ?_⟩
              by_cases e : k = j
              · rw [e, hj] at hw
                cases hw
                exact hin
              · exact hall k (by omega) w hw
            · rw [decide_eq_false hin]
              have hol2 := (R'.push hin hrv).len M
              rw [List.length_append, List.length_singleton] at hol2
              refine ⟨_, rfl, .inl ⟨rfl, _, SqL.of g1⟩, _, rfl, o, _, _, rfl, rfl, g1, small1000 (by rw [List.length_map]; omega), ?_⟩
              refine ⟨⟨_, rfl⟩, fun b z e => ?_, fun {a} {xs} h => ?_, ord' ++ [v], by rw [upd_same, List.map_append]; rfl, R'.push hin hrv, ?_, fun k hk w hw => ?_⟩
              · rw [upd_ne (ne_of_none e ho)]
                exact sm2 b z e
              · have h' := rdk h
                have na : a ≠ o := fun z => by
                  rw [z] at h'
                  rcases h' with h' | ⟨_, h'⟩ <;> (rw [g1] at h'; cases h')
                rcases h' with h' | ⟨ob, h'⟩
                · exact .inl (by rw [upd_ne na]; exact h')
                · exact .inr ⟨ob, by rw [upd_ne na]; exact h'⟩
              · rw [List.getElem?_append_left (List.getElem?_eq_some_iff.mp hu').1]
                exact hu'
              · by_cases e : k = j
                · rw [e, hj] at hw
                  cases hw
                  exact List.mem_append_right _ (List.mem_singleton.mpr rfl)
                · exact List.mem_append_left _ (hall k (by omega) w hw)
        · rintro σ H2 ⟨⟨y5, rfl⟩, sm2, rdk, ord', g1, R', hu', hall⟩
          have R'' := R'.next hu' hrow (fun v hv => by
            obtain ⟨k, hk⟩ := List.getElem?_of_mem hv
            exact hall k (by rw [List.length_map]; exact (List.getElem?_eq_some_iff.mp hk).1) v hk)
          have hl2 := R''.len M
          have hle := R''.le
          refine ⟨_, rfl, _, _, rfl, rfl, ⟨i + 1, ord', _, rfl, sm2, g1, R''⟩, ?_⟩
          show 401 - ((i : Int) + 1).toNat < 401 - (i : Int).toNat
          omega
      · refine ⟨_, rfl, k H1 o ord sm ho h1 (R.isOrd M ?_)⟩
        have h9 : ¬ ((i : Int) < ((ord.map natV).length : Int)) := fun z => hlt (decide_eq_true z)
        rw [List.length_map] at h9
        omega
    · rintro σ H1 Q1 Q2 hQ ⟨x, e1, y, e2, p, ys, e3, e4, i, j, e5, e6, b, e7, q⟩
      exact ⟨x, e1, y, e2, p, ys, e3, e4, i, j, e5, e6, b, e7, hQ _ _ q⟩
end
/-! ### drawn machines -/
theorem rows_of {L : Nat} {m : Int} : ∀ {rs : List PyData}, (∀ r ∈ rs, RowD (L : Int) m r) → ∃ rows : Rows, rs = rows.map rowDt ∧ ∀ row ∈ rows, row.length = L ∧ ∀ v, some v ∈ row → (v : Int) < m
  | [], _ => ⟨[], rfl, fun _ h => absurd h List.not_mem_nil⟩
  | r :: rs, h => by
    obtain ⟨rows, e, h1⟩ := rows_of (rs := rs) fun r' hr => h r' (List.mem_cons_of_mem _ hr)
    obtain ⟨is, e2, h2, h3⟩ := h r List.mem_cons_self
    have : ∀ {is : List PyData}, (∀ i ∈ is, Ri m i) → ∃ row : List (Option Nat), is = row.map oD ∧ ∀ v, some v ∈ row → (v : Int) < m := by
      intro is
      induction is with
      | nil => intro _; exact ⟨[], rfl, fun _ h => absurd h List.not_mem_nil⟩
      | cons i is ih =>
        intro hi
        obtain ⟨row, e, hv⟩ := ih fun j hj => hi j (List.mem_cons_of_mem _ hj)
        rcases hi i List.mem_cons_self with rfl | ⟨k, rfl, k0, k1⟩
        · exact ⟨none :: row, by rw [e]; rfl, fun v hm => by
            rcases List.mem_cons.mp hm with hm | hm
            · cases hm
            · exact hv v hm⟩
        · refine ⟨some k.toNat :: row, by rw [e, List.map_cons]; show _ = PyData.int (k.toNat : Int) :: _; rw [Int.toNat_of_nonneg k0], fun v hm => ?_⟩
          rcases List.mem_cons.mp hm with hm | hm
          · cases hm
            omega
          · exact hv v hm
    obtain ⟨row, e3, hv⟩ := this h3
    refine ⟨row :: rows, by rw [e, e2, e3]; rfl, fun row' hr => ?_⟩
    rcases List.mem_cons.mp hr with hr | hr
    · rw [hr]
      refine ⟨?_, hv⟩
      rw [e3, List.length_map] at h2
      omega
    · exact h1 row' hr
theorem ends_of : ∀ {es : List PyData}, (∀ e ∈ es, isBool e = true) → ∃ bs : List Bool, es = bs.map .bool
  | [], _ => ⟨[], rfl⟩
  | e :: es, h => by
    obtain ⟨bs, e1⟩ := ends_of fun e' he => h e' (List.mem_cons_of_mem _ he)
    have := h e List.mem_cons_self
    cases e with
    | bool b => exact ⟨b :: bs, by rw [e1]; rfl⟩
    | _ => cases this
theorem mach_of {K : PySem.W.Frag} {a c : Addr} {H : Hp} {v : V} {L : Nat} {M : Int} {rs es : List PyData} (h : MachD K a c H v (L : Int) M rs es) (L1 : 1 ≤ L) (L3 : L ≤ 3) (hM : M ≤ 400) :
    ∃ (rows : Rows) (bs : List Bool), Dt (Bd a c) K H v (machDt L rows bs) ∧ MOk L rows bs ∧ (rows.length : Int) ≤ M := by
  obtain ⟨h1, h2, h3, h4, h5, h6⟩ := h
  obtain ⟨rows, rfl, h7⟩ := rows_of h5
  obtain ⟨bs, rfl⟩ := ends_of h6
  rw [List.length_map] at h2 h3 h4
  rw [List.length_map] at h4
  refine ⟨rows, bs, h1, ⟨h2, by omega, fun row hr => (h7 row hr).1, fun row hr v hv => ?_, h4, L1, L3⟩, h3⟩
  have := (h7 row hr).2 v hv
  rw [List.length_map] at this
  omega
/-! ### drawn forms and kinds -/
theorem tb_deck {a c : Addr} {cells : List Int} {n : Int} {H : Hp} (dk : DeckAt a c cells n H) : TB (Bd a c) H := fun b z e => by
  rcases z with z | z
  · rw [z, dk.2.1] at e
    cases e
  · rw [z, dk.2.2.1] at e
    cases e
theorem cut_last (xs : List V) : cutV xs none (some (-1)) = xs.take (xs.length - 1) := by
  unfold cutV
  have e : HT.sIx xs.length xs.length (some (-1)) = xs.length - 1 := by
    show (if (-1 : Int) < 0 then ((-1 : Int) + (xs.length : Int)).toNat else min (-1 : Int).toNat xs.length) = _
    rw [if_pos (by decide)]
    omega
  rw [HT.sIx_none, List.drop_zero, Nat.sub_zero, e]
def Gf (v : V) : Prop := ∃ g : Int, v = .int g ∧ -100 ≤ g ∧ g ≤ 100
theorem gf_all : ∀ {acc : List V}, (∀ v ∈ acc, Gf v) → ∃ f : List Int, acc = f.map V.int ∧ ∀ g ∈ f, -100 ≤ g ∧ g ≤ 100
  | [], _ => ⟨[], rfl, fun _ h => absurd h List.not_mem_nil⟩
  | v :: acc, h => by
    obtain ⟨f, e, h1⟩ := gf_all fun u hu => h u (List.mem_cons_of_mem _ hu)
    obtain ⟨g, rfl, h2⟩ := h v List.mem_cons_self
    refine ⟨g :: f, by rw [e]; rfl, fun x hx => ?_⟩
    rcases List.mem_cons.mp hx with hx | hx
    · rw [hx]; exact h2
    · exact h1 x hx
section
variable {P : Program} {w : World} {K : PySem.W.Frag} {mg : Str → Option Value} {base : Heap}
theorem scForm : FnScope ["_law_deck_here", "_law_letters", "_law_wide", "_law_at"] ["_law_deck_here", "_law_letters"] (defScope sForm) := ⟨rfl, rfl, rfl, by decide +kernel, rfl, by decide +kernel, by decide +kernel⟩
def spForm (K : PySem.W.Frag) : Sp := fun vs H Q _ => ∃ (a c : Addr) (cells : List Int) (n : Int) (L : Nat), vs = [.ref a, .int (L : Int)] ∧ DeckAt a c cells n H ∧ 0 ≤ n ∧ n ≤ 900000 ∧ 1 ≤ L ∧ L ≤ 3 ∧
  ∀ (H' : Hp) (cells' : List Int) (n' : Int) (v : V) (f : List Int), DeckAt a c cells' n' H' → n ≤ n' → n' ≤ n + 7 → Keep (Bd a c) H H' → Dt (Bd a c) K H' v (formDt f) → f.length = L → (∀ g ∈ f, -100 ≤ g ∧ g ≤ 100) → Q v H'
theorem ok_form {f fD fO : Addr} {fd fdD fdO : FuncData} (F : Fun K "_law_form" "_law_form" sForm f fd) (D : FnOk P w K mg base CX0 1 fD fdD ["_law_deck_here", "_law_many"] spDraw) (FD : Fun K "_law_draw" "_law_draw" sDraw fD fdD) (bD : Binds K fdD ["_law_deck_here", "_law_many"] []) (gD : mg "_law_draw" = some (.ref fD))
    (O : FnOk P w K mg base CX0 2 fO fdO ["_law_deck_here", "_law_items"] (spOne K)) (FO : Fun K "_law_one" "_law_one" sOne fO fdO) (bO : Binds K fdO ["_law_deck_here", "_law_items"] []) (gO : mg "_law_one" = some (.ref fO)) (T : Mg mg) :
    FnOk P w K mg base CX0 3 f fd ["_law_deck_here", "_law_letters"] (spForm K) := by
  refine F.ok scForm (fun vs H Q E h => ?_) (fun cdv A outer s H vs Q E hr h => ?_)
  · obtain ⟨a, c, cells, n, L, rfl, _⟩ := h
    rfl
  · obtain ⟨a, c, cells, n, L, rfl, dk, n0, n1, L1, L3, k⟩ := h
    refine ⟨_, pss_cons (ps_set (i := 2) scForm.nd rfl (.inr rfl) (pe_call O hr (by rfl) gO FO.kp bO .nil pass0 (pa_cons (pv 0) (pa_cons (pe_lst (pa_cons pe_int (pa_cons pe_int (pa_cons pe_int (pa_cons pe_int (pa_cons pe_int pa_nil)))))) pa_nil))))
      (pss_one (ps_ret (pe_callTy (r := rTup K) call_tuple_of (by rfl) T.tuple PyProof.Rows.boot_tuple (pa_cons (pe_lc (own := [("_law_at", 3)]) (g := gName 3) (tt := tYes) rfl scForm.nd (pi_range1 (by rfl) T.range (pa_cons (pv 1) pa_nil)) (blkOk_by (N := ["_law_deck_here", "_law_letters", "_law_wide", "_law_at"]) (sc := defScope sForm) (by decide +kernel)) (fun _ _ _ _ _ => pg_name (i := 3) scForm.nd rfl (Or.inl rfl)) (fun _ _ _ _ _ => pts_nil)
        (fun _ _ _ _ _ => pe_op op_sub (pe_op op_sub (pe_call D (hr.mono (by decide)) (by rfl) gD FD.kp bD .nil pass0 (pa_cons (pv 0) (pa_cons (pe_op op_add (pe_op op_mul pe_int (pv 2)) pe_int) pa_nil))) (pv 2))
          (pe_op op_mul (pe_call D (hr.mono (by decide)) (by rfl) gD FD.kp bD .nil pass0 (pa_cons (pv 0) (pa_cons pe_int pa_nil))) (pe_callTy call_int1 (by rfl) T.int PyProof.Rows.boot_int (pa_cons (pe_cmpR op_lt (pv 2) pe_int (nomark _)) pa_nil))))) pa_nil)))), ?_⟩
    refine ⟨_, rfl, by show 5 ≤ sizeLine; decide, fun W hW => ?_⟩
    have dk1 := deck_new (o := .lst [.int 1, .int 2, .int 3, .int 9, .int 99]) dk hW
    have nW := deck_off dk hW
    refine ⟨a, c, W, cells, n, _, rfl, dk1, n0, by omega, SqL.of upd_same, nW, List.cons_ne_nil _ _, by show 5 ≤ 1000; decide, fun H1 cells1 x hx dk2 k1 => ?_⟩
    obtain ⟨wd, rfl, hw⟩ : ∃ wd : Int, x = .int wd ∧ (wd = 1 ∨ wd = 2 ∨ wd = 3 ∨ wd = 9 ∨ wd = 99) := by
      simp only [List.mem_cons, List.not_mem_nil, or_false] at hx
      rcases hx with h | h | h | h | h
      · exact ⟨_, h, .inl rfl⟩
      · exact ⟨_, h, .inr (.inl rfl)⟩
      · exact ⟨_, h, .inr (.inr (.inl rfl))⟩
      · exact ⟨_, h, .inr (.inr (.inr (.inl rfl)))⟩
      · exact ⟨_, h, .inr (.inr (.inr (.inr rfl)))⟩
    have k01 : Keep (Bd a c) H H1 := (keep_new (B := Bd a c) (o := .lst [.int 1, .int 2, .int 3, .int 9, .int 99]) hW).trans k1
    refine ⟨_, rfl, (L : Int), rfl, by omega, by omega, fun D0 hD => ?_⟩
    have nD := deck_off dk2 hD
    refine lc_range (lo := 0) (n := (L : Int).toNat) (CInv a c D0 H1 Gf (n + 1) 2) (cstart dk2 hD) ?_ ?_
    · rintro j H6 hj ⟨cells6, n6, acc, dk6, h1, h2, k6, hD6, hl6, hG6⟩
      refine ⟨rfl, _, rfl, _, rfl, _, _, rfl, rfl, .inl ⟨by decide, by decide⟩, _, _, rfl, rfl, a, c, cells6, n6, _, rfl, dk6, by omega, by omega, by omega, by omega, fun H7 cells7 r r0 rm dk7 k7 => ?_⟩
      refine ⟨_, rfl, _, _, rfl, rfl, _, rfl, a, c, cells7, n6 + 1, 2, rfl, dk7, by decide, by decide, by omega, by omega, fun H8 cells8 r2 r20 r2m dk8 k8 => ?_⟩
      refine ⟨_, rfl, _, _, rfl, rfl, .inr ⟨_, rfl, ?_⟩⟩
      have k68 := k7.trans k8
      have fin : ∀ b : Bool, (b = true → wd ≤ 9) → (let i : Int := if b then 1 else 0; -100 ≤ r - wd - r2 * i ∧ r - wd - r2 * i ≤ 100) := by
        intro b hb
        cases b with
        | true =>
          show -100 ≤ r - wd - r2 * 1 ∧ r - wd - r2 * 1 ≤ 100
          have := hb rfl
          omega
        | false =>
          show -100 ≤ r - wd - r2 * 0 ∧ r - wd - r2 * 0 ≤ 100
          omega
      have hf := fin (decide (wd < 9)) (fun h => by have := of_decide_eq_true h; omega)
      have fin2 := cstep (n2 := n6 + 1 + 1) hD nD (by omega) h1 h2 k6 hD6 hl6 hG6 dk8 (by omega) (by omega) k68 ⟨_, rfl, hf⟩
      refine ⟨_, _, rfl, rfl, .inl ⟨?_, ?_⟩, _, _, rfl, rfl, fin2⟩
      · omega
      · omega
    · rintro H6 ⟨cells6, n6, acc, dk6, h1, h2, k6, hD6, hl6, hG6⟩
      refine ⟨D0, acc, rfl, .inl ⟨SqL.of hD6, fun q hq => ?_⟩⟩
      obtain ⟨f, rfl, hf⟩ := gf_all hG6
      rw [List.length_map] at hl6
      refine k _ cells6 n6 (.ref q) f (deck_new dk6 hq) (by omega) (by omega) ((k01.trans k6).trans (keep_new hq)) ?_ (by omega) hf
      exact .tup (tb_off (tb_deck dk6) hq) (.inl upd_same) (dt_cs (fun x => .int x) f)
theorem scKind : FnScope ["_law_deck_here", "_law_letters", "_law_found"] ["_law_deck_here", "_law_letters"] (defScope sKind) := ⟨rfl, rfl, rfl, by decide +kernel, rfl, by decide +kernel, by decide +kernel⟩
def spKind (K : PySem.W.Frag) : Sp := fun vs H Q _ => ∃ (a c : Addr) (cells : List Int) (n : Int) (L : Nat), vs = [.ref a, .int (L : Int)] ∧ DeckAt a c cells n H ∧ 0 ≤ n ∧ n ≤ 800000 ∧ 1 ≤ L ∧ L ≤ 3 ∧
  ∀ (H' : Hp) (cells' : List Int) (n' : Int) (v : V) (rs : Rows) (es : List Bool), DeckAt a c cells' n' H' → n ≤ n' → n' ≤ n + 101 → Keep (Bd a c) H H' → Dt (Bd a c) K H' v (machDt L rs es) → MOk L rs es → rs.length ≤ 10 → Q v H'
theorem ok_kind {f fD fM : Addr} {fd fdD fdM : FuncData} (F : Fun K "_law_kind" "_law_kind" sKind f fd) (D : FnOk P w K mg base CX0 1 fD fdD ["_law_deck_here", "_law_many"] spDraw) (FD : Fun K "_law_draw" "_law_draw" sDraw fD fdD) (bD : Binds K fdD ["_law_deck_here", "_law_many"] []) (gD : mg "_law_draw" = some (.ref fD))
    (MM : FnOk P w K mg base CX0 3 fM fdM ["_law_deck_here", "_law_letters", "_law_most"] (spMach K)) (FM : Fun K "_law_machine" "_law_machine" sMach fM fdM) (bM : Binds K fdM ["_law_deck_here", "_law_letters", "_law_most"] []) (gM : mg "_law_machine" = some (.ref fM)) (T : Mg mg) :
    FnOk P w K mg base CX0 4 f fd ["_law_deck_here", "_law_letters"] (spKind K) := by
  refine F.ok scKind (fun vs H Q E h => ?_) (fun cdv A outer s H vs Q E hr h => ?_)
  · obtain ⟨a, c, cells, n, L, rfl, _⟩ := h
    rfl
  · obtain ⟨a, c, cells, n, L, rfl, dk, n0, n1, L1, L3, k⟩ := h
    refine ⟨_, pss_cons (ps_set (i := 2) scKind.nd rfl (.inl rfl) (pe_call MM hr (by rfl) gM FM.kp bM .nil pass0 (pa_cons (pv 0) (pa_cons (pv 1) (pa_cons pe_int pa_nil)))))
      (pss_one (ps_ret (pe_ifExp (pt_cmpR op_eq (pe_call D (hr.mono (by decide)) (by rfl) gD FD.kp bD .nil pass0 (pa_cons (pv 0) (pa_cons pe_int pa_nil))) pe_int (nomark _)) (pv 2)
        (pe_tup (pa_cons (pv 1) (pa_cons (pe_ix (r := rIxT K) ix_tup (pv 2) pe_int (fun _ _ => rfl)) (pa_cons (pe_op op_catS (pe_slice sl_tupS (pe_ix (r := rIxT K) ix_tup (pv 2) pe_int (fun _ _ => rfl)) po_none (po_some (pe_un un_neg pe_int))) (pe_tup (pa_cons pe_bl pa_nil))) pa_nil))))))), ?_⟩
    refine ⟨_, rfl, _, rfl, a, c, cells, n, (L : Int), 6, rfl, dk, n0, by omega, by omega, by omega, by decide, by decide, fun H1 cells1 n' v rs es dk1 m1 m2 k1 hM => ?_⟩
    obtain ⟨rows, bs, hd, M, hlen⟩ := mach_of hM L1 L3 (by decide)
    refine ⟨_, rfl, a, c, cells1, n', 8, rfl, dk1, by decide, by decide, by omega, by omega, fun H2 cells2 r r0 r8 dk2 k2 => ?_⟩
    have hd2 := Dt.keep k2 _ _ hd
    refine ⟨rfl, _, rfl, ite2 (fun h1 => ?_) fun h1 => ?_⟩
    · exact ⟨_, rfl, k H2 cells2 (n' + 1) v rows bs dk2 (by omega) (by omega) (k1.trans k2) hd2 M (by omega)⟩
    · have hd2' := hd2
      obtain ⟨m, pr, pe, rvs, rfl, nm, MM2⟩ := dt_mach hd2
      obtain ⟨m', xs', e', nm', hm', ha', _⟩ := hd2'.tup_rd
      cases e'
      cases ha' with
      | cons d1 ha' =>
        cases ha' with
        | cons d2 ha' =>
          cases ha' with
          | cons d3 ha' =>
            cases ha'
            obtain ⟨p2, xs2, rfl, np2, hp2, ha2, hl2⟩ := d3.tup_rd
            rw [dt_sc b_sc ha2] at hp2
            cases d1
            refine ⟨_, rfl, _, rfl, m, _, 1, _, rfl, rfl, .inl hm', atI_nat (j := 1) rfl, _, rfl, m, _, 2, _, rfl, rfl, .inl hm', atI_nat (j := 2) rfl, 1, rfl, -1, rfl, p2, _, rfl, hp2, fun q1 H3 s3 hq1 w1 => ?_⟩
            rw [cut_last] at hq1
            have dk3 := deck_same s3 dk2
            have tb2 := tb_deck dk2
            have nq1 := nb_of tb2 np2 w1
            refine ⟨by show 1 ≤ sizeLine; decide, fun t ht => ?_⟩
            have st := same_new (o := .tup [.bl true]) ht
            have nt := tb_off (tb_deck dk3) ht
            refine ⟨q1, t, _, _, rfl, rfl, same_rd st hq1, .inl upd_same, ?_, fun q H4 s4 hq w4 => ?_⟩
            · have := M.es
              rw [List.length_take, List.length_map, List.length_singleton]
              exact sz_of (by omega)
            · have nq := nb_of2 (tb_deck (deck_same st dk3)) nq1 nt w4
              refine ⟨by show 3 ≤ sizeLine; decide, fun z hz => ?_⟩
              have sz := fun o : HO => same_new (o := o) hz
              have nz := tb_off (tb_deck (deck_same s4 (deck_same st dk3))) hz
              have sA := fun o : HO => ((s3.trans st).trans s4).trans (sz o)
              have eb : ((bs.map V.bl).take ((bs.map V.bl).length - 1)) ++ [V.bl true] = (bs.take (bs.length - 1) ++ [true]).map V.bl := by
                rw [List.map_append, List.map_take, List.length_map]
                rfl
              rw [eb] at hq
              have hes := M.es
              have hl1 := M.l1
              refine k _ cells2 (n' + 1) (.ref z) rows (bs.take (bs.length - 1) ++ [true]) (deck_same (sA _) dk2) (by omega) (by omega) ((k1.trans k2).trans (Keep.same (sA _))) ?_ ⟨M.l1, M.l400, M.row, M.tgt, ?_, M.L1, M.L3⟩ (by omega)
              · exact .tup nz (.inl upd_same) (.cons (.int _) (.cons (same_dt (sA _) d2) (.cons (.tup nq (same_rd (sz _) hq) (dt_cs (fun x => .bl x) _)) .nil)))
              · rw [List.length_append, List.length_take, List.length_singleton]
                omega
end
/-! ### the law's own look at heights -/
def someAt (hs : List (Option Int)) (u : Nat) : Bool := ((hs[u]?).getD none).isSome
def sts (hs : List (Option Int)) (n : Nat) : List Nat := (List.range n).filter (someAt hs)
theorem sts_mem {hs : List (Option Int)} {u : Nat} {a : Int} (h : hs[u]? = some (some a)) : u ∈ sts hs hs.length := by
  unfold sts
  rw [List.mem_filter, List.mem_range]
  refine ⟨(List.getElem?_eq_some_iff.mp h).1, ?_⟩
  unfold someAt
  rw [h]
  rfl
theorem sts_some {hs : List (Option Int)} {u : Nat} (h : u ∈ sts hs hs.length) : ∃ a : Int, hs[u]? = some (some a) := by
  unfold sts at h
  rw [List.mem_filter] at h
  have h2 := h.2
  unfold someAt at h2
  cases e : hs[u]? with
  | none => rw [e] at h2; cases h2
  | some o =>
    cases o with
    | none => rw [e] at h2; cases h2
    | some a => exact ⟨a, rfl⟩
def SInv (hs : List (Option Int)) (H : Hp) (D : Addr) (i : Nat) (H' : Hp) : Prop := Same H H' ∧ H' D = some (.lst ((sts hs i).map natV))
theorem sts_up {hs : List (Option Int)} {i : Nat} : sts hs (i + 1) = if someAt hs i = true then sts hs i ++ [i] else sts hs i := by
  unfold sts
  rw [List.range_succ, List.filter_append, List.filter_cons, List.filter_nil]
  by_cases h : someAt hs i = true
  · rw [if_pos h, if_pos h]
  · rw [if_neg h, if_neg h, List.append_nil]
theorem sts_len {hs : List (Option Int)} {i : Nat} : (sts hs i).length ≤ i := by
  unfold sts
  have := List.length_filter_le (someAt hs) (List.range i)
  rw [List.length_range] at this
  exact this
section
variable {P : Program} {w : World} {K : PySem.W.Frag} {mg : Str → Option Value} {base : Heap}
theorem scAre : FnScope ["_law_machine_here", "_law_form_here", "_law_bound", "_law_value", "_law_item", "_law_state", "_law_own", "_law_at"] ["_law_machine_here", "_law_form_here", "_law_bound", "_law_value"] (defScope sAre) := ⟨rfl, rfl, rfl, by decide +kernel, rfl, by decide +kernel, by decide +kernel⟩
theorem ok_are {f : Addr} {fd : FuncData} (F : Fun K "_law_are_heights" "_law_are_heights" sAre f fd) (T : Mg mg) :
    FnOk P w K mg base CX0 1 f fd ["_law_machine_here", "_law_form_here", "_law_bound", "_law_value"] (spHold K) := by
  refine F.ok scAre (fun vs H Q E h => ?_) (fun cdv A outer s H vs Q E hr h => ?_)
  · obtain ⟨B, B2, B3, x, vf, v, L, rs, es, f, bd, d, rfl, _⟩ := h
    rfl
  · obtain ⟨B, B2, B3, x, vf, v, L, rs, es, f, bd, d, rfl, hdm, hdf, hdv, M, hfl, hnd, k⟩ := h
    refine ⟨_, pss_cons (ps_if (PW.pt (pw_or (pt_not (pt_val (pe_callB (r := rIsi K) call_isi (by rfl) T.isi PyProof.Rows.boot_isinstance (pa_cons (pv 3) (pa_cons (pe_bltn (v := .ty "tuple") (by rfl) T.tuple PyProof.Rows.boot_tuple rfl) pa_nil))))) (pw_or1 (pt_cmpR op_ne (pe_callB (r := rLen K) call_len_seq (by rfl) T.len PySem.boot_len (pa_cons (pv 3) pa_nil)) (pe_callB (r := rLen K) call_len_seq (by rfl) T.len PySem.boot_len (pa_cons (pe_ix (r := rIxT K) ix_tup (pv 0) pe_int (fun _ _ => rfl)) pa_nil)) (nomark _))))) (pss_one (ps_ret pe_bl)) pss_nil)
      (pss_cons (ps_for PassesOwn.never rfl (pi_tup (pv 3)) (pg_name (i := 4) scAre.nd rfl (.inl rfl)) (pss_one (ps_if (PW.pt (pw_and (pt_cmp (pc_notN (pv 4))) (pw_and1 (PW.pt (pw_or (pt_not (pt_val (pe_callB (r := rIsi K) call_isi (by rfl) T.isi PyProof.Rows.boot_isinstance (pa_cons (pv 4) (pa_cons (pe_bltn (v := .ty "int") (by rfl) T.int PyProof.Rows.boot_int rfl) pa_nil))))) (pw_or1 (pt_val (pe_callB (r := rIsi K) call_isi (by rfl) T.isi PyProof.Rows.boot_isinstance (pa_cons (pv 4) (pa_cons (pe_bltn (v := .ty "bool") (by rfl) T.bool PyProof.Rows.boot_bool rfl) pa_nil)))))))))) (pss_one (ps_ret pe_bl)) pss_nil)))
      (pss_cons (ps_if (PW.pt (pw_or (pt_cmp (pc_isN (pe_ix (r := rIxT K) ix_tup (pv 3) pe_int (fun _ _ => rfl)))) (pw_or1 (pt_cmpR op_lt (pe_ix (r := rIxT K) ix_tup (pv 3) pe_int (fun _ _ => rfl)) pe_int (nomark _))))) (pss_one (ps_ret pe_bl)) pss_nil)
      (pss_cons (ps_for PassesOwn.never rfl (pi_list (pe_lc (own := [("_law_own", 6)]) (g := gName 6) rfl scAre.nd (pi_range1 (by rfl) T.range (pa_cons (pe_callB (r := rLen K) call_len_seq (by rfl) T.len PySem.boot_len (pa_cons (pv 3) pa_nil)) pa_nil)) (blkOk_by (N := ["_law_machine_here", "_law_form_here", "_law_bound", "_law_value", "_law_item", "_law_state", "_law_own", "_law_at"]) (sc := defScope sAre) (by decide +kernel)) (fun _ _ _ _ _ => pg_name (i := 6) scAre.nd rfl (Or.inl rfl)) (fun _ _ _ _ _ => pts_one (pt_cmp (pc_notN (pe_ix (r := rIxT K) ix_tup (pv 3) (pv 6) (fun _ _ => rfl))))) (fun _ _ _ _ _ => pv 6))) (pg_name (i := 5) scAre.nd rfl (.inl rfl))
        (pss_cons (ps_if (PW.pt (pw_and (pt_val (pe_ix (r := rIxT K) ix_tup (pe_ix (r := rIxT K) ix_tup (pv 0) pe_int (fun _ _ => rfl)) (pv 5) (fun _ _ => rfl))) (pw_and1 (pt_cmpR op_gt (pe_ix (r := rIxT K) ix_tup (pv 3) (pv 5) (fun _ _ => rfl)) (pv 2) (nomark _))))) (pss_one (ps_ret pe_bl)) pss_nil)
        (pss_one (ps_for PassesOwn.never rfl (pi_enumT (by rfl) T.enum (pa_cons (pe_ix ix_tup (pe_ix ix_tup (pv 0) pe_int (fun _ _ => rfl)) (pv 5) (fun _ _ => rfl)) pa_nil)) (pg_tup rfl (pgs_cons (pg_name (i := 7) scAre.nd rfl (.inl rfl)) (pgs_cons (pg_name (i := 4) scAre.nd rfl (.inl rfl)) pgs_nil)))
          (pss_one (ps_if (pt_cmp (pc_notN (pv 4))) (pss_one (ps_if (PW.pt (pw_or (pt_cmp (pc_isN (pe_ix (r := rIxT K) ix_tup (pv 3) (pv 4) (fun _ _ => rfl)))) (pw_or1 (pt_cmpR op_lt (pe_ix (r := rIxT K) ix_tup (pv 3) (pv 4) (fun _ _ => rfl)) (pe_op op_add (pe_ix (r := rIxT K) ix_tup (pv 3) (pv 5) (fun _ _ => rfl)) (pe_ix (r := rIxT K) ix_tup (pv 1) (pv 7) (fun _ _ => rfl))) (nomark _))))) (pss_one (ps_ret pe_bl)) pss_nil)) pss_nil))))))
      (pss_one (ps_ret pe_bl))))), ?_⟩
    obtain ⟨m, pr, pe, rvs, rfl, _, MM⟩ := dt_mach hdm
    obtain ⟨pf, rfl, _, hpf⟩ := dt_form hdf
    have kno : ∀ H', Same H H' → (∀ hs, d = hsDt hs → ¬ Valid rs es f bd hs) → Q (.bl false) H' := fun H' sm h => by
      have := k H' sm
      rw [hsB_no h] at this
      exact this
    refine ⟨v, rfl, v, .ty "tuple", _, _, _, rfl, .ty _, tyD hdv, kitT d, _, rfl, ?_⟩
    cases d with
    | none => exact kno H (Same.refl H) fun hs e => by cases e
    | bool _ => exact kno H (Same.refl H) fun hs e => by cases e
    | int _ => exact kno H (Same.refl H) fun hs e => by cases e
    | str _ => exact kno H (Same.refl H) fun hs e => by cases e
    | list _ => exact kno H (Same.refl H) fun hs e => by cases e
    | dict _ => exact kno H (Same.refl H) fun hs e => by cases e
    | tuple ds =>
      obtain ⟨a, xs, rfl, nb, hs, ha, hl⟩ := hdv.tup_rd
      have hrl := MM.hl
      have l1 := M.l1
      have l4 := M.l400
      have hx1 : atI [V.int (L : Int), .ref pr, .ref pe] 1 = some (.ref pr) := atI_nat (j := 1) rfl
      have hx2 : atI [V.int (L : Int), .ref pr, .ref pe] 2 = some (.ref pe) := atI_nat (j := 2) rfl
      refine ⟨.ref a, rfl, a, xs, rfl, .inr (.inl hs), _, rfl, m, _, 1, _, rfl, rfl, .inl MM.hm, hx1, pr, rvs, rfl, .inr (.inl MM.hr), rfl, _, rfl, ite2 (fun h1 => ?_) (fun h1 => ?_)⟩
      · refine kno H (Same.refl H) fun gs e V => ne_int h1 ?_
        have e2 : ds = gs.map hD := PyData.tuple.inj e
        have := V.1
        rw [hl, e2, List.length_map]
        omega
      · have h2 : ds.length = rs.length := by
          have := ne_int' h1
          omega
        refine ⟨_, rfl, a, rfl, ⟨xs, .inl hs⟩, ?_⟩
        refine for_tup (K := K) (a := a) (xs := xs) (fun i σ H' => (∃ y4 : Option V, σ = [some (.ref m), some (.ref pf), some (.int bd), some (.ref a), y4, none, none, none]) ∧ H' = H ∧ (ds.take i).all okI = true) ⟨⟨_, rfl⟩, rfl, rfl⟩ (fun i σ H' _ q => by rw [q.2.1]; exact .inl hs) ?_ ?_
        · rintro i y σ H' hy ⟨⟨y4, rfl⟩, rfl, hall⟩
          obtain ⟨d, hd1, hd'⟩ := ha.getV hy
          have bad : okI d = false → Q (.bl false) H' := fun h => kno H' (Same.refl H') fun gs e => by
            have e2 : ds = gs.map hD := PyData.tuple.inj e
            have := okI_all gs
            rw [← e2, List.all_eq_true] at this
            rw [this d (List.mem_of_getElem? hd1)] at h
            cases h
          have go : okI d = true → (∃ y4' : Option V, [some (V.ref m), some (.ref pf), some (.int bd), some (.ref a), some y, none, none, none] = [some (V.ref m), some (.ref pf), some (.int bd), some (.ref a), y4', none, none, none]) ∧ H' = H' ∧ (ds.take (i + 1)).all okI = true := fun h => ⟨⟨_, rfl⟩, rfl, by
            rw [List.take_add_one, hd1, List.all_append, hall]
            simp [h]⟩
          refine ⟨_, rfl, _, rfl, ?_⟩
          cases d with
          | none => cases hd'; exact go rfl
          | int i => cases hd'; exact ⟨_, rfl, _, .ty "int", _, _, _, rfl, .ty _, tyD (B := B3) (.int i), kitI (.int i), _, rfl, _, rfl, _, .ty "bool", _, _, _, rfl, .ty _, tyD (B := B3) (.int i), kitB' (.int i), _, rfl, go rfl⟩
          | bool i => cases hd'; exact ⟨_, rfl, _, .ty "int", _, _, _, rfl, .ty _, tyD (B := B3) (.bl i), kitI (.bool i), _, rfl, _, rfl, _, .ty "bool", _, _, _, rfl, .ty _, tyD (B := B3) (.bl i), kitB' (.bool i), _, rfl, bad rfl⟩
          | str i => cases hd'; exact ⟨_, rfl, _, .ty "int", _, _, _, rfl, .ty _, tyD (B := B3) (.str i), kitI (.str i), _, rfl, bad rfl⟩
          | list i =>
            have hd2 := hd'
            cases hd' with
            | lst nb ne hs' ha' => exact ⟨_, rfl, _, .ty "int", _, _, _, rfl, .ty _, tyD hd2, kitI (.list i), _, rfl, bad rfl⟩
          | tuple i =>
            have hd2 := hd'
            cases hd' with
            | tup nb hs' ha' => exact ⟨_, rfl, _, .ty "int", _, _, _, rfl, .ty _, tyD hd2, kitI (.tuple i), _, rfl, bad rfl⟩
          | dict i =>
            have hd2 := hd'
            cases hd' with
            | emp nb hs' => exact ⟨_, rfl, _, .ty "int", _, _, _, rfl, .ty _, tyD hd2, kitI (.dict []), _, rfl, bad rfl⟩
        · rintro σ H1 ⟨⟨y4, rfl⟩, rfl, hall⟩
          rw [hl, List.take_length] at hall
          obtain ⟨gs, rfl⟩ := all_okI hall
          rw [dt_sc h_sc ha] at hs hl
          rw [List.length_map] at h2
          have kN : ∀ H', Same H1 H' → ¬ Valid rs es f bd gs → Q (.bl false) H' := fun H' sm h => by
            have := k H' sm
            rw [show PyData.tuple (gs.map hD) = hsDt gs from rfl, hsB_not h] at this
            exact this
          have kY : ∀ H', Same H1 H' → Valid rs es f bd gs → Q (.bl true) H' := fun H' sm h => by
            have := k H' sm
            rw [show PyData.tuple (gs.map hD) = hsDt gs from rfl, hsB_iff.mpr h] at this
            exact this
          obtain ⟨g0, hg0⟩ : ∃ g0, gs[0]? = some g0 := ⟨_, List.getElem?_eq_getElem (by omega)⟩
          have hx0 : (gs.map hV)[0]? = some (hV g0) := by rw [List.getElem?_map, hg0]; rfl
          refine ⟨_, rfl, a, _, 0, _, rfl, rfl, .inl hs, atI_nat (j := 0) hx0, _, rfl, ?_⟩
          cases g0 with
          | none =>
            refine kN H1 (L2.Same.refl H1) fun V => ?_
            obtain ⟨x, hx, _⟩ := V.2.1
            rw [hg0] at hx
            cases hx
          | some x0 =>
            refine ⟨_, rfl, a, _, 0, _, rfl, rfl, .inl hs, atI_nat (j := 0) hx0, x0, 0, rfl, rfl, _, rfl, ite2 (fun h5 => ?_) (fun h5 => ?_)⟩
            · refine kN H1 (L2.Same.refl H1) fun V => ?_
              obtain ⟨x, hx, hx1⟩ := V.2.1
              rw [hg0] at hx
              cases hx
              have := of_decide_eq_true h5
              omega
            · have hx0' : 0 ≤ x0 := by
                refine Int.not_lt.mp fun z => h5 (decide_eq_true z)
              have hgl : (gs.map hV).length = gs.length := List.length_map _
              refine ⟨_, rfl, a, _, rfl, .inr (.inl hs), ((gs.map hV).length : Int), rfl, by omega, by rw [hgl]; omega, fun D nD => ?_⟩
              refine lc_range (lo := 0) (n := ((gs.map hV).length : Int).toNat) (SInv gs H1 D) ⟨same_new nD, upd_same⟩ ?_ ?_
              · rintro j H6 hj ⟨sm, hD6⟩
                have hjl : j < gs.length := by omega
                obtain ⟨gj, hgj⟩ : ∃ gj, gs[j]? = some gj := ⟨_, List.getElem?_eq_getElem hjl⟩
                have hxj : (gs.map hV)[j]? = some (hV gj) := by rw [List.getElem?_map, hgj]; rfl
                have hat : atI (gs.map hV) (0 + (j : Int)) = some (hV gj) := by rw [Int.zero_add]; exact atI_nat hxj
                refine ⟨rfl, _, rfl, _, rfl, a, _, _, _, rfl, rfl, .inl (same_rd sm hs), hat, _, rfl, ?_⟩
                cases gj with
                | none =>
                  refine ⟨sm, ?_⟩
                  rw [sts_up, if_neg (by unfold someAt; rw [hgj]; decide)]
                  exact hD6
                | some gj =>
                  refine ⟨_, rfl, _, hD6, ?_, fun b u z => ?_, ?_⟩
                  · have := sts_len (hs := gs) (i := j)
                    rw [List.length_map]
                    exact small1000 (by omega)
                  · rw [upd_ne (ne_of_none z nD)]
                    exact sm _ _ z
                  · rw [upd_same, sts_up, if_pos (by unfold someAt; rw [hgj]; rfl), List.map_append]
                    show some (HO.lst ((sts gs j).map natV ++ [V.int (0 + (j : Int))])) = _
                    rw [Int.zero_add]
                    rfl
              · rintro H6 ⟨sm6, hD6⟩
                rw [hgl, Int.toNat_natCast] at hD6
                refine ⟨D, rfl, ⟨_, SqL.of hD6⟩, ?_⟩
                have MM6 := MM.same sm6
                have hs6 := same_rd sm6 hs
                have hpf6 := same_rd sm6 hpf
                refine for_list (K := K) (a := D) (xs := (sts gs gs.length).map natV) (fun i σ H' => (∃ y4 y5 y7 : Option V, σ = [some (.ref m), some (.ref pf), some (.int bd), some (.ref a), y4, y5, none, y7]) ∧ Same H6 H' ∧ ∀ u ∈ (sts gs gs.length).take i, VUp rs es f bd gs u)
                  ⟨⟨_, _, _, rfl⟩, L2.Same.refl H6, fun u hu => absurd hu List.not_mem_nil⟩ (fun i σ H' _ q => SqL.of (q.2.1 _ _ hD6)) ?_ ?_
                · rintro i x σ H2 hx ⟨⟨y4, y5, y7, rfl⟩, sm, hall⟩
                  obtain ⟨u, hui, rfl⟩ := natV_of hx
                  obtain ⟨g, hgu⟩ := sts_some (List.mem_of_getElem? hui)
                  have hul := (List.getElem?_eq_some_iff.mp hgu).1
                  have hxu : (gs.map hV)[u]? = some (.int g) := by rw [List.getElem?_map, hgu]; rfl
                  obtain ⟨eu, heu⟩ : ∃ eu, es[u]? = some eu := ⟨_, List.getElem?_eq_getElem (show u < es.length by rw [M.es]; omega)⟩
                  have MM2 := MM6.same sm
                  have hs2 := same_rd sm hs6
                  have upto : (VUp rs es f bd gs u) → ∀ u' ∈ (sts gs gs.length).take (i + 1), VUp rs es f bd gs u' := fun h u' hu' => by
                    rw [List.take_add_one, hui] at hu'
                    rcases List.mem_append.mp hu' with hu' | hu'
                    · exact hall u' hu'
                    · rw [show u' = u by simpa using hu']; exact h
                  have bad : ∀ H', Same H6 H' → ¬ VUp rs es f bd gs u → Q (.bl false) H' := fun H' s h => kN H' (sm6.trans s) fun V => h (V.2.2 u)
                  obtain ⟨row, hrow⟩ : ∃ row, rs[u]? = some row := ⟨_, List.getElem?_eq_getElem (show u < rs.length by omega)⟩
                  obtain ⟨q, hq1, hq2⟩ := MM2.row u row hrow
                  refine ⟨_, rfl, m, _, 2, _, rfl, rfl, .inl MM2.hm, hx2, _, rfl, pe, _, (u : Int), .bl eu, rfl, rfl, .inl MM2.he, atI_nat (by rw [List.getElem?_map, heu]; rfl), eu, rfl, ?_⟩
                  cases eu with
                  | false =>
                    refine ⟨_, rfl, m, _, 1, _, rfl, rfl, .inl MM2.hm, hx1, _, rfl, pr, rvs, (u : Int), _, rfl, rfl, .inl MM2.hr, atI_nat hq1, q, _, rfl, .inl hq2, ?_⟩
                    refine for_it (walk_enumT (K := K) (a := q) (xs := row.map oV)) (fun j σ H' => (∃ y4 y7 : Option V, σ = [some (.ref m), some (.ref pf), some (.int bd), some (.ref a), y4, some (.int (u : Int)), none, y7]) ∧ Same H2 H' ∧ ∀ l, l < j → ∀ v x, row[l]? = some (some v) → f[l]? = some x → ∃ b : Int, gs[v]? = some (some b) ∧ g + x ≤ b)
                      ⟨⟨_, _, rfl⟩, L2.Same.refl _, fun l hl => absurd hl (Nat.not_lt_zero _)⟩ (fun j σ H' _ p => .inl (same_rd p.2.1 hq2)) ?_ ?_
                    · rintro j x σ H4 H5 hj ⟨⟨y10, y11, rfl⟩, sm4, hal⟩ ⟨T2, va, vb, rfl, nT2, rfl, ea, eb⟩
                      cases ea
                      replace eb : (row.map oV)[j]? = some vb := eb
                      rw [List.getElem?_map] at eb
                      obtain ⟨tg, htg, rfl⟩ := Option.map_eq_some_iff.mp eb
                      have sL := sm4.trans (same_new (o := .tup [V.int (j : Nat), oV tg]) nT2)
                      have s5 := sm.trans sL
                      refine ⟨T2, _, rfl, SqT.of upd_same, rfl, _, _, rfl, _, _, rfl, rfl, ?_⟩
                      refine ⟨_, rfl, _, rfl, ?_⟩
                      have hrl2 := M.row row (List.mem_of_getElem? hrow)
                      have hjl := (List.getElem?_eq_some_iff.mp htg).1
                      have hfj : f[j]? = some (f.getD j 0) := by rw [List.getD_eq_getElem?_getD, List.getElem?_eq_getElem (show j < f.length by omega)]; rfl
                      cases tg with
                      | none =>
                        refine ⟨⟨_, _, rfl⟩, sL, fun l hl v x hv hx => ?_⟩
                        by_cases e : l = j
                        · rw [e, htg] at hv
                          cases hv
                        · exact hal l (by omega) v x hv hx
                      | some v =>
                        have hvn := M.tgt row (List.mem_of_getElem? hrow) v (List.mem_of_getElem? htg)
                        obtain ⟨gv, hgv⟩ : ∃ gv, gs[v]? = some gv := ⟨_, List.getElem?_eq_getElem (show v < gs.length by omega)⟩
                        have hxv : (gs.map hV)[v]? = some (hV gv) := by rw [List.getElem?_map, hgv]; rfl
                        have hsV := same_rd s5 hs6
                        have hE : Edge rs f u v (f.getD j 0) := ⟨row, j, hrow, htg, hfj⟩
                        refine ⟨_, rfl, _, rfl, a, _, (v : Int), _, rfl, rfl, .inl hsV, atI_nat hxv, _, rfl, ?_⟩
                        cases gv with
                        | none =>
                          refine bad _ s5 fun h => ?_
                          obtain ⟨b, hb, _⟩ := (h g hgu).2 v _ hE
                          rw [hgv] at hb
                          cases hb
                        | some gv =>
                          refine ⟨_, rfl, _, rfl, a, _, (v : Int), _, rfl, rfl, .inl hsV, atI_nat hxv, _, rfl, _, rfl, a, _, (u : Int), _, rfl, rfl, .inl hsV, atI_nat hxu, _, rfl, _, rfl, pf, _, (j : Int), .int (f.getD j 0), rfl, rfl, .inl (same_rd s5 hpf6), atI_nat (by rw [List.getElem?_map, hfj]; rfl), _, _, rfl, rfl, _, _, rfl, rfl, _, rfl, ite2 (fun h8 => ?_) (fun h8 => ?_)⟩
                          · refine bad _ s5 fun h => ?_
                            obtain ⟨b, hb, hb2⟩ := (h g hgu).2 v _ hE
                            rw [hgv] at hb
                            cases hb
                            have := of_decide_eq_true h8
                            omega
                          · have h9 : ¬ (gv < g + f.getD j 0) := fun z => h8 (decide_eq_true z)
                            refine ⟨⟨_, _, rfl⟩, sL, fun l hl v' x hv hx => ?_⟩
                            by_cases e : l = j
                            · subst e
                              rw [htg] at hv
                              cases hv
                              rw [hfj] at hx
                              cases hx
                              exact ⟨gv, hgv, by omega⟩
                            · exact hal l (by omega) v' x hv hx
                    · rintro σ H4 ⟨⟨y10, y11, rfl⟩, sm4, hal⟩
                      refine ⟨⟨_, _, _, rfl⟩, sm.trans sm4, upto fun a0 ha0 => ?_⟩
                      rw [hgu] at ha0
                      cases ha0
                      refine ⟨fun h => (by rw [heu] at h; cases h), fun v x hE => ?_⟩
                      obtain ⟨row', l, e1, e2, e3⟩ := hE
                      rw [hrow] at e1
                      cases e1
                      exact hal l (by rw [List.length_map]; exact (List.getElem?_eq_some_iff.mp e2).1) v x e2 e3
                  | true =>
                    refine ⟨_, rfl, _, rfl, a, _, (u : Int), _, rfl, rfl, .inl hs2, atI_nat hxu, _, rfl, _, _, rfl, rfl, _, rfl, ite2 (fun h6 => ?_) (fun h6 => ?_)⟩
                    · refine bad _ sm fun h => ?_
                      have := (h g hgu).1 heu
                      have := of_decide_eq_true h6
                      omega
                    · have h7 : ¬ (g > bd) := fun z => h6 (decide_eq_true z)
                      refine ⟨_, rfl, m, _, 1, _, rfl, rfl, .inl MM2.hm, hx1, _, rfl, pr, rvs, (u : Int), _, rfl, rfl, .inl MM2.hr, atI_nat hq1, q, _, rfl, .inl hq2, ?_⟩
                      refine for_it (walk_enumT (K := K) (a := q) (xs := row.map oV)) (fun j σ H' => (∃ y4 y7 : Option V, σ = [some (.ref m), some (.ref pf), some (.int bd), some (.ref a), y4, some (.int (u : Int)), none, y7]) ∧ Same H2 H' ∧ ∀ l, l < j → ∀ v x, row[l]? = some (some v) → f[l]? = some x → ∃ b : Int, gs[v]? = some (some b) ∧ g + x ≤ b)
                        ⟨⟨_, _, rfl⟩, L2.Same.refl _, fun l hl => absurd hl (Nat.not_lt_zero _)⟩ (fun j σ H' _ p => .inl (same_rd p.2.1 hq2)) ?_ ?_
                      · rintro j x σ H4 H5 hj ⟨⟨y10, y11, rfl⟩, sm4, hal⟩ ⟨T2, va, vb, rfl, nT2, rfl, ea, eb⟩
                        cases ea
                        replace eb : (row.map oV)[j]? = some vb := eb
                        rw [List.getElem?_map] at eb
                        obtain ⟨tg, htg, rfl⟩ := Option.map_eq_some_iff.mp eb
                        have sL := sm4.trans (same_new (o := .tup [V.int (j : Nat), oV tg]) nT2)
                        have s5 := sm.trans sL
                        refine ⟨T2, _, rfl, SqT.of upd_same, rfl, _, _, rfl, _, _, rfl, rfl, ?_⟩
                        refine ⟨_, rfl, _, rfl, ?_⟩
                        have hrl2 := M.row row (List.mem_of_getElem? hrow)
                        have hjl := (List.getElem?_eq_some_iff.mp htg).1
                        have hfj : f[j]? = some (f.getD j 0) := by rw [List.getD_eq_getElem?_getD, List.getElem?_eq_getElem (show j < f.length by omega)]; rfl
                        cases tg with
                        | none =>
                          refine ⟨⟨_, _, rfl⟩, sL, fun l hl v x hv hx => ?_⟩
                          by_cases e : l = j
                          · rw [e, htg] at hv
                            cases hv
                          · exact hal l (by omega) v x hv hx
                        | some v =>
                          have hvn := M.tgt row (List.mem_of_getElem? hrow) v (List.mem_of_getElem? htg)
                          obtain ⟨gv, hgv⟩ : ∃ gv, gs[v]? = some gv := ⟨_, List.getElem?_eq_getElem (show v < gs.length by omega)⟩
                          have hxv : (gs.map hV)[v]? = some (hV gv) := by rw [List.getElem?_map, hgv]; rfl
                          have hsV := same_rd s5 hs6
                          have hE : Edge rs f u v (f.getD j 0) := ⟨row, j, hrow, htg, hfj⟩
                          refine ⟨_, rfl, _, rfl, a, _, (v : Int), _, rfl, rfl, .inl hsV, atI_nat hxv, _, rfl, ?_⟩
                          cases gv with
                          | none =>
                            refine bad _ s5 fun h => ?_
                            obtain ⟨b, hb, _⟩ := (h g hgu).2 v _ hE
                            rw [hgv] at hb
                            cases hb
                          | some gv =>
                            refine ⟨_, rfl, _, rfl, a, _, (v : Int), _, rfl, rfl, .inl hsV, atI_nat hxv, _, rfl, _, rfl, a, _, (u : Int), _, rfl, rfl, .inl hsV, atI_nat hxu, _, rfl, _, rfl, pf, _, (j : Int), .int (f.getD j 0), rfl, rfl, .inl (same_rd s5 hpf6), atI_nat (by rw [List.getElem?_map, hfj]; rfl), _, _, rfl, rfl, _, _, rfl, rfl, _, rfl, ite2 (fun h8 => ?_) (fun h8 => ?_)⟩
                            · refine bad _ s5 fun h => ?_
                              obtain ⟨b, hb, hb2⟩ := (h g hgu).2 v _ hE
                              rw [hgv] at hb
                              cases hb
                              have := of_decide_eq_true h8
                              omega
                            · have h9 : ¬ (gv < g + f.getD j 0) := fun z => h8 (decide_eq_true z)
                              refine ⟨⟨_, _, rfl⟩, sL, fun l hl v' x hv hx => ?_⟩
                              by_cases e : l = j
                              · subst e
                                rw [htg] at hv
                                cases hv
                                rw [hfj] at hx
                                cases hx
                                exact ⟨gv, hgv, by omega⟩
                              · exact hal l (by omega) v' x hv hx
                      · rintro σ H4 ⟨⟨y10, y11, rfl⟩, sm4, hal⟩
                        refine ⟨⟨_, _, _, rfl⟩, sm.trans sm4, upto fun a0 ha0 => ?_⟩
                        rw [hgu] at ha0
                        cases ha0
                        refine ⟨fun _ => Int.not_lt.mp h7, fun v x hE => ?_⟩
                        obtain ⟨row', l, e1, e2, e3⟩ := hE
                        rw [hrow] at e1
                        cases e1
                        exact hal l (by rw [List.length_map]; exact (List.getElem?_eq_some_iff.mp e2).1) v x e2 e3
                · rintro σ H2 ⟨⟨y4, y5, y7, rfl⟩, sm, hall⟩
                  rw [List.length_map, List.take_length] at hall
                  exact kY H2 (sm6.trans sm) ⟨h2, ⟨x0, hg0, hx0'⟩, fun u x hu => hall u (sts_mem hu) x hu⟩
end
/-! ### the law's own sums -/
theorem rowEd_drop {f : List Int} {u j : Nat} {row : List (Option Nat)} {o : Option Nat} (h : row[j]? = some o) : rowEd f u j (row.drop j) = (match o with | some v => [(u, v, f.getD j 0)] | none => []) ++ rowEd f u (j + 1) (row.drop (j + 1)) := by
  have hj := (List.getElem?_eq_some_iff.mp h).1
  have e : row[j] = o := (List.getElem?_eq_some_iff.mp h).2
  rw [List.drop_eq_getElem_cons hj, e]
  cases o <;> rfl
theorem edges_drop {rs : Rows} {f : List Int} {ord : List Nat} {i u : Nat} (h : ord[i]? = some u) : edgesOf rs f (ord.drop i) = rowEd f u 0 (rs.getD u []) ++ edgesOf rs f (ord.drop (i + 1)) := by
  have hj := (List.getElem?_eq_some_iff.mp h).1
  have e : ord[i] = u := (List.getElem?_eq_some_iff.mp h).2
  rw [List.drop_eq_getElem_cons hj, e]
  rfl
def oEd (f : List Int) (u l : Nat) : Option Nat → List Ed
  | some v => [(u, v, f.getD l 0)]
  | none => []
theorem rowEd_snoc' {f : List Int} {u l : Nat} {o : Option Nat} {r : List (Option Nat)} : rowEd f u l (r ++ [o]) = rowEd f u l r ++ oEd f u (l + r.length) o := by
  rw [rowEd_snoc]
  cases o <;> rfl
theorem rowEd_drop' {f : List Int} {u j : Nat} {row : List (Option Nat)} {o : Option Nat} (h : row[j]? = some o) : rowEd f u j (row.drop j) = oEd f u j o ++ rowEd f u (j + 1) (row.drop (j + 1)) := by
  rw [rowEd_drop h]
  cases o <;> rfl
section
variable {P : Program} {w : World} {K : PySem.W.Frag} {mg : Str → Option Value} {base : Heap}
theorem scSums : FnScope ["_law_machine_here", "_law_form_here", "_law_states", "_law_sums_here", "_law_changed", "_law_turns", "_law_state", "_law_at", "_law_item", "_law_more"] ["_law_machine_here", "_law_form_here"] (defScope sSums) := ⟨rfl, rfl, rfl, by decide +kernel, rfl, by decide +kernel, by decide +kernel⟩
def spSums (K : PySem.W.Frag) : Sp := fun vs H Q _ => ∃ (B B2 : Addr → Prop) (x vf : V) (L : Nat) (rs : Rows) (es : List Bool) (f : List Int), vs = [x, vf] ∧ Dt B K H x (machDt L rs es) ∧ Dt B2 K H vf (formDt f) ∧ MOk L rs es ∧ f.length = L ∧ (∀ g ∈ f, -100 ≤ g ∧ g ≤ 100) ∧
  (∀ H' ord, Same H H' → IsOrd rs ord → (∀ p, ¬ PotE (edgesOf rs f ord) p) → Q .non H') ∧
  ∀ H' d kvs s' i ord, Same H H' → H d = none → H' d = some (.dK kvs) → DictH kvs s' → IsOrd rs ord → RInv (edgesOf rs f ord) i (edgesOf rs f ord) [] none s' → i ≤ 402 → Q (.ref d) H'
theorem ok_sums {f fM : Addr} {fd fdM : FuncData} (F : Fun K "_law_sums" "_law_sums" sSums f fd) (MT : FnOk P w K mg base CX0 1 fM fdM ["_law_rows"] spReached) (FM : Fun K "_law_met" "_law_met" sMet fM fdM) (bM : Binds K fdM ["_law_rows"] []) (gM : mg "_law_met" = some (.ref fM)) (T : Mg mg) :
    FnOk P w K mg base CX0 2 f fd ["_law_machine_here", "_law_form_here"] (spSums K) := by
  refine F.ok scSums (fun vs H Q E h => ?_) (fun cdv A outer s H vs Q E hr h => ?_)
  · obtain ⟨B, B2, x, vf, L, rs, es, f, rfl, _⟩ := h
    rfl
  · obtain ⟨B, B2, x, vf, L, rs, es, f, rfl, hdm, hdf, M, hfl, hfg, kN, kS⟩ := h
    have hu1 := hu_of hr
    refine ⟨_, pss_cons (ps_set (i := 2) scSums.nd rfl (.inl rfl) (pe_call MT hr (by rfl) gM FM.kp bM .nil pass0 (pa_cons (pe_ix (r := rIxT K) ix_tup (pv 0) pe_int (fun _ _ => rfl)) pa_nil)))
      (pss_cons (ps_par3 (i := 3) (j := 4) (l := 5) rfl scSums.nd rfl rfl rfl (by decide) (by decide) (by decide) rfl rfl rfl (pa_cons (pe_disp (pps_cons pe_int pe_int pps_nil) (by rfl) (by rfl) (fun z => by cases z) (by decide)) (pa_cons pe_bl (pa_cons pe_int pa_nil))) (by rfl))
      (pss_cons (ps_while PassesOwn.never (PW.pt (pw_and (pt_val (pv 4)) (pw_and1 (pt_cmpR op_le (pv 5) (pe_callB (r := rLen K) call_len_seq (by rfl) T.len PySem.boot_len (pa_cons (pv 2) pa_nil)) (nomark _)))))
        (pss_cons (ps_par (i := 4) (j := 5) rfl scSums.nd rfl rfl (by decide) rfl rfl (pa_cons pe_bl (pa_cons (pe_op op_add (pv 5) pe_int) pa_nil)) (by rfl))
        (pss_one (ps_for PassesOwn.never rfl (pi_list (pv 2)) (pg_name (i := 6) scSums.nd rfl (.inl rfl))
          (pss_one (ps_for PassesOwn.never rfl (pi_enumT (by rfl) T.enum (pa_cons (pe_ix ix_tup (pe_ix ix_tup (pv 0) pe_int (fun _ _ => rfl)) (pv 6) (fun _ _ => rfl)) pa_nil)) (pg_tup rfl (pgs_cons (pg_name (i := 7) scSums.nd rfl (.inl rfl)) (pgs_cons (pg_name (i := 8) scSums.nd rfl (.inl rfl)) pgs_nil)))
            (pss_cons (ps_set (i := 9) scSums.nd rfl (.inl rfl) (pe_ifExp (pt_cmp (pc_din hu1 (pv 6) (pv 3))) (pe_op op_add (pe_dget hu1 (pv 3) (pv 6) (fun _ _ => rfl)) (pe_ix (r := rIxT K) ix_tup (pv 1) (pv 7) (fun _ _ => rfl))) pe_int))
            (pss_one (ps_if (PW.pt (pw_and (pt_cmp (pc_notN (pv 8))) (pw_and (pt_cmp (pc_din hu1 (pv 6) (pv 3))) (pw_and1 (pt_cmpR op_lt (pe_dget2 hu1 (pv 3) (pv 8) (pe_op op_sub (pv 9) pe_int) ⟨rfl, rfl, rfl, rfl⟩) (pv 9) (nomark _)))))) (pss_one (ps_asg (pe_tup (pa_cons (pv 9) (pa_cons pe_bl pa_nil))) (pg_tup rfl (pgs_cons (pg_sub (pv 3) (pv 8) (set_dict hu1)) (pgs_cons (pg_name (i := 4) scSums.nd rfl (.inl rfl)) pgs_nil))))) pss_nil)))))))))
      (pss_one (ps_ret (pe_ifExp (pt_val (pv 4)) pe_non (pv 3)))))), ?_⟩
    obtain ⟨m, pr, pe, rvs, rfl, _, MM⟩ := dt_mach hdm
    obtain ⟨pf, rfl, _, hpf⟩ := dt_form hdf
    have hf : Fits rs f := fun row h => by rw [M.row row h, hfl]
    have hx1 : atI [V.int (L : Int), .ref pr, .ref pe] 1 = some (.ref pr) := atI_nat (j := 1) rfl
    refine ⟨_, rfl, m, _, 1, _, rfl, rfl, .inl MM.hm, hx1, L, rs, es, m, pr, pe, rvs, rfl, M, MM, fun H1 o ord s1 hno ho O1 => ?_⟩
    have hlo : ord.length ≤ 400 := Nat.le_trans O1.len M.l400
    have hE1200 : (edgesOf rs f ord).length ≤ 1200 := Nat.le_trans (edges_len M.row ord) (Nat.mul_le_mul M.L3 hlo)
    refine fun d hd => ⟨upd_same, [(.inl 0, .int 0)], rfl, by decide, ?_⟩
    refine ⟨_, _, _, rfl, ?_⟩
    have hG : ∃ G, G = upd (upd H1 d (.dK [])) d (.dK (mergeK [] [(.inl 0, .int 0)])) := ⟨_, rfl⟩
    obtain ⟨G, hG⟩ := hG
    rw [← hG]
    have sG : Same H1 G := fun b u e => by
      rw [hG, upd_ne (ne_of_none e hd), upd_ne (ne_of_none e hd)]
      exact e
    have gd : G d = some (.dK [(.inl 0, .int 0)]) := by
      rw [hG, upd_same]
      rfl
    clear hG
    have hd0 : H d = none := by
      cases z : H d with
      | none => rfl
      | some u =>
        rw [s1 _ _ z] at hd
        cases hd
    have sHG : Same H G := s1.trans sG
    have E0 : edgesOf rs f ord = [] ++ edgesOf rs f ord := rfl
    refine while_by (fun σ H' => ∃ (t : Nat) (s' : RS) (kvs : List (Key × V)) (ch : Bool) (y6 y7 y8 y9 : Option V), σ = [some (.ref m), some (.ref pf), some (.ref o), some (.ref d), some (.bl ch), some (.int (t : Int)), y6, y7, y8, y9] ∧ Same H1 H' ∧ H' d = some (.dK kvs) ∧ DictH kvs s' ∧ t ≤ ord.length + 1 ∧ (ch = true → RInv (edgesOf rs f ord) (t + 1) [] (edgesOf rs f ord) none s' ∧ (t = 0 ∨ ∃ v, s'.R v = t)) ∧ (ch = false → RInv (edgesOf rs f ord) t (edgesOf rs f ord) [] none s'))
      (fun (σ : List (Option V)) (_ : Hp) => match σ[5]? with
        | some (some (V.int i)) => 500 - i.toNat
        | _ => 0) ⟨0, rs0, _, true, none, none, none, none, rfl, sG, gd, dictH0, Nat.zero_le _, fun _ => ⟨rinv0, .inl rfl⟩, fun h => by cases h⟩ ?_ ?_
    · rintro σ H2 ⟨t, s', kvs, ch, y6, y7, y8, y9, rfl, sm, hkd, DH, htl, hT, hF⟩
      refine ⟨_, rfl, ch, rfl, ?_⟩
      cases ch with
      | false =>
        exact ⟨_, rfl, false, rfl, _, rfl, kS H2 d kvs s' t ord (s1.trans sm) hd0 hkd DH O1 (hF rfl) (by omega)⟩
      | true =>
        obtain ⟨RI, h0⟩ := hT rfl
        have ho2 := sm _ _ ho
        refine ⟨_, rfl, _, rfl, o, _, rfl, .inl (SqL.of ho2), _, _, rfl, rfl, _, rfl, ite2 (fun h1 => ?_) fun h1 => ?_⟩
        · have h1 := of_decide_eq_true h1
          rw [List.length_map] at h1
          refine ⟨_, rfl, _, _, rfl, rfl, _, _, rfl, ?_⟩
          refine ⟨_, rfl, o, rfl, ⟨_, SqL.of ho2⟩, ?_⟩
          refine for_list (K := K) (a := o) (xs := ord.map natV) (fun i σ H' => ∃ (s' : RS) (kvs : List (Key × V)) (last : Option Nat) (y6 y7 y8 y9 : Option V), σ = [some (.ref m), some (.ref pf), some (.ref o), some (.ref d), some (.bl last.isSome), some (.int ((t : Int) + 1)), y6, y7, y8, y9] ∧ Same H1 H' ∧ H' d = some (.dK kvs) ∧ DictH kvs s' ∧ RInv (edgesOf rs f ord) (t + 1) (edgesOf rs f (ord.take i)) (edgesOf rs f (ord.drop i)) last s')
            ⟨s', kvs, none, y6, y7, y8, y9, rfl, sm, hkd, DH, RI⟩ (fun i σ H' _ q => by
              obtain ⟨_, _, _, _, _, _, _, _, q, _⟩ := q
              exact SqL.of (q _ _ ho)) ?_ ?_
          · rintro i x σ H3 hx ⟨s3, kvs3, last, y6, y7, y8, y9, rfl, sm3, hkd3, DH3, RI3⟩
            obtain ⟨u, hu, rfl⟩ := natV_of hx
            have huo := List.mem_of_getElem? hu
            have hun := O1.lt u huo
            obtain ⟨row, hrow⟩ : ∃ row, rs[u]? = some row := ⟨_, List.getElem?_eq_getElem hun⟩
            have hmr := List.mem_of_getElem? hrow
            have hgd : rs.getD u [] = row := by rw [List.getD_eq_getElem?_getD, hrow]; rfl
            rw [edges_drop hu, hgd] at RI3
            rw [edges_snoc hu, hgd]
            have MM3 := MM.same (s1.trans sm3)
            obtain ⟨q, hq1, hq2⟩ := MM3.row u row hrow
            obtain ⟨q', hq1', hq0⟩ := MM.row u row hrow
            rw [hq1] at hq1'
            cases hq1'
            refine ⟨_, rfl, m, _, 1, _, rfl, rfl, .inl MM3.hm, hx1, _, rfl, pr, rvs, (u : Int), _, rfl, rfl, .inl MM3.hr, atI_nat hq1, q, _, rfl, .inl hq2, ?_⟩
            refine for_it (walk_enumT (K := K) (a := q) (xs := row.map oV)) (fun j σ H' => ∃ (s' : RS) (kvs : List (Key × V)) (last : Option Nat) (y7 y8 y9 : Option V), σ = [some (.ref m), some (.ref pf), some (.ref o), some (.ref d), some (.bl last.isSome), some (.int ((t : Int) + 1)), some (.int (u : Int)), y7, y8, y9] ∧ Same H1 H' ∧ H' d = some (.dK kvs) ∧ DictH kvs s' ∧ RInv (edgesOf rs f ord) (t + 1) (edgesOf rs f (ord.take i) ++ rowEd f u 0 (row.take j)) (rowEd f u j (row.drop j) ++ edgesOf rs f (ord.drop (i + 1))) last s')
              ⟨s3, kvs3, last, y7, y8, y9, rfl, sm3, hkd3, DH3, by rw [List.take_zero, rowEd, List.append_nil]; exact RI3⟩ (fun j σ H' _ p => by
                obtain ⟨_, _, _, _, _, _, _, p, _⟩ := p
                exact .inl (same_rd (s1.trans p) hq0)) ?_ ?_
            · rintro j x σ H4 H5 hj ⟨s4, kvs4, last, y7, y8, y9, rfl, sm4, hkd4, DH4, RI4⟩ ⟨T2, va, vb, rfl, nT2, rfl, ea, eb⟩
              cases ea
              replace eb : (row.map oV)[j]? = some vb := eb
              rw [List.getElem?_map] at eb
              obtain ⟨tg, htg, rfl⟩ := Option.map_eq_some_iff.mp eb
              have sT := same_new (o := .tup [V.int (j : Nat), oV tg]) nT2
              have sm5 := sm4.trans sT
              have hkd5 := sT _ _ hkd4
              have hrl2 := M.row row hmr
              have hjl := (List.getElem?_eq_some_iff.mp htg).1
              have hfj : f[j]? = some (f.getD j 0) := by rw [List.getD_eq_getElem?_getD, List.getElem?_eq_getElem (show j < f.length by omega)]; rfl
              have tk : row.take (j + 1) = row.take j ++ [tg] := by rw [List.take_add_one, htg]; rfl
              have hlt : (row.take j).length = j := by rw [List.length_take]; omega
              have esn : edgesOf rs f (ord.take i) ++ rowEd f u 0 (row.take (j + 1)) = (edgesOf rs f (ord.take i) ++ rowEd f u 0 (row.take j)) ++ oEd f u j tg := by
                rw [tk, rowEd_snoc', hlt, Nat.zero_add, List.append_assoc]
              rw [rowEd_drop' htg, List.append_assoc] at RI4
              rw [esn]
              refine ⟨T2, _, rfl, SqT.of upd_same, rfl, _, _, rfl, _, _, rfl, rfl, ?_⟩
              refine ⟨_, rfl, _, rfl, d, (s4.h u).map V.int, rfl, .inl ⟨kvs4, .inl _, .inl hkd5, rfl, (DH4.val _).symm⟩, _, rfl, ?_⟩
              cases ha : s4.h u with
              | none =>
                refine ⟨_, rfl, _, rfl, ?_⟩
                cases tg with
                | none => exact ⟨s4, kvs4, last, _, _, _, rfl, sm5, hkd5, DH4, by show RInv _ _ (_ ++ []) _ _ _; rw [List.append_nil]; exact RI4⟩
                | some v =>
                  refine ⟨_, rfl, _, rfl, d, (s4.h u).map V.int, rfl, .inl ⟨kvs4, .inl _, .inl hkd5, rfl, (DH4.val _).symm⟩, _, rfl, ?_⟩
                  have hne : raises (u, v, f.getD j 0) s4 = false := by
                    unfold raises
                    rw [ha]
                  have he : (u, v, f.getD j 0) ∈ edgesOf rs f ord := (mem_edges hf).mpr ⟨huo, row, j, hrow, htg, hfj⟩
                  have st := rinv_step he (hfg _ (List.mem_of_getElem? hfj)) RI4
                  unfold relax at st
                  rw [if_neg (by rw [hne]; exact Bool.false_ne_true), if_neg (by rw [hne]; exact Bool.false_ne_true)] at st
                  rw [ha]
                  exact ⟨s4, kvs4, last, _, _, _, rfl, sm5, hkd5, DH4, st⟩
              | some a =>
                have hpf5 : Rd (upd H4 T2 (.tup [V.int (j : Nat), oV tg])) pf (.tup (f.map V.int)) := same_rd (s1.trans sm5) hpf
                refine ⟨_, rfl, _, rfl, d, .int a, rfl, .inl ⟨kvs4, .inl _, .inl hkd5, rfl, (by rw [DH4.val, ha]; rfl)⟩, _, rfl, _, rfl, pf, _, (j : Int), .int (f.getD j 0), rfl, rfl, .inl hpf5, atI_nat (by rw [List.getElem?_map, hfj]; rfl), _, _, rfl, rfl, ?_⟩
                refine ⟨_, rfl, _, rfl, ?_⟩
                cases tg with
                | none => exact ⟨s4, kvs4, last, _, _, _, rfl, sm5, hkd5, DH4, by show RInv _ _ (_ ++ []) _ _ _; rw [List.append_nil]; exact RI4⟩
                | some v =>
                  have he : (u, v, f.getD j 0) ∈ edgesOf rs f ord := (mem_edges hf).mpr ⟨huo, row, j, hrow, htg, hfj⟩
                  have st := rinv_step he (hfg _ (List.mem_of_getElem? hfj)) RI4
                  refine ⟨_, rfl, _, rfl, d, (s4.h u).map V.int, rfl, .inl ⟨kvs4, .inl _, .inl hkd5, rfl, (DH4.val _).symm⟩, _, rfl, ?_⟩
                  rw [ha]
                  refine ⟨_, rfl, d, rfl, .inl ⟨kvs4, .inl hkd5⟩, _, rfl, _, rfl, _, _, rfl, rfl, (s4.h v).map V.int, .inl ⟨kvs4, .inl _, .inl hkd5, rfl, (DH4.val _).symm⟩, _, rfl, ?_⟩
                  have lk : kvs4.length < sizeLine := by
                    have h2 := DH4.len
                    have h3 := RI4.nowle
                    have h4 : (t + 1 - 1) * (edgesOf rs f ord).length ≤ 401 * 1200 := Nat.mul_le_mul (by omega) hE1200
                    have h50 : (ord.take i).length ≤ 400 := by rw [List.length_take]; omega
                    have h5 : (edgesOf rs f (ord.take i)).length ≤ 1200 := Nat.le_trans (edges_len M.row _) (Nat.mul_le_mul M.L3 h50)
                    have h6 := rowEd_len (f := f) (u := u) (r := row.take j) (l := 0)
                    have h7 := M.L3
                    rw [List.length_append] at h3
                    exact Nat.lt_of_le_of_lt (show kvs4.length ≤ 1000001 by omega) (by decide)
                  cases hb : s4.h v with
                  | none =>
                    have hr2 : raises (u, v, f.getD j 0) s4 = true := by
                      unfold raises
                      rw [ha, hb]
                    refine ⟨_, _, rfl, rfl, _, rfl, ite2 (fun h9 => ?_) fun h9 => absurd (decide_eq_true (show a + f.getD j 0 - 1 < a + f.getD j 0 by omega)) h9⟩
                    refine ⟨_, rfl, by show 2 ≤ sizeLine; decide, fun T3 nT3 => ?_⟩
                    have s3T := same_new (o := .tup [V.int (a + f.getD j 0), .bl true]) nT3
                    have hkd6 := s3T _ _ hkd5
                    rw [if_pos hr2] at st
                    refine ⟨T3, _, rfl, SqT.of upd_same, rfl, _, _, rfl, _, rfl, _, rfl, d, _, rfl, DPut.k (k := .inl (v : Int)) hkd6 lk, _, _, rfl, rfl, ?_⟩
                    refine ⟨relax (t + 1) (u, v, f.getD j 0) s4, _, some v, _, _, _, rfl, fun b z e => ?_, upd_same, DH4.put (e := (u, v, f.getD j 0)) hr2 ha, st⟩
                    rw [upd_ne (ne_of_none e hd)]
                    exact s3T _ _ (sm5 _ _ e)
                  | some b =>
                    refine ⟨_, _, rfl, rfl, _, rfl, ite2 (fun h9 => ?_) fun h9 => ?_⟩
                    · have hr2 : raises (u, v, f.getD j 0) s4 = true := by
                        unfold raises
                        rw [ha, hb]
                        exact h9
                      refine ⟨_, rfl, by show 2 ≤ sizeLine; decide, fun T3 nT3 => ?_⟩
                      have s3T := same_new (o := .tup [V.int (a + f.getD j 0), .bl true]) nT3
                      have hkd6 := s3T _ _ hkd5
                      rw [if_pos hr2] at st
                      refine ⟨T3, _, rfl, SqT.of upd_same, rfl, _, _, rfl, _, rfl, _, rfl, d, _, rfl, DPut.k (k := .inl (v : Int)) hkd6 lk, _, _, rfl, rfl, ?_⟩
                      refine ⟨relax (t + 1) (u, v, f.getD j 0) s4, _, some v, _, _, _, rfl, fun b z e => ?_, upd_same, DH4.put (e := (u, v, f.getD j 0)) hr2 ha, st⟩
                      rw [upd_ne (ne_of_none e hd)]
                      exact s3T _ _ (sm5 _ _ e)
                    · have hne : raises (u, v, f.getD j 0) s4 = false := by
                        unfold raises
                        rw [ha, hb]
                        exact Bool.eq_false_iff.mpr h9
                      unfold relax at st
                      rw [if_neg (by rw [hne]; exact Bool.false_ne_true), if_neg (by rw [hne]; exact Bool.false_ne_true)] at st
                      exact ⟨s4, kvs4, last, _, _, _, rfl, sm5, hkd5, DH4, st⟩
            · rintro σ H4 ⟨s4, kvs4, last, y7, y8, y9, rfl, sm4, hkd4, DH4, RI4⟩
              rw [List.length_map, List.take_length, List.drop_length, rowEd, List.nil_append] at RI4
              exact ⟨s4, kvs4, last, _, _, _, _, rfl, sm4, hkd4, DH4, RI4⟩
          · rintro σ H3 ⟨s3, kvs3, last, y6, y7, y8, y9, rfl, sm3, hkd3, DH3, RI3⟩
            have e3 : edgesOf rs f (ord.drop ord.length) = [] := by rw [List.drop_length]; rfl
            rw [List.length_map, List.take_length, e3] at RI3
            refine ⟨⟨t + 1, s3, kvs3, last.isSome, y6, y7, y8, y9, rfl, sm3, hkd3, DH3, by omega, fun hc => ?_, fun hc => ?_⟩, ?_⟩
            · cases last with
              | none => cases hc
              | some v => exact ⟨rinv_next RI3, .inr ⟨v, RI3.lastS v rfl⟩⟩
            · cases last with
              | none => exact RI3
              | some v => cases hc
            · show 500 - ((t : Int) + 1).toNat < 500 - (t : Int).toNat
              omega
        · have h2 : ¬ ((t : Int) ≤ (ord.length : Int)) := fun z => h1 (decide_eq_true (by rw [List.length_map]; exact z))
          refine ⟨_, rfl, true, rfl, kN H2 ord (s1.trans sm) O1 fun p hp => ?_⟩
          rcases h0 with h0 | ⟨v, hv⟩
          · omega
          · exact no_pot (v := v) RI (O1.ends hf) (by omega) O1.ne p hp
    · rintro σ H2 Q1 Q2 hQ ⟨x, e1, b, e2, h⟩
      refine ⟨x, e1, b, e2, ?_⟩
      cases b with
      | false => exact hQ _ _ h
      | true =>
        obtain ⟨x, e1, y, e2, p, ys, e3, e4, i, j, e5, e6, b, e7, q⟩ := h
        exact ⟨x, e1, y, e2, p, ys, e3, e4, i, j, e5, e6, b, e7, hQ _ _ q⟩
end
/-! ### rows and rings of many states, built -/
theorem atI_neg1 {α : Type} {xs : List α} {v : α} (h : xs[xs.length - 1]? = some v) (hp : 1 ≤ xs.length) : atI xs (-1) = some v := by
  have e : ixN xs.length (-1) = some (xs.length - 1) := by
    unfold ixN
    rw [if_neg (by decide), if_pos (by omega)]
    congr 1
    omega
  unfold atI
  rw [e]
  exact h
theorem mok_long {n : Nat} {ring : Bool} (h2 : 2 ≤ n) (h4 : n ≤ 400) : MOk 1 (rsLong n ring) (esLong n) where
  l1 := by rw [long_len (by omega)]; omega
  l400 := by rw [long_len (by omega)]; exact h4
  row := fun row h => by
    unfold rsLong at h
    rcases List.mem_append.mp h with h | h
    · obtain ⟨i, _, rfl⟩ := List.mem_map.mp h
      rfl
    · rw [List.mem_singleton.mp h]
      rfl
  tgt := fun row h v hv => by
    rw [long_len (by omega)]
    unfold rsLong at h
    rcases List.mem_append.mp h with h | h
    · obtain ⟨i, hi, rfl⟩ := List.mem_map.mp h
      rw [List.mem_range] at hi
      have := List.mem_singleton.mp hv
      cases this
      omega
    · rw [List.mem_singleton.mp h] at hv
      have := List.mem_singleton.mp hv
      cases ring with
      | true => cases this; omega
      | false => cases this
  es := by
    rw [long_len (by omega)]
    unfold esLong
    rw [List.length_append, List.length_replicate, List.length_singleton]
    omega
  L1 := Nat.le_refl _
  L3 := by decide
def lrow (i : Nat) : PyData := rowDt [some (i + 1)]
def LInv (K : PySem.W.Frag) (H : Hp) (D : Addr) (j : Nat) (H' : Hp) : Prop := Same H H' ∧ ∃ acc, H' D = some (.lst acc) ∧ acc.length = j ∧ ∀ B : Addr → Prop, TB B H → DtAll (fun b => B b ∨ b = D) K H' acc ((List.range j).map lrow)
theorem dt_lst {B : Addr → Prop} {K : PySem.W.Frag} {H H' : Hp} {D : Addr} {xs : List V} (nD : H D = none) (h1 : H' D = some (.lst xs)) (o : HO) : ∀ {ds : List PyData} {vs : List V}, DtAll (fun b => B b ∨ b = D) K H' vs ds → DtAll (fun b => B b ∨ b = D) K (upd H' D o) vs ds := by
  intro ds vs h
  have kp : Keep (fun b => B b ∨ b = D) H' (upd H' D o) := fun b u nb e => by
    rw [upd_ne (fun z => nb (.inr z))]
    exact e
  exact DtAll.keep kp _ _ h
section
variable {P : Program} {w : World} {K : PySem.W.Frag} {mg : Str → Option Value} {base : Heap}
theorem scLong : FnScope ["_law_many", "_law_is_ring", "_law_rows", "_law_state"] ["_law_many", "_law_is_ring"] (defScope sLong) := ⟨rfl, rfl, rfl, by decide +kernel, rfl, by decide +kernel, by decide +kernel⟩
def spLong (K : PySem.W.Frag) : Sp := fun vs H Q _ => ∃ (n : Nat) (ring : Bool), vs = [.int (n : Int), .bl ring] ∧ 2 ≤ n ∧ n ≤ 400 ∧
  ∀ H' v, Same H H' → (∀ B, TB B H → Dt B K H' v (machDt 1 (rsLong n ring) (esLong n))) → Q v H'
theorem ok_long {f : Addr} {fd : FuncData} (F : Fun K "_law_long" "_law_long" sLong f fd) (T : Mg mg) : FnOk P w K mg base CX0 1 f fd ["_law_many", "_law_is_ring"] (spLong K) := by
  refine F.ok scLong (fun vs H Q E h => ?_) (fun cdv A outer s H vs Q E hr h => ?_)
  · obtain ⟨n, ring, rfl, _⟩ := h
    rfl
  · obtain ⟨n, ring, rfl, n2, n4, k⟩ := h
    refine ⟨_, pss_cons (ps_set (i := 2) scLong.nd rfl (.inl rfl) (pe_op op_cat (pe_lc (own := [("_law_state", 3)]) (g := gName 3) (tt := tYes) rfl scLong.nd (pi_range1 (by rfl) T.range (pa_cons (pe_op op_sub (pv 0) pe_int) pa_nil)) (blkOk_by (N := ["_law_many", "_law_is_ring", "_law_rows", "_law_state"]) (sc := defScope sLong) (by decide +kernel)) (fun _ _ _ _ _ => pg_name (i := 3) scLong.nd rfl (Or.inl rfl)) (fun _ _ _ _ _ => pts_nil) (fun _ _ _ _ _ => pe_tup (pa_cons (pe_op op_add (pv 3) pe_int) pa_nil)))
        (pe_lst (pa_cons (pe_tup (pa_cons (pe_ifExp (pt_val (pv 1)) pe_int pe_non) pa_nil)) pa_nil))))
      (pss_one (ps_ret (pe_tup (pa_cons pe_int (pa_cons (pe_callTy (r := rTup K) call_tuple_of (by rfl) T.tuple PyProof.Rows.boot_tuple (pa_cons (pv 2) pa_nil)) (pa_cons (pe_op op_catS (pe_op op_repS (pe_tup (pa_cons pe_bl pa_nil)) (pe_op op_sub (pv 0) pe_int)) (pe_tup (pa_cons pe_bl pa_nil))) pa_nil)))))), ?_⟩
    refine ⟨_, rfl, _, _, rfl, rfl, ((n : Int) - 1), rfl, by omega, by omega, fun D nD => ?_⟩
    refine lc_range (lo := 0) (n := ((n : Int) - 1).toNat) (LInv K H D) ⟨same_new nD, [], upd_same, rfl, fun B tb => .nil⟩ ?_ ?_
    · rintro j H1 hj ⟨sm, acc, hD1, hl, hB⟩
      refine ⟨rfl, _, rfl, _, _, rfl, rfl, by show 1 ≤ sizeLine; decide, fun t nt => ?_⟩
      have st := same_new (o := .tup [.int (0 + (j : Int) + 1)]) nt
      refine ⟨acc, st _ _ hD1, small1000 (by omega), fun b u e => ?_, acc ++ [.ref t], upd_same, by rw [List.length_append, hl]; rfl, fun B tb => ?_⟩
      · rw [upd_ne (ne_of_none e nD)]
        exact st _ _ (sm _ _ e)
      · have ntD : t ≠ D := fun z => by
          rw [← z] at hD1
          rw [nt] at hD1
          cases hD1
        refine dt_lst nD (st _ _ hD1) _ ?_
        rw [List.range_succ, List.map_append]
        have tb2 : TB (fun b => B b ∨ b = D) H1 := fun b z e => by
          rcases z with z | z
          · exact tb_same sm tb b z e
          · rw [z, hD1] at e
            cases e
        refine (same_all st (hB B tb)).append (.cons (.tup (tb_off tb2 nt) (.inl upd_same) ?_) .nil)
        · show DtAll _ K _ [V.int (0 + (j : Int) + 1)] [PyData.int ((j + 1 : Nat) : Int)]
          rw [show (0 + (j : Int) + 1) = ((j + 1 : Nat) : Int) by omega]
          exact .cons (.int _) .nil
    · rintro H1 ⟨sm, acc, hD1, hl, hB⟩
      cases ring with
      | true =>
        refine ⟨_, rfl, true, rfl, by show 1 ≤ sizeLine; decide, fun t nt => ?_⟩
        have st := same_new (o := .tup [.int 0]) nt
        refine ⟨by show 1 ≤ sizeLine; decide, fun l nl => ?_⟩
        have sl := same_new (o := .lst [.ref t]) nl
        have hlen : acc.length + 1 ≤ sizeLine := sz_of (by rw [hl]; omega)
        refine ⟨D, l, acc, [.ref t], rfl, rfl, sl _ _ (st _ _ hD1), upd_same, hlen, fun p np => ?_⟩
        have sp := same_new (o := .lst (acc ++ [.ref t])) np
        refine ⟨_, rfl, p, _, rfl, .inl ⟨SqL.of upd_same, fun tr ntr => ?_⟩⟩
        have str := same_new (o := .tup (acc ++ [.ref t])) ntr
        have s5 := (sm.trans st).trans ((sl.trans sp).trans str)
        have h5t : Rd (upd (upd (upd (upd H1 t (.tup [.int 0])) l (.lst [.ref t])) p (.lst (acc ++ [.ref t]))) tr (.tup (acc ++ [.ref t]))) t (.tup [.int 0]) := same_rd ((sl.trans sp).trans str) (.inl upd_same)
        have s15 := st.trans ((sl.trans sp).trans str)
        have h5r : Rd (upd (upd (upd (upd H1 t (.tup [.int 0])) l (.lst [.ref t])) p (.lst (acc ++ [.ref t]))) tr (.tup (acc ++ [.ref t]))) tr (.tup (acc ++ [.ref t])) := .inl upd_same
        have n5t : ∀ {B : Addr → Prop}, TB B H → ¬ B t := fun tb => tb_off (tb_same sm tb) nt
        have n5r : ∀ {B : Addr → Prop}, TB B H → ¬ B tr := fun tb => tb_off (tb_same (sm.trans (st.trans (sl.trans sp))) tb) ntr
        generalize upd (upd (upd (upd H1 t (.tup [.int 0])) l (.lst [.ref t])) p (.lst (acc ++ [.ref t]))) tr (.tup (acc ++ [.ref t])) = G5 at *
        refine ⟨by show 1 ≤ sizeLine; decide, fun f1 nf1 => ?_⟩
        have s6 := same_new (o := .tup [.bl false]) nf1
        refine ⟨_, rfl, _, _, rfl, rfl, f1, (n : Int) - 1, _, rfl, rfl, .inl upd_same, List.cons_ne_nil _ _, by omega, by omega, by show 1 ≤ 1000; decide, fun q H7 s7 hq wq => ?_⟩
        rw [show (List.replicate ((n : Int) - 1).toNat [V.bl false]).flatten = (List.replicate (n - 1) false).map V.bl by rw [show ((n : Int) - 1).toNat = n - 1 by omega]; simp] at hq
        refine ⟨by show 1 ≤ sizeLine; decide, fun u nu => ?_⟩
        have s8 := same_new (o := .tup [.bl true]) nu
        refine ⟨q, u, _, _, rfl, rfl, same_rd s8 hq, .inl upd_same, sz_of (by rw [List.length_map, List.length_replicate, List.length_singleton]; omega), fun q2 H9 s9 hq2 w2 => ?_⟩
        refine ⟨by show 3 ≤ sizeLine; decide, fun z nz => ?_⟩
        have sz := same_new (o := .tup [.int 1, .ref tr, .ref q2]) nz
        have s59 := (s6.trans s7).trans ((s8.trans s9).trans sz)
        refine k _ (.ref z) (s5.trans s59) fun B tb => ?_
        have tb5 := tb_same s5 tb
        have tb6 := tb_same s6 tb5
        have tb7 := tb_same s7 tb6
        have nq := nb_of tb6 (tb_off tb5 nf1) wq
        have nq2 := nb_of2 (tb_same s8 tb7) nq (tb_off tb7 nu) w2
        have nz' := tb_off (tb_same (s8.trans s9) tb7) nz
        have hA := (hB B tb).weak (B' := B) (fun b hb => .inl hb)
        have er : (rsLong n true).map rowDt = (List.range (n - 1)).map lrow ++ [rowDt [some 0]] := by
          unfold rsLong
          rw [List.map_append, List.map_map]
          rfl
        rw [show ((n : Int) - 1).toNat = n - 1 by omega] at hA
        refine .tup nz' (.inl upd_same) (.cons (.int _) (.cons (.tup (n5r tb) (same_rd s59 h5r) ?_) (.cons (.tup nq2 (same_rd sz hq2) ?_) .nil)))
        · rw [er]
          exact (same_all (s15.trans s59) hA).append (.cons (.tup (n5t tb) (same_rd s59 h5t) (.cons (.int _) .nil)) .nil)
        · have := dt_cs (B := B) (K := K) (H := upd H9 z (.tup [.int 1, .ref tr, .ref q2])) (fun x => Dt.bl x) (esLong n)
          unfold esLong at this ⊢
          rw [List.map_append] at this
          exact this
      | false =>
        refine ⟨_, rfl, false, rfl, by show 1 ≤ sizeLine; decide, fun t nt => ?_⟩
        have st := same_new (o := .tup [.non]) nt
        refine ⟨by show 1 ≤ sizeLine; decide, fun l nl => ?_⟩
        have sl := same_new (o := .lst [.ref t]) nl
        have hlen : acc.length + 1 ≤ sizeLine := sz_of (by rw [hl]; omega)
        refine ⟨D, l, acc, [.ref t], rfl, rfl, sl _ _ (st _ _ hD1), upd_same, hlen, fun p np => ?_⟩
        have sp := same_new (o := .lst (acc ++ [.ref t])) np
        refine ⟨_, rfl, p, _, rfl, .inl ⟨SqL.of upd_same, fun tr ntr => ?_⟩⟩
        have str := same_new (o := .tup (acc ++ [.ref t])) ntr
        have s5 := (sm.trans st).trans ((sl.trans sp).trans str)
        have h5t : Rd (upd (upd (upd (upd H1 t (.tup [.non])) l (.lst [.ref t])) p (.lst (acc ++ [.ref t]))) tr (.tup (acc ++ [.ref t]))) t (.tup [.non]) := same_rd ((sl.trans sp).trans str) (.inl upd_same)
        have s15 := st.trans ((sl.trans sp).trans str)
        have h5r : Rd (upd (upd (upd (upd H1 t (.tup [.non])) l (.lst [.ref t])) p (.lst (acc ++ [.ref t]))) tr (.tup (acc ++ [.ref t]))) tr (.tup (acc ++ [.ref t])) := .inl upd_same
        have n5t : ∀ {B : Addr → Prop}, TB B H → ¬ B t := fun tb => tb_off (tb_same sm tb) nt
        have n5r : ∀ {B : Addr → Prop}, TB B H → ¬ B tr := fun tb => tb_off (tb_same (sm.trans (st.trans (sl.trans sp))) tb) ntr
        generalize upd (upd (upd (upd H1 t (.tup [.non])) l (.lst [.ref t])) p (.lst (acc ++ [.ref t]))) tr (.tup (acc ++ [.ref t])) = G5 at *
        refine ⟨by show 1 ≤ sizeLine; decide, fun f1 nf1 => ?_⟩
        have s6 := same_new (o := .tup [.bl false]) nf1
        refine ⟨_, rfl, _, _, rfl, rfl, f1, (n : Int) - 1, _, rfl, rfl, .inl upd_same, List.cons_ne_nil _ _, by omega, by omega, by show 1 ≤ 1000; decide, fun q H7 s7 hq wq => ?_⟩
        rw [show (List.replicate ((n : Int) - 1).toNat [V.bl false]).flatten = (List.replicate (n - 1) false).map V.bl by rw [show ((n : Int) - 1).toNat = n - 1 by omega]; simp] at hq
        refine ⟨by show 1 ≤ sizeLine; decide, fun u nu => ?_⟩
        have s8 := same_new (o := .tup [.bl true]) nu
        refine ⟨q, u, _, _, rfl, rfl, same_rd s8 hq, .inl upd_same, sz_of (by rw [List.length_map, List.length_replicate, List.length_singleton]; omega), fun q2 H9 s9 hq2 w2 => ?_⟩
        refine ⟨by show 3 ≤ sizeLine; decide, fun z nz => ?_⟩
        have sz := same_new (o := .tup [.int 1, .ref tr, .ref q2]) nz
        have s59 := (s6.trans s7).trans ((s8.trans s9).trans sz)
        refine k _ (.ref z) (s5.trans s59) fun B tb => ?_
        have tb5 := tb_same s5 tb
        have tb6 := tb_same s6 tb5
        have tb7 := tb_same s7 tb6
        have nq := nb_of tb6 (tb_off tb5 nf1) wq
        have nq2 := nb_of2 (tb_same s8 tb7) nq (tb_off tb7 nu) w2
        have nz' := tb_off (tb_same (s8.trans s9) tb7) nz
        have hA := (hB B tb).weak (B' := B) (fun b hb => .inl hb)
        have er : (rsLong n false).map rowDt = (List.range (n - 1)).map lrow ++ [rowDt [none]] := by
          unfold rsLong
          rw [List.map_append, List.map_map]
          rfl
        rw [show ((n : Int) - 1).toNat = n - 1 by omega] at hA
        refine .tup nz' (.inl upd_same) (.cons (.int _) (.cons (.tup (n5r tb) (same_rd s59 h5r) ?_) (.cons (.tup nq2 (same_rd sz hq2) ?_) .nil)))
        · rw [er]
          exact (same_all (s15.trans s59) hA).append (.cons (.tup (n5t tb) (same_rd s59 h5t) (.cons .non .nil)) .nil)
        · have := dt_cs (B := B) (K := K) (H := upd H9 z (.tup [.int 1, .ref tr, .ref q2])) (fun x => Dt.bl x) (esLong n)
          unfold esLong at this ⊢
          rw [List.map_append] at this
          exact this
end
/-! ### whether heights are right for rows and rings of many states -/
theorem nodesAll_hs : ∀ hs : List (Option Int), nodesAll (hs.map hD) = hs.length
  | [] => by rw [List.map_nil, nodesAll_nil]; rfl
  | x :: hs => by
    rw [List.map_cons, nodesAll_cons, nodesAll_hs hs, List.length_cons]
    cases x <;> (show nodes _ + _ = _; rw [hD, nodes]; omega)
theorem nodes_hs {hs : List (Option Int)} : nodes (hsDt hs) = 1 + hs.length := by
  unfold hsDt
  rw [nodes_tup, nodesAll_hs]
theorem dt_hs {B : Addr → Prop} {K : PySem.W.Frag} {H : Hp} {p : Addr} {hs : List (Option Int)} (nb : ¬ B p) (h : Rd H p (.tup (hs.map hV))) : Dt B K H (.ref p) (hsDt hs) := .tup nb h (dt_cs h_cs hs)
theorem bl_ne_self (b : Bool) : (!decide (V.bl b = V.bl b)) = false := by
  rw [decide_eq_true rfl]
  rfl
def Bno : Addr → Prop := fun _ => False
section
variable {P : Program} {w : World} {K : PySem.W.Frag} {mg : Str → Option Value} {base : Heap}
theorem scLongR : FnScope ["_law_deck_here", "_law_many", "_law_own", "_law_least", "_law_top", "_law_machine_here", "_law_is_there", "_law_bound", "_law_due", "_law_found", "_law_state"] ["_law_deck_here"] (defScope sLongR) := ⟨rfl, rfl, rfl, by decide +kernel, rfl, by decide +kernel, by decide +kernel⟩
def spLongR : Sp := fun vs H Q _ => ∃ (a c : Addr) (cells : List Int) (n : Int), vs = [.ref a] ∧ DeckAt a c cells n H ∧ 0 ≤ n ∧ n ≤ 900000 ∧
  ∀ (H' : Hp) (cells' : List Int) (n' : Int), DeckAt a c cells' n' H' → n ≤ n' → n' ≤ n + 4 → Keep (Bd a c) H H' → Q (.bl true) H'
theorem ok_longR {f fD fO fL fT fH : Addr} {fd fdD fdO fdL fdT fdH : FuncData} (F : Fun K "_law_long_right" "_law_long_right" sLongR f fd) (D : FnOk P w K mg base CX0 1 fD fdD ["_law_deck_here", "_law_many"] spDraw) (FD : Fun K "_law_draw" "_law_draw" sDraw fD fdD) (bD : Binds K fdD ["_law_deck_here", "_law_many"] []) (gD : mg "_law_draw" = some (.ref fD))
    (O : FnOk P w K mg base CX0 2 fO fdO ["_law_deck_here", "_law_items"] (spOne K)) (FO : Fun K "_law_one" "_law_one" sOne fO fdO) (bO : Binds K fdO ["_law_deck_here", "_law_items"] []) (gO : mg "_law_one" = some (.ref fO))
    (LG : FnOk P w K mg base CX0 1 fL fdL ["_law_many", "_law_is_ring"] (spLong K)) (FL : Fun K "_law_long" "_law_long" sLong fL fdL) (bL : Binds K fdL ["_law_many", "_law_is_ring"] []) (gL : mg "_law_long" = some (.ref fL))
    (HT : FnOk P w K mg base CX0 3 fT fdT ["machine", "form", "bound"] (spHeights K)) (FT : Fun K "heights" "heights" sHeights fT fdT) (bT : Binds K fdT ["machine", "form", "bound"] []) (gT : mg "heights" = some (.ref fT))
    (HH : FnOk P w K mg base CX0 2 fH fdH ["machine", "form", "bound", "value"] (spHold K)) (FH : Fun K "heights_hold" "heights_hold" sHold fH fdH) (bH : Binds K fdH ["machine", "form", "bound", "value"] []) (gH : mg "heights_hold" = some (.ref fH)) (T : Mg mg) :
    FnOk P w K mg base CX0 4 f fd ["_law_deck_here"] spLongR := by
  refine F.ok scLongR (fun vs H Q E h => ?_) (fun cdv A outer s H vs Q E hr h => ?_)
  · obtain ⟨a, c, cells, n, rfl, _⟩ := h
    rfl
  · obtain ⟨a, c, cells, n, rfl, dk, n0, n1, k⟩ := h
    refine ⟨_, pss_cons (ps_asg (pe_tup (pa_cons (pe_call O (hr.mono (by decide)) (by rfl) gO FO.kp bO .nil pass0 (pa_cons (pv 0) (pa_cons (pe_lst (pa_cons pe_int (pa_cons pe_int (pa_cons pe_int (pa_cons pe_int (pa_cons (pe_op op_add pe_int (pe_call D (hr.mono (by decide)) (by rfl) gD FD.kp bD .nil pass0 (pa_cons (pv 0) (pa_cons pe_int pa_nil)))) pa_nil)))))) pa_nil))) (pa_cons (pe_op op_sub (pe_call D (hr.mono (by decide)) (by rfl) gD FD.kp bD .nil pass0 (pa_cons (pv 0) (pa_cons pe_int pa_nil))) pe_int) pa_nil))) (pg_tup rfl (pgs_cons (pg_name (i := 1) scLongR.nd rfl (.inl rfl)) (pgs_cons (pg_name (i := 2) scLongR.nd rfl (.inr rfl)) pgs_nil))))
      (pss_cons (ps_par (i := 3) (j := 4) rfl scLongR.nd rfl rfl (by decide) rfl rfl (pa_cons (pe_callTy (r := rTup K) call_tuple_of (by rfl) T.tuple PyProof.Rows.boot_tuple (pa_cons (pe_lc (own := [("_law_state", 10)]) (g := gName 10) (tt := tYes) rfl scLongR.nd (pi_range1 (by rfl) T.range (pa_cons (pv 1) pa_nil)) (blkOk_by (N := ["_law_deck_here", "_law_many", "_law_own", "_law_least", "_law_top", "_law_machine_here", "_law_is_there", "_law_bound", "_law_due", "_law_found", "_law_state"]) (sc := defScope sLongR) (by decide +kernel)) (fun _ _ _ _ _ => pg_name (i := 10) scLongR.nd rfl (Or.inl rfl)) (fun _ _ _ _ _ => pts_nil) (fun _ _ _ _ _ => pe_op op_mul (pv 2) (pv 10))) pa_nil)) (pa_cons (pe_op op_mul (pv 2) (pe_op op_sub (pv 1) pe_int)) pa_nil)) (by rfl))
      (pss_cons (ps_for PassesOwn.never rfl (pi_list (pe_lst (pa_cons (pe_call LG (hr.mono (by decide)) (by rfl) gL FL.kp bL .nil pass0 (pa_cons (pv 1) (pa_cons pe_bl pa_nil))) (pa_cons (pe_call LG (hr.mono (by decide)) (by rfl) gL FL.kp bL .nil pass0 (pa_cons (pv 1) (pa_cons pe_bl pa_nil))) pa_nil)))) (pg_name (i := 5) scLongR.nd rfl (.inl rfl))
        (pss_cons (ps_set (i := 6) scLongR.nd rfl (.inl rfl) (pe_or (pe_cmpR op_lt (pv 2) pe_int (nomark _)) (pe_one (pe_cmpR (op_eqD hr.units) (pe_ix (r := rIxT K) ix_tup (pe_ix (r := rIxT K) ix_tup (pv 5) pe_int (fun _ _ => rfl)) (pe_un un_neg pe_int) (fun _ _ => rfl)) (pe_tup (pa_cons pe_non pa_nil)) (nomark _)))))
        (pss_one (ps_for PassesOwn.never rfl (pi_list (pe_lst (pa_cons (pv 4) (pa_cons (pe_op op_sub (pv 4) pe_int) (pa_cons (pe_op op_add (pv 4) pe_int) pa_nil))))) (pg_name (i := 7) scLongR.nd rfl (.inl rfl))
          (pss_cons (ps_set (i := 8) scLongR.nd rfl (.inl rfl) (pe_and (pv 6) (pe_one (pe_cmpR op_ge (pv 7) (pv 4) (nomark _)))))
          (pss_cons (ps_set (i := 9) scLongR.nd rfl (.inl rfl) (pe_call HT hr (by rfl) gT FT.kp bT .nil pass0 (pa_cons (pv 5) (pa_cons (pe_tup (pa_cons (pv 2) pa_nil)) (pa_cons (pv 7) pa_nil)))))
          (pss_cons (ps_if (PW.pt (pw_or (pt_cmpR op_ne (pe_cmp (pc_notN (pv 9))) (pv 8) (nomark _)) (pw_or1 (pt_cmpR op_ne (pe_call HH (hr.mono (by decide)) (by rfl) gH FH.kp bH .nil pass0 (pa_cons (pv 5) (pa_cons (pe_tup (pa_cons (pv 2) pa_nil)) (pa_cons (pv 7) (pa_cons (pv 3) pa_nil))))) (pv 8) (nomark _))))) (pss_one (ps_ret pe_bl)) pss_nil)
          (pss_one (ps_if (PW.pt (pw_and (pt_val (pv 8)) (pw_and1 (pt_cmpR op_notBl (pe_call HH (hr.mono (by decide)) (by rfl) gH FH.kp bH .nil pass0 (pa_cons (pv 5) (pa_cons (pe_tup (pa_cons (pv 2) pa_nil)) (pa_cons (pv 7) (pa_cons (pv 9) pa_nil))))) pe_bl (nomark _))))) (pss_one (ps_ret pe_bl)) pss_nil)))))))))
      (pss_one (ps_ret pe_bl)))), ?_⟩
    refine ⟨_, rfl, _, rfl, a, c, cells, n, 399, rfl, dk, by decide, by decide, n0, by omega, fun H1 cells1 r r0 r1 dk1 k1 => ?_⟩
    refine ⟨_, _, rfl, rfl, by show 5 ≤ sizeLine; decide, fun W hW => ?_⟩
    have dk2 := deck_new (o := .lst [.int 400, .int 257, .int 100, .int 65, .int (2 + r)]) dk1 hW
    have nW := deck_off dk1 hW
    have kW := keep_new (B := Bd a c) (o := .lst [.int 400, .int 257, .int 100, .int 65, .int (2 + r)]) hW
    refine ⟨a, c, W, cells1, n + 1, _, rfl, dk2, by omega, by omega, SqL.of upd_same, nW, List.cons_ne_nil _ _, by show 5 ≤ 1000; decide, fun H2 cells2 x hx dk3 k2 => ?_⟩
    obtain ⟨N, rfl, hN2, hN4⟩ : ∃ N : Nat, x = .int (N : Int) ∧ 2 ≤ N ∧ N ≤ 400 := by
      simp only [List.mem_cons, List.not_mem_nil, or_false] at hx
      rcases hx with h | h | h | h | h
      · exact ⟨400, h, by decide, by decide⟩
      · exact ⟨257, h, by decide, by decide⟩
      · exact ⟨100, h, by decide, by decide⟩
      · exact ⟨65, h, by decide, by decide⟩
      · refine ⟨(2 + r).toNat, ?_, by omega, by omega⟩
        rw [h, Int.toNat_of_nonneg (by omega)]
    have k02 : Keep (Bd a c) H H2 := (k1.trans kW).trans k2
    clear k1 kW k2 dk1 dk2 nW
    refine ⟨_, rfl, a, c, cells2, n + 1 + 1, 5, rfl, dk3, by decide, by decide, by omega, by omega, fun H3 cells3 r2 r20 r25 dk4 k3 => ?_⟩
    refine ⟨_, _, rfl, rfl, by show 2 ≤ sizeLine; decide, fun Tp nTp => ?_⟩
    have dk5 := deck_new (o := .tup [.int (N : Int), .int (r2 - 2)]) dk4 nTp
    have k05 := (k02.trans k3).trans (keep_new (B := Bd a c) (o := .tup [.int (N : Int), .int (r2 - 2)]) nTp)
    refine ⟨Tp, _, rfl, SqT.of upd_same, rfl, _, _, rfl, _, _, rfl, rfl, ?_⟩
    obtain ⟨own, ho⟩ : ∃ own, own = r2 - 2 := ⟨_, rfl⟩
    have hown : -2 ≤ own ∧ own ≤ 2 := by omega
    dsimp only
    rw [← ho] at dk5 k05 ⊢
    generalize upd H3 Tp (HO.tup [V.int (N : Int), V.int own]) = H5 at *
    clear k02 k3 dk3 dk4 ho r20 r25
    refine ⟨_, rfl, (N : Int), rfl, by omega, by omega, fun D0 nD => ?_⟩
    have hrz : (List.range N).length < sizeLine := small1000 (by rw [List.length_range]; omega)
    refine lc_range (lo := 0) (n := (N : Int).toNat) (NInv (fun i : Nat => V.int (own * (i : Int))) (List.range N) H5 D0) (nstart nD) ?_ ?_
    · rintro j H6 hj p
      refine ⟨rfl, _, rfl, _, rfl, _, _, rfl, rfl, .inl ⟨by omega, by omega⟩, nturn hrz nD (List.getElem?_range (by omega)) p (L2.Same.refl H6) _ ?_⟩
      rw [Int.zero_add]
    · rintro H6 p
      obtain ⟨s6, hD6⟩ := nend (by rw [List.length_range, Int.toNat_natCast]) p
      refine ⟨D0, _, rfl, .inl ⟨SqL.of hD6, fun lq nlq => ?_⟩⟩
      have sl := same_new (o := .tup ((List.range N).map fun i : Nat => V.int (own * (i : Int)))) nlq
      have dk6 := deck_same (s6.trans sl) dk5
      have nlB : ¬ Bd a c lq := deck_off (deck_same s6 dk5) nlq
      have k06 := k05.trans (Keep.same (s6.trans sl))
      have hlq : Rd (upd H6 lq (.tup ((List.range N).map fun i : Nat => V.int (own * (i : Int))))) lq (.tup ((hsLong N own).map hV)) := by
        refine .inl ?_
        rw [upd_same]
        unfold hsLong
        rw [List.map_map]
        rfl
      generalize upd H6 lq (HO.tup ((List.range N).map fun i : Nat => V.int (own * (i : Int)))) = G at *
      refine ⟨_, rfl, _, rfl, _, _, rfl, rfl, _, _, rfl, rfl, .inl ⟨by omega, by omega⟩, _, _, rfl, ?_⟩
      refine ⟨_, rfl, N, false, rfl, hN2, hN4, fun G1 v1 sG1 hB1 => ?_⟩
      refine ⟨_, rfl, N, true, rfl, hN2, hN4, fun G2 v2 sG2 hB2 => ?_⟩
      refine ⟨by show 2 ≤ sizeLine; decide, fun ml nml => ?_⟩
      have tbG := tb_deck dk6
      have sml := same_new (o := .lst [v1, v2]) nml
      have m1 := same_dt (sG2.trans sml) (hB1 _ tbG)
      have m2 := same_dt sml (hB2 _ (tb_same sG1 tbG))
      have hml : (upd G2 ml (.lst [v1, v2])) ml = some (.lst [v1, v2]) := upd_same
      have sA := sG1.trans (sG2.trans sml)
      have dkA := deck_same sA dk6
      have kA := k06.trans (Keep.same sA)
      have hlA := same_rd sA hlq
      generalize upd G2 ml (HO.lst [v1, v2]) = G3 at *
      clear hB1 hB2 sG1 sG2 sml nml tbG
      refine ⟨ml, rfl, ⟨_, SqL.of hml⟩, ?_⟩
      refine for_list (K := K) (a := ml) (xs := [v1, v2]) (fun i σ H' => (∃ y5 y6 y7 y8 y9 : Option V, σ = [some (.ref a), some (.int (N : Int)), some (.int own), some (.ref lq), some (.int (own * ((N : Int) - 1))), y5, y6, y7, y8, y9, none]) ∧ Same G3 H')
        ⟨⟨_, _, _, _, _, rfl⟩, L2.Same.refl G3⟩ (fun i σ H' _ q => SqL.of (q.2 _ _ hml)) ?_ ?_
      · rintro i x σ G4 hx ⟨⟨y5, y6, y7, y8, y9, rfl⟩, sm⟩
        obtain ⟨ring, hdm⟩ : ∃ ring, Dt (Bd a c) K G4 x (machDt 1 (rsLong N ring) (esLong N)) := by
          match i, hx with
          | 0, hx => cases hx; exact ⟨false, same_dt sm m1⟩
          | 1, hx => cases hx; exact ⟨true, same_dt sm m2⟩
          | i + 2, hx => cases hx
        have hlG := same_rd sm hlA
        obtain ⟨mm, pr, pe, rvs, ex, nmm, MM⟩ := dt_mach hdm
        subst ex
        have MOK : MOk 1 (rsLong N ring) (esLong N) := mok_long hN2 hN4
        have hrl : (rsLong N ring).length = N := long_len (by omega)
        have hrv := MM.hl
        rw [hrl] at hrv
        obtain ⟨q, hq1, hq2⟩ := MM.row (N - 1) [if ring then some 0 else none] (by
          unfold rsLong
          rw [List.getElem?_append_right (by rw [List.length_map, List.length_range]; omega), List.length_map, List.length_range, Nat.sub_self]
          rfl)
        have hlast : atI rvs (-1) = some (.ref q) := atI_neg1 (by rw [hrv]; exact hq1) (by omega)
        have hx1 : atI [V.int ((1 : Nat) : Int), .ref pr, .ref pe] 1 = some (.ref pr) := atI_nat (j := 1) rfl
        refine ⟨_, rfl, _, _, rfl, rfl, _, rfl, ?_⟩
        have hbnd : ∀ g ∈ [own], -100 ≤ g ∧ g ≤ 100 := fun g hg => by
          rw [List.mem_singleton.mp hg]
          omega
        refine ite2 (fun h1 => ?_) fun h1 => ?_
        · have h1 := of_decide_eq_true h1
          have sm45 := L2.Same.refl G4
          have hdm5' := same_dt sm45 hdm
          have hlG5 := same_rd sm45 hlG
          have sm5 := sm.trans sm45
          clear hlG
          have hG5 : ∃ G5, G5 = G4 := ⟨_, rfl⟩
          obtain ⟨G5, hG5⟩ := hG5
          rw [← hG5] at sm5 hdm5' hlG5 ⊢
          refine ⟨_, rfl, _, rfl, _, _, rfl, rfl, _, rfl, _, _, rfl, rfl, by show 3 ≤ sizeLine; decide, fun bl nbl => ?_⟩
          refine ⟨bl, rfl, ⟨_, SqL.of upd_same⟩, ?_⟩
          have sbl := same_new (o := .lst [.int (own * ((N : Int) - 1)), .int (own * ((N : Int) - 1) - 1), .int (own * ((N : Int) - 1) + 1)]) nbl
          refine for_list (K := K) (a := bl) (xs := [.int (own * ((N : Int) - 1)), .int (own * ((N : Int) - 1) - 1), .int (own * ((N : Int) - 1) + 1)]) (fun i σ H' => (∃ y7 y8 y9 : Option V, σ = [some (.ref a), some (.int (N : Int)), some (.int own), some (.ref lq), some (.int (own * ((N : Int) - 1))), some (.ref mm), some (.bl true), y7, y8, y9, none]) ∧ Same (upd G5 bl (.lst [.int (own * ((N : Int) - 1)), .int (own * ((N : Int) - 1) - 1), .int (own * ((N : Int) - 1) + 1)])) H')
            ⟨⟨_, _, _, rfl⟩, L2.Same.refl _⟩ (fun i σ H' _ q => SqL.of (q.2 _ _ upd_same)) ?_ ?_
          · rintro i x σ GA hx ⟨⟨y7, y8, y9, rfl⟩, s5⟩
            obtain ⟨bd, rfl⟩ : ∃ bd : Int, x = .int bd := by
              match i, hx with
              | 0, hx => exact ⟨_, (Option.some.inj hx).symm⟩
              | 1, hx => exact ⟨_, (Option.some.inj hx).symm⟩
              | 2, hx => exact ⟨_, (Option.some.inj hx).symm⟩
              | i + 3, hx => cases hx
            have hdm4 := same_dt sbl hdm5'
            have hdm5 := same_dt s5 hdm4
            have hlG := same_rd sbl hlG5
            refine ⟨_, rfl, true, rfl, _, rfl, _, rfl, _, _, rfl, rfl, ?_⟩
            dsimp only
            by_cases hge : bd ≥ own * ((N : Int) - 1)
            · rw [decide_eq_true hge]
              have hd : dueLong N ring own bd := ⟨.inl h1, hge⟩
              have hBT := hsB_iff.mpr ((long_least (ring := ring) (own := own) (bd := bd) hN2).mpr hd)
              refine ⟨_, rfl, _, rfl, by show 1 ≤ sizeLine; decide, fun T1 nT1 => ?_⟩
              have sT1 := same_new (o := .tup [.int own]) nT1
              refine ⟨_, rfl, Bd a c, Bno, .ref mm, .ref T1, 1, rsLong N ring, esLong N, [own], bd, rfl, same_dt (s5.trans sT1) hdm4, .tup (fun z => z) (.inl upd_same) (.cons (.int own) .nil), MOK, rfl, hbnd, fun G6 s6 hno => absurd ((long_least hN2).mpr hd) (hno _), fun G6 p hs s6 hp hp2 V hb => ?_⟩
              refine ⟨_, rfl, _, rfl, rfl, _, rfl, ite2 (fun h => absurd h (by simp)) fun _ => ?_⟩
              have s6x := sT1.trans s6
              refine ⟨_, rfl, _, rfl, by show 1 ≤ sizeLine; decide, fun T2 nT2 => ⟨_, rfl, _, rfl, ?_⟩⟩
              have s7a := s6x.trans (same_new (o := .tup [.int own]) nT2)
              refine ⟨Bd a c, Bno, Bno, .ref mm, .ref T2, .ref lq, 1, rsLong N ring, esLong N, [own], bd, hsDt (hsLong N own), rfl, same_dt s7a hdm5, .tup (fun z => z) (.inl upd_same) (.cons (.int own) .nil), dt_hs (fun z => z) (same_rd (s5.trans s7a) hlG), MOK, rfl, (by rw [nodes_hs]; unfold hsLong; rw [List.length_map, List.length_range]; omega), fun G7 s7 => ?_⟩
              rw [hBT]
              refine ⟨_, rfl, rfl, _, rfl, ite2 (fun h => absurd h (by decide)) fun _ => ?_⟩
              refine ⟨_, rfl, true, rfl, ?_⟩
              have hsl : hs.length = N := by rw [V.1]; exact hrl
              have s67 := (same_new (o := .tup [.int own]) nT2).trans s7
              have s6y := s6x.trans s67
              refine ⟨_, rfl, _, rfl, by show 1 ≤ sizeLine; decide, fun T2' nT2' => ⟨_, rfl, _, rfl, ?_⟩⟩
              have s8a := s6y.trans (same_new (o := .tup [.int own]) nT2')
              refine ⟨Bd a c, Bno, Bno, .ref mm, .ref T2', .ref p, 1, rsLong N ring, esLong N, [own], bd, hsDt hs, rfl, same_dt s8a hdm5, .tup (fun z => z) (.inl upd_same) (.cons (.int own) .nil), dt_hs (fun z => z) (same_rd (s67.trans (same_new (o := .tup [.int own]) nT2')) (.inl hp2)), MOK, rfl, (by rw [nodes_hs]; omega), fun G8 s8 => ?_⟩
              rw [(hsB_iff.mpr V)]
              refine ⟨true, true, rfl, rfl, _, rfl, ite2 (fun h => absurd h (by decide)) fun _ => ?_⟩
              exact ⟨⟨_, _, _, rfl⟩, s5.trans (s8a.trans s8)⟩
            · rw [decide_eq_false hge]
              have hd : ¬ dueLong N ring own bd := fun z => hge z.2
              have hBF := hsB_not (fun V => hd ((long_least (ring := ring) (own := own) (bd := bd) hN2).mp V))
              refine ⟨_, rfl, _, rfl, by show 1 ≤ sizeLine; decide, fun T1 nT1 => ?_⟩
              have sT1 := same_new (o := .tup [.int own]) nT1
              refine ⟨_, rfl, Bd a c, Bno, .ref mm, .ref T1, 1, rsLong N ring, esLong N, [own], bd, rfl, same_dt (s5.trans sT1) hdm4, .tup (fun z => z) (.inl upd_same) (.cons (.int own) .nil), MOK, rfl, hbnd, fun G6 s6 hno => ?_, fun G6 p hs s6 hp hp2 V hb => absurd V (long_none hN2 hd hs)⟩
              refine ⟨_, rfl, _, rfl, rfl, _, rfl, ite2 (fun h => absurd h (by decide)) fun _ => ?_⟩
              have s6x := sT1.trans s6
              refine ⟨_, rfl, _, rfl, by show 1 ≤ sizeLine; decide, fun T2 nT2 => ⟨_, rfl, _, rfl, ?_⟩⟩
              have s7a := s6x.trans (same_new (o := .tup [.int own]) nT2)
              refine ⟨Bd a c, Bno, Bno, .ref mm, .ref T2, .ref lq, 1, rsLong N ring, esLong N, [own], bd, hsDt (hsLong N own), rfl, same_dt s7a hdm5, .tup (fun z => z) (.inl upd_same) (.cons (.int own) .nil), dt_hs (fun z => z) (same_rd (s5.trans s7a) hlG), MOK, rfl, (by rw [nodes_hs]; unfold hsLong; rw [List.length_map, List.length_range]; omega), fun G7 s7 => ?_⟩
              rw [hBF]
              refine ⟨_, rfl, rfl, _, rfl, ite2 (fun h => absurd h (by decide)) fun _ => ?_⟩
              refine ⟨_, rfl, false, rfl, ?_⟩
              exact ⟨⟨_, _, _, rfl⟩, s5.trans (s7a.trans s7)⟩
          · rintro σ GA ⟨⟨y7, y8, y9, rfl⟩, s5⟩
            exact ⟨⟨_, _, _, _, _, rfl⟩, sm5.trans (sbl.trans s5)⟩
        · have h1 : ¬ own < 1 := fun z => h1 (decide_eq_true z)
          refine ⟨_, rfl, mm, _, 1, _, rfl, rfl, .inl MM.hm, hx1, 1, rfl, pr, rvs, -1, _, rfl, rfl, .inl MM.hr, hlast, by show 1 ≤ sizeLine; decide, fun T0 nT0 => ?_⟩
          have sm45 := same_new (o := .tup [.non]) nT0
          have hdm5' := same_dt sm45 hdm
          have hlG5 := same_rd sm45 hlG
          have sm5 := sm.trans sm45
          clear hlG
          cases ring with
          | false =>
            refine ⟨rowDt [none], .tuple [.none], .tup (.inl (same_rd sm45 hq2)) (.cons .non .nil), .tup (.inl (.inl upd_same)) (.cons .non .nil), rfl, rfl, ?_⟩
            rw [show PyData.eqv (rowDt [none]) (.tuple [.none]) = true from rfl]
            generalize upd G4 T0 (HO.tup [.non]) = G5 at *
            refine ⟨_, rfl, _, rfl, _, _, rfl, rfl, _, rfl, _, _, rfl, rfl, by show 3 ≤ sizeLine; decide, fun bl nbl => ?_⟩
            refine ⟨bl, rfl, ⟨_, SqL.of upd_same⟩, ?_⟩
            have sbl := same_new (o := .lst [.int (own * ((N : Int) - 1)), .int (own * ((N : Int) - 1) - 1), .int (own * ((N : Int) - 1) + 1)]) nbl
            refine for_list (K := K) (a := bl) (xs := [.int (own * ((N : Int) - 1)), .int (own * ((N : Int) - 1) - 1), .int (own * ((N : Int) - 1) + 1)]) (fun i σ H' => (∃ y7 y8 y9 : Option V, σ = [some (.ref a), some (.int (N : Int)), some (.int own), some (.ref lq), some (.int (own * ((N : Int) - 1))), some (.ref mm), some (.bl true), y7, y8, y9, none]) ∧ Same (upd G5 bl (.lst [.int (own * ((N : Int) - 1)), .int (own * ((N : Int) - 1) - 1), .int (own * ((N : Int) - 1) + 1)])) H')
              ⟨⟨_, _, _, rfl⟩, L2.Same.refl _⟩ (fun i σ H' _ q => SqL.of (q.2 _ _ upd_same)) ?_ ?_
            · rintro i x σ GA hx ⟨⟨y7, y8, y9, rfl⟩, s5⟩
              obtain ⟨bd, rfl⟩ : ∃ bd : Int, x = .int bd := by
                match i, hx with
                | 0, hx => exact ⟨_, (Option.some.inj hx).symm⟩
                | 1, hx => exact ⟨_, (Option.some.inj hx).symm⟩
                | 2, hx => exact ⟨_, (Option.some.inj hx).symm⟩
                | i + 3, hx => cases hx
              have hdm4 := same_dt sbl hdm5'
              have hdm5 := same_dt s5 hdm4
              have hlG := same_rd sbl hlG5
              refine ⟨_, rfl, true, rfl, _, rfl, _, rfl, _, _, rfl, rfl, ?_⟩
              dsimp only
              by_cases hge : bd ≥ own * ((N : Int) - 1)
              · rw [decide_eq_true hge]
                have hd : dueLong N false own bd := ⟨.inr rfl, hge⟩
                have hBT := hsB_iff.mpr ((long_least (ring := false) (own := own) (bd := bd) hN2).mpr hd)
                refine ⟨_, rfl, _, rfl, by show 1 ≤ sizeLine; decide, fun T1 nT1 => ?_⟩
                have sT1 := same_new (o := .tup [.int own]) nT1
                refine ⟨_, rfl, Bd a c, Bno, .ref mm, .ref T1, 1, rsLong N false, esLong N, [own], bd, rfl, same_dt (s5.trans sT1) hdm4, .tup (fun z => z) (.inl upd_same) (.cons (.int own) .nil), MOK, rfl, hbnd, fun G6 s6 hno => absurd ((long_least hN2).mpr hd) (hno _), fun G6 p hs s6 hp hp2 V hb => ?_⟩
                refine ⟨_, rfl, _, rfl, rfl, _, rfl, ite2 (fun h => absurd h (by simp)) fun _ => ?_⟩
                have s6x := sT1.trans s6
                refine ⟨_, rfl, _, rfl, by show 1 ≤ sizeLine; decide, fun T2 nT2 => ⟨_, rfl, _, rfl, ?_⟩⟩
                have s7a := s6x.trans (same_new (o := .tup [.int own]) nT2)
                refine ⟨Bd a c, Bno, Bno, .ref mm, .ref T2, .ref lq, 1, rsLong N false, esLong N, [own], bd, hsDt (hsLong N own), rfl, same_dt s7a hdm5, .tup (fun z => z) (.inl upd_same) (.cons (.int own) .nil), dt_hs (fun z => z) (same_rd (s5.trans s7a) hlG), MOK, rfl, (by rw [nodes_hs]; unfold hsLong; rw [List.length_map, List.length_range]; omega), fun G7 s7 => ?_⟩
                rw [hBT]
                refine ⟨_, rfl, rfl, _, rfl, ite2 (fun h => absurd h (by decide)) fun _ => ?_⟩
                refine ⟨_, rfl, true, rfl, ?_⟩
                have hsl : hs.length = N := by rw [V.1]; exact hrl
                have s67 := (same_new (o := .tup [.int own]) nT2).trans s7
                have s6y := s6x.trans s67
                refine ⟨_, rfl, _, rfl, by show 1 ≤ sizeLine; decide, fun T2' nT2' => ⟨_, rfl, _, rfl, ?_⟩⟩
                have s8a := s6y.trans (same_new (o := .tup [.int own]) nT2')
                refine ⟨Bd a c, Bno, Bno, .ref mm, .ref T2', .ref p, 1, rsLong N false, esLong N, [own], bd, hsDt hs, rfl, same_dt s8a hdm5, .tup (fun z => z) (.inl upd_same) (.cons (.int own) .nil), dt_hs (fun z => z) (same_rd (s67.trans (same_new (o := .tup [.int own]) nT2')) (.inl hp2)), MOK, rfl, (by rw [nodes_hs]; omega), fun G8 s8 => ?_⟩
                rw [(hsB_iff.mpr V)]
                refine ⟨true, true, rfl, rfl, _, rfl, ite2 (fun h => absurd h (by decide)) fun _ => ?_⟩
                exact ⟨⟨_, _, _, rfl⟩, s5.trans (s8a.trans s8)⟩
              · rw [decide_eq_false hge]
                have hd : ¬ dueLong N false own bd := fun z => hge z.2
                have hBF := hsB_not (fun V => hd ((long_least (ring := false) (own := own) (bd := bd) hN2).mp V))
                refine ⟨_, rfl, _, rfl, by show 1 ≤ sizeLine; decide, fun T1 nT1 => ?_⟩
                have sT1 := same_new (o := .tup [.int own]) nT1
                refine ⟨_, rfl, Bd a c, Bno, .ref mm, .ref T1, 1, rsLong N false, esLong N, [own], bd, rfl, same_dt (s5.trans sT1) hdm4, .tup (fun z => z) (.inl upd_same) (.cons (.int own) .nil), MOK, rfl, hbnd, fun G6 s6 hno => ?_, fun G6 p hs s6 hp hp2 V hb => absurd V (long_none hN2 hd hs)⟩
                refine ⟨_, rfl, _, rfl, rfl, _, rfl, ite2 (fun h => absurd h (by decide)) fun _ => ?_⟩
                have s6x := sT1.trans s6
                refine ⟨_, rfl, _, rfl, by show 1 ≤ sizeLine; decide, fun T2 nT2 => ⟨_, rfl, _, rfl, ?_⟩⟩
                have s7a := s6x.trans (same_new (o := .tup [.int own]) nT2)
                refine ⟨Bd a c, Bno, Bno, .ref mm, .ref T2, .ref lq, 1, rsLong N false, esLong N, [own], bd, hsDt (hsLong N own), rfl, same_dt s7a hdm5, .tup (fun z => z) (.inl upd_same) (.cons (.int own) .nil), dt_hs (fun z => z) (same_rd (s5.trans s7a) hlG), MOK, rfl, (by rw [nodes_hs]; unfold hsLong; rw [List.length_map, List.length_range]; omega), fun G7 s7 => ?_⟩
                rw [hBF]
                refine ⟨_, rfl, rfl, _, rfl, ite2 (fun h => absurd h (by decide)) fun _ => ?_⟩
                refine ⟨_, rfl, false, rfl, ?_⟩
                exact ⟨⟨_, _, _, rfl⟩, s5.trans (s7a.trans s7)⟩
            · rintro σ GA ⟨⟨y7, y8, y9, rfl⟩, s5⟩
              exact ⟨⟨_, _, _, _, _, rfl⟩, sm5.trans (sbl.trans s5)⟩
          | true =>
            refine ⟨rowDt [some 0], .tuple [.none], .tup (.inl (same_rd sm45 hq2)) (.cons (.int _) .nil), .tup (.inl (.inl upd_same)) (.cons .non .nil), rfl, rfl, ?_⟩
            rw [show PyData.eqv (rowDt [some 0]) (.tuple [.none]) = false from rfl]
            generalize upd G4 T0 (HO.tup [.non]) = G5 at *
            refine ⟨_, rfl, _, rfl, _, _, rfl, rfl, _, rfl, _, _, rfl, rfl, by show 3 ≤ sizeLine; decide, fun bl nbl => ?_⟩
            refine ⟨bl, rfl, ⟨_, SqL.of upd_same⟩, ?_⟩
            have sbl := same_new (o := .lst [.int (own * ((N : Int) - 1)), .int (own * ((N : Int) - 1) - 1), .int (own * ((N : Int) - 1) + 1)]) nbl
            refine for_list (K := K) (a := bl) (xs := [.int (own * ((N : Int) - 1)), .int (own * ((N : Int) - 1) - 1), .int (own * ((N : Int) - 1) + 1)]) (fun i σ H' => (∃ y7 y8 y9 : Option V, σ = [some (.ref a), some (.int (N : Int)), some (.int own), some (.ref lq), some (.int (own * ((N : Int) - 1))), some (.ref mm), some (.bl false), y7, y8, y9, none]) ∧ Same (upd G5 bl (.lst [.int (own * ((N : Int) - 1)), .int (own * ((N : Int) - 1) - 1), .int (own * ((N : Int) - 1) + 1)])) H')
              ⟨⟨_, _, _, rfl⟩, L2.Same.refl _⟩ (fun i σ H' _ q => SqL.of (q.2 _ _ upd_same)) ?_ ?_
            · rintro i x σ GA hx ⟨⟨y7, y8, y9, rfl⟩, s5⟩
              obtain ⟨bd, rfl⟩ : ∃ bd : Int, x = .int bd := by
                match i, hx with
                | 0, hx => exact ⟨_, (Option.some.inj hx).symm⟩
                | 1, hx => exact ⟨_, (Option.some.inj hx).symm⟩
                | 2, hx => exact ⟨_, (Option.some.inj hx).symm⟩
                | i + 3, hx => cases hx
              have hdm4 := same_dt sbl hdm5'
              have hdm5 := same_dt s5 hdm4
              have hlG := same_rd sbl hlG5
              refine ⟨_, rfl, false, rfl, ?_⟩
              have hd : ¬ dueLong N true own bd := fun z => (fun h => h.elim h1 (fun e => by cases e)) z.1
              have hBF := hsB_not (fun V => hd ((long_least (ring := true) (own := own) (bd := bd) hN2).mp V))
              refine ⟨_, rfl, _, rfl, by show 1 ≤ sizeLine; decide, fun T1 nT1 => ?_⟩
              have sT1 := same_new (o := .tup [.int own]) nT1
              refine ⟨_, rfl, Bd a c, Bno, .ref mm, .ref T1, 1, rsLong N true, esLong N, [own], bd, rfl, same_dt (s5.trans sT1) hdm4, .tup (fun z => z) (.inl upd_same) (.cons (.int own) .nil), MOK, rfl, hbnd, fun G6 s6 hno => ?_, fun G6 p hs s6 hp hp2 V hb => absurd V (long_none hN2 hd hs)⟩
              refine ⟨_, rfl, _, rfl, rfl, _, rfl, ite2 (fun h => absurd h (by decide)) fun _ => ?_⟩
              have s6x := sT1.trans s6
              refine ⟨_, rfl, _, rfl, by show 1 ≤ sizeLine; decide, fun T2 nT2 => ⟨_, rfl, _, rfl, ?_⟩⟩
              have s7a := s6x.trans (same_new (o := .tup [.int own]) nT2)
              refine ⟨Bd a c, Bno, Bno, .ref mm, .ref T2, .ref lq, 1, rsLong N true, esLong N, [own], bd, hsDt (hsLong N own), rfl, same_dt s7a hdm5, .tup (fun z => z) (.inl upd_same) (.cons (.int own) .nil), dt_hs (fun z => z) (same_rd (s5.trans s7a) hlG), MOK, rfl, (by rw [nodes_hs]; unfold hsLong; rw [List.length_map, List.length_range]; omega), fun G7 s7 => ?_⟩
              rw [hBF]
              refine ⟨_, rfl, rfl, _, rfl, ite2 (fun h => absurd h (by decide)) fun _ => ?_⟩
              refine ⟨_, rfl, false, rfl, ?_⟩
              exact ⟨⟨_, _, _, rfl⟩, s5.trans (s7a.trans s7)⟩
            · rintro σ GA ⟨⟨y7, y8, y9, rfl⟩, s5⟩
              exact ⟨⟨_, _, _, _, _, rfl⟩, sm5.trans (sbl.trans s5)⟩
      · rintro σ G4 ⟨⟨y5, y6, y7, y8, y9, rfl⟩, sm⟩
        exact k G4 cells3 (n + 1 + 1 + 1) (deck_same sm dkA) (by omega) (by omega) (kA.trans (Keep.same sm))
end
/-! ### the law's own body -/
theorem str_ne_false (x : Str) : ¬ (!decide (V.str x = V.str x)) = true := by
  rw [decide_eq_true rfl]
  exact Bool.false_ne_true
theorem stN {i : Nat} {v : V} {σ : L2.St} {H : Hp} {te : TE} {g : TG} {u : TS} {D : Ends} (h : te (σ.set i (some v)) H fun x H1 => g x (σ.set i (some v)) H1 (u D)) : gName i v σ H ({ D with nx := tSeq (tAsg te g) u D } : Ends).nx := h
theorem stI {i : Nat} {v : V} {σ : L2.St} {H : Hp} {c : TT} {t w u : TS} {D : Ends} (h : tIfS c t w { D with nx := u D } (σ.set i (some v)) H) : gName i v σ H ({ D with nx := tSeq (tIfS c t w) u D } : Ends).nx := h
theorem stN2 {i : Nat} {v : V} {σ : L2.St} {H : Hp} {te : TE} {g : TG} {u : TS} {D : Ends} (h : te (σ.set i (some v)) H fun x H1 => g x (σ.set i (some v)) H1 (u D)) : gName i v σ H (tSeq (tAsg te g) u D) := h
theorem stI2 {i : Nat} {v : V} {σ : L2.St} {H : Hp} {c : TT} {t w u : TS} {D : Ends} (h : tIfS c t w { D with nx := u D } (σ.set i (some v)) H) : gName i v σ H (tSeq (tIfS c t w) u D) := h
theorem stB {σ : L2.St} {H : Hp} {te : TE} {g : TG} {u : TS} {D : Ends} (h : te σ H fun x H1 => g x σ H1 (u D)) : ({ D with nx := tSeq (tAsg te g) u D } : Ends).nx σ H := h
theorem stBI {σ : L2.St} {H : Hp} {c : TT} {t w : TS} {u : TS} {D : Ends} (h : tIfS c t w { D with nx := u D } σ H) : ({ D with nx := tSeq (tIfS c t w) u D } : Ends).nx σ H := h
theorem joinE {t : TE} {σ : L2.St} {H : Hp} {Q : VK} (R : VK) (h : (∀ v H', R v H' → Q v H') → t σ H Q) (k : ∀ v H', R v H' → Q v H') : t σ H Q := h k
theorem joinS {t : TS} {D : Ends} {σ : L2.St} {H : Hp} (R : L2.St → Hp → Prop) (h : (∀ σ' H', R σ' H' → D.nx σ' H') → t D σ H) (k : ∀ σ' H', R σ' H' → D.nx σ' H') : t D σ H := h k
/-- what the law's sums are: None and no potential, or a dict of the least one -/
def SumAt (B : Addr → Prop) (rs : Rows) (f : List Int) (H : Hp) (v : V) : Prop :=
  (v = .non ∧ ∃ ord, IsOrd rs ord ∧ ∀ p, ¬ PotE (edgesOf rs f ord) p) ∨ ∃ d kvs s' i ord, v = .ref d ∧ ¬ B d ∧ H d = some (.dK kvs) ∧ DictH kvs s' ∧ IsOrd rs ord ∧ RInv (edgesOf rs f ord) i (edgesOf rs f ord) [] none s' ∧ i ≤ 402
/-- the same with the sums of the ends -/
def SumE (B : Addr → Prop) (rs : Rows) (es : List Bool) (f : List Int) (H : Hp) (v : V) (ns : List Int) : Prop :=
  (v = .non ∧ (∃ ord, IsOrd rs ord ∧ ∀ p, ¬ PotE (edgesOf rs f ord) p) ∧ ns = []) ∨ ∃ d kvs s' i ord, v = .ref d ∧ ¬ B d ∧ H d = some (.dK kvs) ∧ DictH kvs s' ∧ IsOrd rs ord ∧ RInv (edgesOf rs f ord) i (edgesOf rs f ord) [] none s' ∧ i ≤ 402 ∧
    (∀ x ∈ ns, ∃ u ∈ ord, es[u]? = some true ∧ s'.h u = some x) ∧ ∀ u a, s'.h u = some a → es[u]? = some true → a ∈ ns
theorem SumE.keep {B : Addr → Prop} {rs : Rows} {es : List Bool} {f : List Int} {H H' : Hp} {v : V} {ns : List Int} (k : Keep B H H') (h : SumE B rs es f H v ns) : SumE B rs es f H' v ns := by
  rcases h with h | ⟨d, kvs, s', i, ord, h1, h2, h3, h4⟩
  · exact .inl h
  · exact .inr ⟨d, kvs, s', i, ord, h1, h2, k _ _ h2 h3, h4⟩
theorem MA.upd {H : Hp} {L : Nat} {rs : Rows} {es : List Bool} {m pr pe d : Addr} {rvs : List V} {o : HO} {kvs : List (Key × V)} (hd : H d = some (.dK kvs)) (M : MA H L rs es m pr pe rvs) : MA (L2.upd H d o) L rs es m pr pe rvs :=
  ⟨rd_up hd M.hm, rd_up hd M.hr, M.hl, fun u row h => let ⟨q, h1, h2⟩ := M.row u row h; ⟨q, h1, rd_up hd h2⟩, rd_up hd M.he⟩
def endVal (es : List Bool) (kv : Key × V) : Option Int := match kv with
  | (.inl n, .int a) => if (es[n.toNat]?).getD false = true then some a else none
  | _ => none
theorem endVal_at {es : List Bool} {n : Nat} {a : Int} {e : Bool} (h : es[n]? = some e) : endVal es (.inl (n : Int), .int a) = if e = true then some a else none := by
  show (if (es[(n : Int).toNat]?).getD false = true then some a else none) = _
  rw [Int.toNat_natCast, h]
  rfl
def Bnd (N : Int) (hs : List (Option Int)) : Prop := ∀ x, some x ∈ hs → -N ≤ x ∧ x ≤ N
theorem vv_hs {B : Addr → Prop} {K : PySem.W.Frag} {H : Hp} {p : Addr} {hs : List (Option Int)} (nb : ¬ B p) (h : Rd H p (.tup (hs.map hV))) (hb : Bnd 1000000000 hs) (hl : hs.length ≤ 12) : Vv B K H (.ref p) 20 1 := by
  refine ⟨hsDt hs, dt_hs nb h, (sm_tup _).mpr fun d hd => ?_, by rw [nodes_hs]; omega, ?_⟩
  · obtain ⟨o, ho, rfl⟩ := List.mem_map.mp hd
    cases o with
    | none => rw [hD, sm]
    | some x =>
      have := hb x ho
      rw [hD, sm]
      exact decide_eq_true (Nat.le_trans (show x.natAbs ≤ 1000000000 by omega) (by decide))
  · unfold hsDt
    rw [depth_tup]
    have : PyData.depthAll (hs.map hD) ≤ 0 := depthAll_le.mpr fun d hd => by
      obtain ⟨o, _, rfl⟩ := List.mem_map.mp hd
      cases o <;> (rw [hD, PyData.depth]; exact Nat.le_refl _)
    omega
theorem vv_lst {B : Addr → Prop} {K : PySem.W.Frag} {H : Hp} {p : Addr} {hs : List (Option Int)} (nb : ¬ B p) (ne : p ≠ sysModules) (h : Rd H p (.lst (hs.map hV))) (hb : Bnd 1000000000 hs) (hl : hs.length ≤ 12) : Vv B K H (.ref p) 20 1 := by
  refine ⟨.list (hs.map hD), .lst nb ne h (dt_cs h_cs hs), (sm_lst _).mpr fun d hd => ?_, by rw [nodes_lst, nodesAll_hs]; omega, ?_⟩
  · obtain ⟨o, ho, rfl⟩ := List.mem_map.mp hd
    cases o with
    | none => rw [hD, sm]
    | some x =>
      have := hb x ho
      rw [hD, sm]
      exact decide_eq_true (Nat.le_trans (show x.natAbs ≤ 1000000000 by omega) (by decide))
  · rw [depth_lst]
    have : PyData.depthAll (hs.map hD) ≤ 0 := depthAll_le.mpr fun d hd => by
      obtain ⟨o, _, rfl⟩ := List.mem_map.mp hd
      cases o <;> (rw [hD, PyData.depth]; exact Nat.le_refl _)
    omega
theorem vv_non {B : Addr → Prop} {K : PySem.W.Frag} {H : Hp} : Vv B K H .non 20 1 := ⟨.none, .non, by rw [sm], by rw [nodes]; omega, by rw [PyData.depth]; omega⟩
theorem keep_drop {B : Addr → Prop} {p : Addr} {H0 H H' : Hp} (k : Keep B H0 H) (n : H0 p = none) (k2 : Keep (fun b => B b ∨ b = p) H H') : Keep B H0 H' :=
  fun b o nb e => k2 b o (fun z => z.elim nb fun z => by rw [z, n] at e; cases e) (k b o nb e)
def Gh (N : Int) (v : V) : Prop := ∃ o : Option Int, v = hV o ∧ ∀ x, o = some x → -N ≤ x ∧ x ≤ N
theorem gh_all {N : Int} : ∀ {acc : List V}, (∀ v ∈ acc, Gh N v) → ∃ os : List (Option Int), acc = os.map hV ∧ Bnd N os
  | [], _ => ⟨[], rfl, fun _ h => absurd h List.not_mem_nil⟩
  | v :: acc, h => by
    obtain ⟨os, e, h1⟩ := gh_all fun u hu => h u (List.mem_cons_of_mem _ hu)
    obtain ⟨o, rfl, h2⟩ := h v List.mem_cons_self
    refine ⟨o :: os, by rw [e]; rfl, fun x hx => ?_⟩
    rcases List.mem_cons.mp hx with hx | hx
    · exact h2 x hx.symm
    · exact h1 x hx
section
variable {P : Program} {w : World} {K : PySem.W.Frag} {mg : Str → Option Value} {base : Heap}
theorem scLaw : FnScope ["_law_script", "_law_deck_here", "_law_turn", "_law_letters", "_law_machine_here", "_law_form_here", "_law_sums_here", "_law_ends", "_law_state", "_law_need", "_law_bound", "_law_found", "_law_least", "_law_more", "_law_item", "_law_every", "_law_values", "_law_k", "_law_value", "_law_shown", "_law_due"] ["_law_script"] (defScope sLaw) := ⟨rfl, rfl, rfl, by decide +kernel, rfl, by decide +kernel, by decide +kernel⟩
def spLaw (K : PySem.W.Frag) : Sp := fun vs H Q _ => ∃ (l : Addr) (ns : List Int), vs = [.ref l] ∧ SqL K H l (ns.map V.int) ∧ ns.length ≤ 63 ∧ ∀ H', Q (.bl true) H'
theorem ok_law {f fK fD fR fK2 fM fF fS fT fA fH fB : Addr} {fd fdK fdD fdR fdK2 fdM fdF fdS fdT fdA fdH fdB : FuncData} (F : Fun K "law" "law" sLaw f fd)
    (DK : FnOk P w K mg base CX0 1 fK fdK ["_law_script"] (spDeck K)) (FK : Fun K "_law_deck" "_law_deck" sDeck fK fdK) (bK : Binds K fdK ["_law_script"] []) (gK : mg "_law_deck" = some (.ref fK))
    (D : FnOk P w K mg base CX0 1 fD fdD ["_law_deck_here", "_law_many"] spDraw) (FD : Fun K "_law_draw" "_law_draw" sDraw fD fdD) (bD : Binds K fdD ["_law_deck_here", "_law_many"] []) (gD : mg "_law_draw" = some (.ref fD))
    (LR : FnOk P w K mg base CX0 4 fR fdR ["_law_deck_here"] spLongR) (FR : Fun K "_law_long_right" "_law_long_right" sLongR fR fdR) (bR : Binds K fdR ["_law_deck_here"] []) (gR : mg "_law_long_right" = some (.ref fR))
    (KI : FnOk P w K mg base CX0 4 fK2 fdK2 ["_law_deck_here", "_law_letters"] (spKind K)) (FK2 : Fun K "_law_kind" "_law_kind" sKind fK2 fdK2) (bK2 : Binds K fdK2 ["_law_deck_here", "_law_letters"] []) (gK2 : mg "_law_kind" = some (.ref fK2))
    (MC : FnOk P w K mg base CX0 3 fM fdM ["_law_deck_here", "_law_letters", "_law_most"] (spMach K)) (FM : Fun K "_law_machine" "_law_machine" sMach fM fdM) (bM : Binds K fdM ["_law_deck_here", "_law_letters", "_law_most"] []) (gM : mg "_law_machine" = some (.ref fM))
    (FO : FnOk P w K mg base CX0 3 fF fdF ["_law_deck_here", "_law_letters"] (spForm K)) (FF : Fun K "_law_form" "_law_form" sForm fF fdF) (bF : Binds K fdF ["_law_deck_here", "_law_letters"] []) (gF : mg "_law_form" = some (.ref fF))
    (SU : FnOk P w K mg base CX0 2 fS fdS ["_law_machine_here", "_law_form_here"] (spSums K)) (FS : Fun K "_law_sums" "_law_sums" sSums fS fdS) (bS : Binds K fdS ["_law_machine_here", "_law_form_here"] []) (gS : mg "_law_sums" = some (.ref fS))
    (HT : FnOk P w K mg base CX0 3 fT fdT ["machine", "form", "bound"] (spHeights K)) (FT : Fun K "heights" "heights" sHeights fT fdT) (bT : Binds K fdT ["machine", "form", "bound"] []) (gT : mg "heights" = some (.ref fT))
    (AR : FnOk P w K mg base CX0 1 fA fdA ["_law_machine_here", "_law_form_here", "_law_bound", "_law_value"] (spHold K)) (FA : Fun K "_law_are_heights" "_law_are_heights" sAre fA fdA) (bA : Binds K fdA ["_law_machine_here", "_law_form_here", "_law_bound", "_law_value"] []) (gA : mg "_law_are_heights" = some (.ref fA))
    (HH : FnOk P w K mg base CX0 2 fH fdH ["machine", "form", "bound", "value"] (spHold K)) (FH : Fun K "heights_hold" "heights_hold" sHold fH fdH) (bH : Binds K fdH ["machine", "form", "bound", "value"] []) (gH : mg "heights_hold" = some (.ref fH))
    (BT : FnOk P w K mg base CX0 4 fB fdB ["_law_deck_here", "_law_value", "_law_deep"] (spBent K 1)) (FB : Fun K "_law_bent" "_law_bent" sBent fB fdB) (bB : Binds K fdB ["_law_deck_here", "_law_value", "_law_deep"] []) (gB : mg "_law_bent" = some (.ref fB)) (T : Mg mg) :
    GRun P w K mg base 5 f fd ["_law_script"] (spLaw K) := by
  refine grun F scLaw (fun cdv A outer s H vs Q hG0 hr h => ?_)
  obtain ⟨l, ns, rfl, hS, hlen, k⟩ := h
  have hG : (A.deeper (envOfC "law" (defScope sLaw) s.heap.objs.size f cdv)).guards = some [] := hG0
  have hu := hr.units
  have hu0 := hr.units0
  have hu1 := hu_of hr
  refine ⟨_, (pss_cons (ps_set (i := 1) scLaw.nd rfl (.inr rfl) (pe_call DK (hr.mono (by decide)) (by rfl) gK FK.kp bK .nil pass0 (pa_cons (pv 0) pa_nil)))
      (pss_cons (ps_if (pt_not (pt_val (pe_call LR (hr.mono (by decide)) (by rfl) gR FR.kp bR .nil pass0 (pa_cons (pv 1) pa_nil)))) (pss_one (ps_ret pe_bl)) pss_nil)
      (pss_cons (ps_for PassesOwn.never rfl (pi_range1 (by rfl) T.range (pa_cons pe_int pa_nil)) (pg_name (i := 2) scLaw.nd rfl (.inl rfl))
    (pss_cons (ps_set (i := 3) scLaw.nd rfl (.inl rfl) (pe_op op_add pe_int (pe_call D (hr.mono (by decide)) (by rfl) gD FD.kp bD .nil pass0 (pa_cons (pv 1) (pa_cons pe_int pa_nil)))))
      (pss_cons (ps_set (i := 4) scLaw.nd rfl (.inr rfl) (pe_ifExp (pt_cmpR op_gt (pv 2) pe_int (nomark _)) (pe_call KI (hr.mono (by decide)) (by rfl) gK2 FK2.kp bK2 .nil pass0 (pa_cons (pv 1) (pa_cons (pv 3) pa_nil))) (pe_call MC (hr.mono (by decide)) (by rfl) gM FM.kp bM .nil pass0 (pa_cons (pv 1) (pa_cons (pv 3) (pa_cons pe_int pa_nil))))))
      (pss_cons (ps_set (i := 5) scLaw.nd rfl (.inl rfl) (pe_call FO (hr.mono (by decide)) (by rfl) gF FF.kp bF .nil pass0 (pa_cons (pv 1) (pa_cons (pv 3) pa_nil))))
      (pss_cons (ps_set (i := 6) scLaw.nd rfl (.inr rfl) (pe_call SU (hr.mono (by decide)) (by rfl) gS FS.kp bS .nil pass0 (pa_cons (pv 4) (pa_cons (pv 5) pa_nil))))
      (pss_cons (ps_set (i := 7) scLaw.nd rfl (.inl rfl) (pe_lst pa_nil))
      (pss_cons (ps_if (pt_cmp (pc_notN (pv 6))) (pss_one (ps_lock (ps_setLc (i := 7) (own := [("_law_state", 8)]) (g := gName 8) rfl scLaw.nd rfl rfl (sw_true rfl rfl rfl (by decide +kernel)) (pi_keys (pv 6)) (blkOk_by (N := ["_law_script", "_law_deck_here", "_law_turn", "_law_letters", "_law_machine_here", "_law_form_here", "_law_sums_here", "_law_ends", "_law_state", "_law_need", "_law_bound", "_law_found", "_law_least", "_law_more", "_law_item", "_law_every", "_law_values", "_law_k", "_law_value", "_law_shown", "_law_due"]) (sc := defScope sLaw) (by decide +kernel)) (fun _ _ _ _ _ => pg_name (i := 8) scLaw.nd rfl (Or.inl rfl)) (fun _ _ _ _ _ => pts_one (pt_val (pe_ix (r := rIxT K) ix_tup (pe_ix (r := rIxT K) ix_tup (pv 4) pe_int (fun _ _ => rfl)) (pv 8) (fun _ _ => rfl)))) (fun _ _ _ _ _ => pe_dget hu1 (pv 6) (pv 8) (fun _ _ => rfl))))) pss_nil)
      (pss_cons (ps_set (i := 9) scLaw.nd rfl (.inl rfl) (pe_ifExp (pt_cmpR (op_neNilL hu0) (pv 7) (pe_lst pa_nil) (nomark _)) (pe_callB (cr_max rfl) (by rfl) T.max (by decide +kernel) (pa_cons (pv 7) pa_nil)) (pe_un un_neg pe_int)))
      (pss_one (ps_for PassesOwn.never rfl (pi_list (pe_lst (pa_cons (pv 9) (pa_cons (pe_op op_sub (pv 9) pe_int) (pa_cons (pe_op op_add (pv 9) (pe_call D (hr.mono (by decide)) (by rfl) gD FD.kp bD .nil pass0 (pa_cons (pv 1) (pa_cons pe_int pa_nil)))) (pa_cons (pe_op op_sub (pe_call D (hr.mono (by decide)) (by rfl) gD FD.kp bD .nil pass0 (pa_cons (pv 1) (pa_cons pe_int pa_nil))) pe_int) pa_nil)))))) (pg_name (i := 10) scLaw.nd rfl (.inl rfl))
      (pss_cons (ps_set (i := 11) scLaw.nd rfl (.inl rfl) (pe_call HT (hr.mono (by decide)) (by rfl) gT FT.kp bT .nil pass0 (pa_cons (pv 4) (pa_cons (pv 5) (pa_cons (pv 10) pa_nil)))))
      (pss_cons (ps_if (pt_cmpR op_ne (pe_cmp (pc_isN (pv 11))) (pe_or (pe_cmp (pc_isN (pv 6))) (pe_one (pe_and (pe_cmpR (op_neNilL hu0) (pv 7) (pe_lst pa_nil) (nomark _)) (pe_one (pe_cmpR op_lt (pv 10) (pv 9) (nomark _)))))) (nomark _)) (pss_one (ps_ret pe_bl)) pss_nil)
      (pss_cons (ps_if (PW.pt (pw_and (pt_cmp (pc_notN (pv 11))) (pw_and1 (pt_not (pt_val (pe_call AR (hr.mono (by decide)) (by rfl) gA FA.kp bA .nil pass0 (pa_cons (pv 4) (pa_cons (pv 5) (pa_cons (pv 10) (pa_cons (pv 11) pa_nil)))))))))) (pss_one (ps_ret pe_bl)) pss_nil)
      (pss_cons (ps_set (i := 12) scLaw.nd rfl (.inr rfl) (pe_ifExp (pt_cmp (pc_notN (pv 6))) (pe_callTy (r := rTup K) call_tuple_of (by rfl) T.tuple PyProof.Rows.boot_tuple (pa_cons (pe_lc (own := [("_law_state", 8)]) (g := gName 8) (tt := tYes) rfl scLaw.nd (pi_range1 (by rfl) T.range (pa_cons (pe_callB (r := rLen K) call_len_seq (by rfl) T.len PySem.boot_len (pa_cons (pe_ix (r := rIxT K) ix_tup (pv 4) pe_int (fun _ _ => rfl)) pa_nil)) pa_nil)) (blkOk_by (N := ["_law_script", "_law_deck_here", "_law_turn", "_law_letters", "_law_machine_here", "_law_form_here", "_law_sums_here", "_law_ends", "_law_state", "_law_need", "_law_bound", "_law_found", "_law_least", "_law_more", "_law_item", "_law_every", "_law_values", "_law_k", "_law_value", "_law_shown", "_law_due"]) (sc := defScope sLaw) (by decide +kernel)) (fun _ _ _ _ _ => pg_name (i := 8) scLaw.nd rfl (Or.inl rfl)) (fun _ _ _ _ _ => pts_nil) (fun _ _ _ _ _ => pe_dget1 hu1 (pv 6) (pv 8) ⟨rfl, rfl, rfl, rfl⟩)) pa_nil)) (pe_op op_repS (pe_tup (pa_cons pe_int pa_nil)) pe_int)))
      (pss_cons (ps_set (i := 13) scLaw.nd rfl (.inl rfl) (pe_callTy (r := rTup K) call_tuple_of (by rfl) T.tuple PyProof.Rows.boot_tuple (pa_cons (pe_lc (own := [("_law_item", 14)]) (g := gName 14) (tt := tYes) rfl scLaw.nd (pi_tup (pv 12)) (blkOk_by (N := ["_law_script", "_law_deck_here", "_law_turn", "_law_letters", "_law_machine_here", "_law_form_here", "_law_sums_here", "_law_ends", "_law_state", "_law_need", "_law_bound", "_law_found", "_law_least", "_law_more", "_law_item", "_law_every", "_law_values", "_law_k", "_law_value", "_law_shown", "_law_due"]) (sc := defScope sLaw) (by decide +kernel)) (fun _ _ _ _ _ => pg_name (i := 14) scLaw.nd rfl (Or.inl rfl)) (fun _ _ _ _ _ => pts_nil) (fun _ _ _ _ _ => pe_ifExp (pt_cmp (pc_isN (pv 14))) pe_non (pe_op op_add (pv 14) (pe_call D (hr.mono (by decide)) (by rfl) gD FD.kp bD .nil pass0 (pa_cons (pv 1) (pa_cons pe_int pa_nil)))))) pa_nil)))
      (pss_cons (ps_set (i := 15) scLaw.nd rfl (.inl rfl) (pe_callTy (r := rTup K) call_tuple_of (by rfl) T.tuple PyProof.Rows.boot_tuple (pa_cons (pe_lc (own := [("_law_item", 14)]) (g := gName 14) (tt := tYes) rfl scLaw.nd (pi_tup (pv 12)) (blkOk_by (N := ["_law_script", "_law_deck_here", "_law_turn", "_law_letters", "_law_machine_here", "_law_form_here", "_law_sums_here", "_law_ends", "_law_state", "_law_need", "_law_bound", "_law_found", "_law_least", "_law_more", "_law_item", "_law_every", "_law_values", "_law_k", "_law_value", "_law_shown", "_law_due"]) (sc := defScope sLaw) (by decide +kernel)) (fun _ _ _ _ _ => pg_name (i := 14) scLaw.nd rfl (Or.inl rfl)) (fun _ _ _ _ _ => pts_nil) (fun _ _ _ _ _ => pe_ifExp (pt_cmp (pc_notN (pv 14))) (pv 14) (pe_op op_sub (pe_call D (hr.mono (by decide)) (by rfl) gD FD.kp bD .nil pass0 (pa_cons (pv 1) (pa_cons pe_int pa_nil))) pe_int))) pa_nil)))
      (pss_cons (ps_set (i := 16) scLaw.nd rfl (.inl rfl) (pe_lst (pa_cons (pv 11) (pa_cons (pv 12) (pa_cons (pv 13) (pa_cons (pv 15) (pa_cons (pe_callTy call_listN (by rfl) T.list (by decide +kernel) (pa_cons (pv 12) pa_nil)) (pa_cons (pe_op op_catS (pv 12) (pe_tup (pa_cons pe_int pa_nil))) (pa_cons (pe_slice sl_tupS (pv 12) (po_some pe_int) po_none) (pa_cons pe_non (pa_cons (pe_tup pa_nil) pa_nil)))))))))))
      (pss_cons (ps_expr (pe_bm PySem.F.plainAttrs_list PySem.F.slot_list_append PySem.F.type_list_append mt_append (pv 16) (pa_cons (pe_callTy (r := rTup K) call_tuple_of (by rfl) T.tuple PyProof.Rows.boot_tuple (pa_cons (pe_lc (own := [("_law_item", 14)]) (g := gName 14) (tt := tYes) rfl scLaw.nd (pi_tup (pv 12)) (blkOk_by (N := ["_law_script", "_law_deck_here", "_law_turn", "_law_letters", "_law_machine_here", "_law_form_here", "_law_sums_here", "_law_ends", "_law_state", "_law_need", "_law_bound", "_law_found", "_law_least", "_law_more", "_law_item", "_law_every", "_law_values", "_law_k", "_law_value", "_law_shown", "_law_due"]) (sc := defScope sLaw) (by decide +kernel)) (fun _ _ _ _ _ => pg_name (i := 14) scLaw.nd rfl (Or.inl rfl)) (fun _ _ _ _ _ => pts_nil) (fun _ _ _ _ _ => pe_ifExp (pt_cmp (pc_isN (pv 14))) pe_non (pe_op op_add (pv 14) pe_int))) pa_nil)) pa_nil)))
      (pss_one (ps_for PassesOwn.never rfl (pi_list (pe_op op_cat (pv 16) (pe_lc (own := [("_law_k", 17)]) (g := gName 17) (tt := tYes) rfl scLaw.nd (pi_range1 (by rfl) T.range (pa_cons pe_int pa_nil)) (blkOk_by (N := ["_law_script", "_law_deck_here", "_law_turn", "_law_letters", "_law_machine_here", "_law_form_here", "_law_sums_here", "_law_ends", "_law_state", "_law_need", "_law_bound", "_law_found", "_law_least", "_law_more", "_law_item", "_law_every", "_law_values", "_law_k", "_law_value", "_law_shown", "_law_due"]) (sc := defScope sLaw) (by decide +kernel)) (fun _ _ _ _ _ => pg_name (i := 17) scLaw.nd rfl (Or.inl rfl)) (fun _ _ _ _ _ => pts_nil) (fun _ _ _ _ _ => (pe_call BT (hr.mono (by decide)) (by rfl) gB FB.kp bB .nil pass0 (pa_cons (pv 1) (pa_cons (pv 12) (pa_cons pe_int pa_nil)))))))) (pg_name (i := 18) scLaw.nd rfl (.inl rfl))
        (pss_cons (ps_par (i := 19) (j := 20) rfl scLaw.nd rfl rfl (by decide) rfl rfl (pa_cons (pe_callB (call_reprD hG hu) (by rfl) T.repr (by decide +kernel) (pa_cons (pv 18) pa_nil)) (pa_cons (pe_call AR (hr.mono (by decide)) (by rfl) gA FA.kp bA .nil pass0 (pa_cons (pv 4) (pa_cons (pv 5) (pa_cons (pv 10) (pa_cons (pv 18) pa_nil))))) pa_nil)) (by rfl))
      (pss_one (ps_if (PW.pt (pw_or (pt_cmpR op_ne (pe_callB (call_reprD hG hu) (by rfl) T.repr (by decide +kernel) (pa_cons (pe_call HH (hr.mono (by decide)) (by rfl) gH FH.kp bH .nil pass0 (pa_cons (pv 4) (pa_cons (pv 5) (pa_cons (pv 10) (pa_cons (pv 18) pa_nil))))) pa_nil)) (pe_callB (call_reprD hG hu) (by rfl) T.repr (by decide +kernel) (pa_cons (pv 20) pa_nil)) (nomark _)) (pw_or1 (pt_cmpR op_ne (pe_callB (call_reprD hG hu) (by rfl) T.repr (by decide +kernel) (pa_cons (pv 18) pa_nil)) (pv 19) (nomark _))))) (pss_one (ps_ret pe_bl)) pss_nil)))))))))))))))))))))))
      (pss_one (ps_ret pe_bl))))), ?_⟩
  refine ⟨_, rfl, l, ns, rfl, hS, hlen, fun H1 a c cells0 s1 na nc dk0 => ?_⟩
  refine ⟨_, rfl, a, c, cells0, 0, rfl, dk0, by decide, by decide, fun H1' cells1 n1 dk1 m1 m2 k1 => ?_⟩
  refine ⟨_, rfl, ?_⟩
  refine ⟨12, rfl, by decide, by decide, for_range (lo := 0) (n := 12) (fun i σ H' => (∃ y2 y3 y4 y5 y6 y7 y8 y9 y10 y11 y12 y13 y14 y15 y16 y17 y18 y19 y20 : Option V, σ = [some (.ref l), some (.ref a), y2, y3, y4, y5, y6, y7, y8, y9, y10, y11, y12, y13, y14, y15, y16, y17, y18, y19, y20]) ∧ ∃ cells n, DeckAt a c cells n H' ∧ 0 ≤ n ∧ n ≤ 4 + 400 * (i : Int))
    ⟨⟨_, _, _, _, _, _, _, _, _, _, _, _, _, _, _, _, _, _, _, rfl⟩, cells1, n1, dk1, by omega, by omega⟩ ?_ (fun σ H' _ => k H')⟩
  rintro i σ H2 hi ⟨⟨y2, y3, y4, y5, y6, y7, y8, y9, y10, y11, y12, y13, y14, y15, y16, y17, y18, y19, y20, rfl⟩, cells, n, dk, n0, nb⟩
  refine ⟨_, rfl, a, c, cells, n, 3, rfl, dk, by decide, by decide, n0, by omega, fun H3 cells3 r r0 r3 dk3 k3 => ?_⟩
  refine ⟨1, r, rfl, rfl, ?_⟩
  obtain ⟨L, hL⟩ : ∃ L : Nat, (L : Int) = 1 + r := ⟨(1 + r).toNat, by omega⟩
  -- the machine
  refine stN ?_
  refine joinE (t := tIf _ _ _) (fun v H' => ∃ (cells' : List Int) (n' : Int) (rs : Rows) (es : List Bool), DeckAt a c cells' n' H' ∧ n + 1 ≤ n' ∧ n' ≤ n + 102 ∧ Keep (Bd a c) H3 H' ∧ Dt (Bd a c) K H' v (machDt L rs es) ∧ MOk L rs es ∧ rs.length ≤ 10) (fun kk => ?_) ?_
  · refine ⟨_, rfl, _, _, rfl, rfl, _, rfl, ite2 (fun h => ?_) fun h => ?_⟩
    · refine ⟨_, rfl, _, rfl, a, c, cells3, n + 1, L, (by show [V.ref a, V.int (1 + r)] = [V.ref a, V.int (L : Int)]; rw [hL]), dk3, by omega, by omega, by omega, by omega, fun H' cells' n' v rs es dk' p1 p2 kp hd M hl => kk _ _ ⟨cells', n', rs, es, dk', by omega, by omega, kp, hd, M, hl⟩⟩
    · refine ⟨_, rfl, _, rfl, a, c, cells3, n + 1, (L : Int), 10, (by show [V.ref a, V.int (1 + r), V.int 10] = [V.ref a, V.int (L : Int), V.int 10]; rw [hL]), dk3, by omega, by omega, by omega, by omega, by decide, by decide, fun H' cells' n' v rs es dk' p1 p2 kp hM => kk _ _ ?_⟩
      obtain ⟨rows, bs, hd, M, hl⟩ := mach_of hM (by omega) (by omega) (by decide)
      exact ⟨cells', n', rows, bs, dk', by omega, by omega, kp, hd, M, by omega⟩
  rintro vm H4 ⟨cells4, n4, rs, es, dk4, n4a, n4b, k4, hdm, M, hl10⟩
  -- the form
  refine ⟨_, rfl, _, rfl, a, c, cells4, n4, L, (by show [V.ref a, V.int (1 + r)] = [V.ref a, V.int (L : Int)]; rw [hL]), dk4, by omega, by omega, by omega, by omega, fun H5 cells5 n5 vf f dk5 n5a n5b k5 hdf hfl hfb => ?_⟩
  have hdm5 := Dt.keep k5 _ _ hdm
  have hf : Fits rs f := fun row h => by rw [M.row row h, hfl]
  -- the sums
  refine stN ?_
  refine joinE (t := tCall _ _ _ _) (fun v H' => Same H5 H' ∧ SumAt (Bd a c) rs f H' v) (fun kk => ?_) ?_
  · refine ⟨_, rfl, _, rfl, Bd a c, Bd a c, vm, vf, L, rs, es, f, rfl, hdm5, hdf, M, hfl, hfb, fun H' ord sm O hno => kk _ _ ⟨sm, .inl ⟨rfl, ord, O, hno⟩⟩, fun H' d kvs s' i ord sm nd hd DH O RI hi => kk _ _ ⟨sm, .inr ⟨d, kvs, s', i, ord, rfl, deck_off dk5 nd, hd, DH, O, RI, hi⟩⟩⟩
  rintro vs H6 ⟨s56, SA⟩
  have dk6 := deck_same s56 dk5
  refine ⟨Nat.zero_le _, fun el nel => ?_⟩
  have s67 := same_new (o := .lst []) nel
  have hel : (upd H6 el (.lst [])) el = some (.lst []) := upd_same
  -- the sums of the ends
  refine stI ?_
  refine joinS (t := tIfS _ _ _) (fun σ' H' => ∃ (en : Addr) (ns : List Int) (y8 : Option V), σ' = [some (.ref l), some (.ref a), some (.int (0 + (i : Int))), some (.int (1 + r)), some vm, some vf, some vs, some (.ref en), y8, y9, y10, y11, y12, y13, y14, y15, y16, y17, y18, y19, y20] ∧ Same (upd H6 el (.lst [])) H' ∧ H' en = some (.lst (ns.map V.int)) ∧ ¬ Bd a c en ∧ SumE (Bd a c) rs es f H' vs ns) (fun kk => ?_) ?_
  · rcases SA with ⟨rfl, ordA, OA, hnoA⟩ | ⟨d, kvs, s', ii, ord, rfl, nd, hd, DH, O, RI, hii⟩
    · refine ⟨_, rfl, _, rfl, kk _ _ ⟨el, [], _, rfl, L2.Same.refl _, hel, deck_off dk6 nel, .inl ⟨rfl, ⟨ordA, OA, hnoA⟩, rfl⟩⟩⟩
    · refine ⟨_, rfl, _, rfl, ?_⟩
      have hin := O.ends hf
      have inO : ∀ u x, s'.h u = some x → u ∈ ord := fun u x hx => by
        rcases RI.dom u x hx with e | ⟨e, he, e2⟩
        · rw [e]
          exact (O.mem 0).mpr .z
        · rw [← e2]
          exact (hin e he).2
      obtain ⟨m, pr, pe, rvs, rfl, nm, MM5⟩ := dt_mach hdm5
      have hd7 := s67 _ _ hd
      refine ⟨d, .dK kvs, hd7, trivial, fun od => ?_⟩
      have MM7 := (MM5.same (s56.trans s67)).upd (o := .frz od (.dK kvs)) hd7
      have hG : ∃ G, G = upd (upd H6 el (.lst [])) d (.frz od (.dK kvs)) := ⟨_, rfl⟩
      obtain ⟨G, hG⟩ := hG
      rw [← hG] at MM7 ⊢
      have gd : G d = some (.frz od (.dK kvs)) := by rw [hG, upd_same]
      have gno : ∀ b, b ≠ d → G b = (upd H6 el (.lst [])) b := fun b hb => by rw [hG, upd_ne hb]
      have hx2 : atI [V.int (L : Int), .ref pr, .ref pe] 2 = some (.ref pe) := atI_nat (j := 2) rfl
      refine ⟨_, rfl, d, od, rfl, .inl ⟨kvs, gd, fun D nD => ?_⟩⟩
      have nDd : D ≠ d := fun z => by
        rw [z, gd] at nD
        cases nD
      have dkG := deck_same s67 dk6
      have nDB : ¬ Bd a c D := by
        rintro (z | z)
        · rw [z, gno a (fun q => nd (.inl q.symm)), dkG.2.1] at nD
          cases nD
        · rw [z, gno c (fun q => nd (.inr q.symm)), dkG.2.2.1] at nD
          cases nD
      have hkl : kvs.length ≤ 600000 := by
        have h1 := DH.len
        have h2 := RI.nowle
        have h3 : (edgesOf rs f ord).length ≤ 1200 := Nat.le_trans (edges_len M.row ord) (Nat.mul_le_mul M.L3 (Nat.le_trans O.len M.l400))
        have h4 : (ii - 1) * (edgesOf rs f ord).length ≤ 401 * 1200 := Nat.mul_le_mul (by omega) h3
        omega
      refine lc_it (walk_keys (d := d) (o := od) (kvs := kvs)) (fun j H' => Same G H' ∧ H' D = some (.lst (((kvs.take j).filterMap (endVal es)).map V.int))) ⟨same_new nD, by rw [upd_same]; rfl⟩ (fun j H' _ q => q.1 _ _ gd) ?_ ?_
      · rintro j x H8 H9 hj ⟨sm8, hD8⟩ ⟨rfl, key, vv, hkv, rfl⟩
        obtain ⟨u, xa, e1, hu⟩ := DH.mem _ (List.mem_of_getElem? hkv)
        cases e1
        have huo := inO u xa hu
        obtain ⟨eu, heu⟩ : ∃ eu, es[u]? = some eu := ⟨_, List.getElem?_eq_getElem (show u < es.length by rw [M.es]; exact O.lt u huo)⟩
        have MM8 := MM7.same sm8
        have tk : (kvs.take (j + 1)).filterMap (endVal es) = (kvs.take j).filterMap (endVal es) ++ (if eu = true then [xa] else []) := by
          rw [List.take_add_one, hkv, List.filterMap_append]
          show _ ++ List.filterMap (endVal es) [(Sum.inl (u : Int), V.int xa)] = _
          rw [List.filterMap_cons, endVal_at heu]
          cases eu <;> rfl
        refine ⟨rfl, _, rfl, m, _, 2, _, rfl, rfl, .inl MM8.hm, hx2, _, rfl, pe, _, (u : Int), .bl eu, rfl, rfl, .inl MM8.he, atI_nat (by rw [List.getElem?_map, heu]; rfl), eu, rfl, ?_⟩
        cases eu with
        | false => exact ⟨sm8, by rw [tk, if_neg (by decide), List.append_nil]; exact hD8⟩
        | true =>
          refine ⟨_, rfl, _, rfl, d, .int xa, rfl, .inl ⟨kvs, .inl _, .inr ⟨od, sm8 _ _ gd⟩, rfl, (by rw [DH.val, hu]; rfl)⟩, _, hD8, ?_, fun b o z => ?_, ?_⟩
          · have := List.length_filterMap_le (endVal es) (kvs.take j)
            rw [List.length_map]
            rw [List.length_take] at this
            exact Nat.lt_of_le_of_lt (show _ ≤ 600000 by omega) (by decide)
          · rw [upd_ne (ne_of_none z nD)]
            exact sm8 _ _ z
          · rw [upd_same, tk, if_pos rfl, List.map_append]
            rfl
      · rintro H8 ⟨sm8, hD8⟩
        rw [List.take_length] at hD8
        refine ⟨sm8 _ _ gd, kk _ _ ⟨D, kvs.filterMap (endVal es), _, rfl, fun b o z => ?_, by rw [upd_ne nDd]; exact hD8, nDB, .inr ⟨d, kvs, s', ii, ord, rfl, nd, upd_same, DH, O, RI, hii, fun x hx => ?_, fun u x hu he => ?_⟩⟩⟩
        · by_cases hb : b = d
          · rw [hb] at z ⊢
            rw [hd7] at z
            cases z
            exact upd_same
          · rw [upd_ne hb]
            exact sm8 _ _ (by rw [gno b hb]; exact z)
        · obtain ⟨kv, hkv, e1⟩ := List.mem_filterMap.mp hx
          obtain ⟨u, xa, e2, hu⟩ := DH.mem _ hkv
          subst e2
          have huo := inO u xa hu
          obtain ⟨eu, heu⟩ : ∃ eu, es[u]? = some eu := ⟨_, List.getElem?_eq_getElem (show u < es.length by rw [M.es]; exact O.lt u huo)⟩
          rw [endVal_at heu] at e1
          cases eu with
          | false => cases e1
          | true =>
            cases e1
            exact ⟨u, huo, heu, hu⟩
        · have hv : valV kvs (.inl (u : Int)) = some (.int x) := by rw [DH.val, hu]; rfl
          obtain ⟨kv, hkv, e1, e2⟩ := valV_mem hv
          refine List.mem_filterMap.mpr ⟨kv, hkv, ?_⟩
          obtain ⟨k1', v1'⟩ := kv
          cases e1
          cases e2
          rw [endVal_at he]
          rfl
  rintro σ7 H7 ⟨en, ns, y8', rfl, s7, hen, nenB, SE⟩
  have s57 := s56.trans (s67.trans s7)
  have dk7 := deck_same s57 dk5
  -- what is needed
  refine stB ?_
  refine joinE (t := tIf _ _ _) (fun v H' => ∃ need : Int, v = .int need ∧ Same H7 H' ∧ (ns = [] ∨ need ∈ ns ∧ ∀ y ∈ ns, y ≤ need)) (fun kk => ?_) ?_
  · refine ⟨_, rfl, Nat.zero_le _, fun e ne => ?_⟩
    have se := same_new (o := .lst []) ne
    refine ⟨en, e, _, rfl, rfl, SqL.of (se _ _ hen), SqL.of upd_same, _, rfl, ite2 (fun h => ?_) fun h => ?_⟩
    · have hns : ns ≠ [] := fun z => by
        rw [z] at h
        exact absurd h (by decide)
      refine ⟨_, rfl, en, ns, rfl, SqL.of (se _ _ hen), List.length_pos_iff.mpr hns, fun m hm hle => kk _ _ ⟨m, rfl, se, .inr ⟨hm, hle⟩⟩⟩
    · have hns : ns = [] := by
        cases ns with
        | nil => rfl
        | cons x xs => exact absurd rfl h
      exact ⟨5, rfl, kk _ _ ⟨-5, rfl, se, .inl hns⟩⟩
  rintro _ H8 ⟨need, rfl, s8, hneed⟩
  have s58 := s57.trans s8
  have dk8 := deck_same s58 dk5
  -- the bounds
  refine ⟨_, rfl, _, rfl, _, _, rfl, rfl, _, rfl, _, rfl, a, c, cells5, n5, 9, rfl, dk8, by decide, by decide, by omega, by omega, fun H9 cells9 r9 r90 r99 dk9 k9 => ?_⟩
  refine ⟨_, _, rfl, rfl, _, rfl, a, c, cells9, n5 + 1, 20, rfl, dk9, by decide, by decide, by omega, by omega, fun H10 cells10 r10 r100 r109 dk10 k10 => ?_⟩
  refine ⟨_, _, rfl, rfl, by show 4 ≤ sizeLine; decide, fun bl nbl => ?_⟩
  have hbl := fun o : HO => (upd_same : (upd H10 bl o) bl = some o)
  have nblB := deck_off dk10 nbl
  refine ⟨bl, rfl, ⟨_, SqL.of upd_same⟩, ?_⟩
  have kB : Keep (Bd a c) H5 (upd H10 bl (.lst [.int need, .int (need - 1), .int (need + r9), .int (r10 - 10)])) := (Keep.same s58).trans ((k9.trans k10).trans (keep_new nbl))
  have dkB := deck_new (o := .lst [.int need, .int (need - 1), .int (need + r9), .int (r10 - 10)]) dk10 nbl
  have hblB : (upd H10 bl (.lst [.int need, .int (need - 1), .int (need + r9), .int (r10 - 10)])) bl = some (.lst [.int need, .int (need - 1), .int (need + r9), .int (r10 - 10)]) := upd_same
  have henB := (k9.trans k10).trans (keep_new (o := .lst [.int need, .int (need - 1), .int (need + r9), .int (r10 - 10)]) nbl) _ _ nenB (s8 _ _ hen)
  have SEB := SE.keep ((Keep.same s8).trans ((k9.trans k10).trans (keep_new (o := .lst [.int need, .int (need - 1), .int (need + r9), .int (r10 - 10)]) nbl)))
  have hdmB := Dt.keep kB _ _ hdm5
  have hdfB := Dt.keep kB _ _ hdf
  generalize upd H10 bl (HO.lst [.int need, .int (need - 1), .int (need + r9), .int (r10 - 10)]) = HB at *
  refine for_list (K := K) (a := bl) (xs := [.int need, .int (need - 1), .int (need + r9), .int (r10 - 10)]) (fun j σ H' => (∃ y10 y11 y12 y13 y14 y15 y16 y17 y18 y19 y20 : Option V, σ = [some (.ref l), some (.ref a), some (.int (0 + (i : Int))), some (.int (1 + r)), some vm, some vf, some vs, some (.ref en), y8', some (.int need), y10, y11, y12, y13, y14, y15, y16, y17, y18, y19, y20]) ∧ Keep (Bd a c) HB H' ∧ ∃ cells n', DeckAt a c cells n' H' ∧ n5 + 2 ≤ n' ∧ n' ≤ n5 + 2 + 70 * (j : Int))
    ⟨⟨_, _, _, _, _, _, _, _, _, _, _, rfl⟩, Keep.rfl', cells10, n5 + 1 + 1, dkB, by omega, by omega⟩ (fun j σ H' _ q => SqL.of (q.2.1 _ _ nblB hblB)) ?_ ?_
  · rintro j x σ HC hx ⟨⟨y10, y11, y12, y13, y14, y15, y16, y17, y18, y19, y20, rfl⟩, kBC, cellsC, nC, dkC, nC1, nC2⟩
    obtain ⟨bd, rfl⟩ : ∃ bd : Int, x = .int bd := by
      match j, hx with
      | 0, hx => exact ⟨_, (Option.some.inj hx).symm⟩
      | 1, hx => exact ⟨_, (Option.some.inj hx).symm⟩
      | 2, hx => exact ⟨_, (Option.some.inj hx).symm⟩
      | 3, hx => exact ⟨_, (Option.some.inj hx).symm⟩
      | j + 4, hx => cases hx
    have hj4 : j < 4 := (List.getElem?_eq_some_iff.mp hx).1
    have hdmC := Dt.keep kBC _ _ hdmB
    have hdfC := Dt.keep kBC _ _ hdfB
    have henC := kBC _ _ nenB henB
    have SEC := SEB.keep kBC
    -- heights
    refine stN2 ?_
    refine joinE (t := tCall _ _ _ _) (fun v H' => Same HC H' ∧ ((v = .non ∧ ∀ hs, ¬ Valid rs es f bd hs) ∨ ∃ p hs, v = .ref p ∧ ¬ Bd a c p ∧ H' p = some (.tup (hs.map hV)) ∧ Valid rs es f bd hs ∧ ∀ x, some x ∈ hs → -100000000 ≤ x ∧ x ≤ 100000000)) (fun kk => ?_) ?_
    · refine ⟨_, rfl, _, rfl, _, rfl, Bd a c, Bd a c, vm, vf, L, rs, es, f, bd, rfl, hdmC, hdfC, M, hfl, hfb, fun H' sm hno => kk _ _ ⟨sm, .inl ⟨rfl, hno⟩⟩, fun H' p hs sm np hp V hb => kk _ _ ⟨sm, .inr ⟨p, hs, rfl, deck_off dkC np, hp, V, hb⟩⟩⟩
    rintro vd HD ⟨sCD, FV⟩
    have hdmD := same_dt sCD hdmC
    have hdfD := same_dt sCD hdfC
    have henD := sCD _ _ henC
    have SED := SEC.keep (Keep.same sCD)
    -- found just where the law's sums let it be
    refine stI2 ?_
    refine joinS (t := tIfS _ _ _) (fun σ' H' => σ' = [some (.ref l), some (.ref a), some (.int (0 + (i : Int))), some (.int (1 + r)), some vm, some vf, some vs, some (.ref en), y8', some (.int need), some (.int bd), some vd, y12, y13, y14, y15, y16, y17, y18, y19, y20] ∧ Same HD H') (fun kk => ?_) ?_
    · rcases FV with ⟨rfl, hno⟩ | ⟨p, hs, rfl, npB, hp, HV, hb⟩
      · rcases SED with ⟨rfl, hA, rfl⟩ | ⟨d, kvs, s', ii, ord, rfl, nd, hd, DH, O, RI, hii, hE1, hE2⟩
        · refine ⟨_, rfl, _, rfl, _, rfl, rfl, _, rfl, ite2 (fun h => absurd h (by decide)) fun _ => kk _ _ ⟨rfl, L2.Same.refl HD⟩⟩
        · have hlaw : ns ≠ [] ∧ bd < need := by
            have key : (ns = [] ∨ ¬ bd < need) → False := fun hor => by
              refine hno _ (valid_of O hf RI.zero (RI.lastN rfl) RI.dom fun u huo he => ?_)
              obtain ⟨x, hx⟩ := all_have O hf RI.zero (RI.lastN rfl) u ((O.mem u).mp huo)
              have hxn := hE2 u x hx he
              rw [hx]
              show x ≤ bd
              rcases hneed with e | ⟨_, hle⟩
              · rw [e] at hxn
                exact absurd hxn List.not_mem_nil
              · rcases hor with e | e
                · rw [e] at hxn
                  exact absurd hxn List.not_mem_nil
                · have := hle x hxn
                  omega
            exact ⟨fun z => key (.inl z), Classical.byContradiction fun z => key (.inr z)⟩
          refine ⟨_, rfl, _, rfl, _, rfl, _, rfl, Nat.zero_le _, fun e ne => ?_⟩
          have se := same_new (o := .lst []) ne
          refine ⟨en, e, _, rfl, rfl, SqL.of (se _ _ henD), SqL.of upd_same, _, rfl, ite2 (fun h => ?_) fun h => absurd ?_ h⟩
          · refine ⟨_, rfl, _, rfl, _, _, rfl, rfl, rfl, _, rfl, ite2 (fun h2 => ?_) fun _ => kk _ _ ⟨rfl, se⟩⟩
            exfalso
            replace h2 : (!decide (V.bl (decide (V.non = V.non)) = V.bl (decide (bd < need)))) = true := h2
            rw [decide_eq_true hlaw.2] at h2
            exact absurd h2 (by decide)
          · cases ns with
            | nil => exact absurd rfl hlaw.1
            | cons x xs => rfl
      · rcases SED with ⟨rfl, ⟨ordA, OA, hnoA⟩, rfl⟩ | ⟨d, kvs, s', ii, ord, rfl, nd, hd, DH, O, RI, hii, hE1, hE2⟩
        · exfalso
          obtain ⟨pp, hpp, _⟩ := pot_of_valid OA hf HV
          exact hnoA pp hpp
        · have hlaw : ns ≠ [] → ¬ bd < need := fun hne hlt => by
            rcases hneed with e | ⟨hm, _⟩
            · exact hne e
            · obtain ⟨u, huo, heu, hhu⟩ := hE1 need hm
              obtain ⟨pp, hpp, hps⟩ := pot_of_valid O hf HV
              have h1 := RI.low pp hpp u need hhu
              have h2 := (HV.2.2 u _ (hps u huo)).1 heu
              omega
          refine ⟨_, rfl, _, rfl, _, rfl, _, rfl, Nat.zero_le _, fun e ne => ?_⟩
          have se := same_new (o := .lst []) ne
          refine ⟨en, e, _, rfl, rfl, SqL.of (se _ _ henD), SqL.of upd_same, _, rfl, ite2 (fun h => ?_) fun h => ?_⟩
          · have hne : ns ≠ [] := fun z => by
              rw [z] at h
              exact absurd h (by decide)
            refine ⟨_, rfl, _, rfl, _, _, rfl, rfl, rfl, _, rfl, ite2 (fun h2 => ?_) fun _ => kk _ _ ⟨rfl, se⟩⟩
            exfalso
            replace h2 : (!decide (V.bl (decide (V.ref p = V.non)) = V.bl (decide (bd < need)))) = true := h2
            rw [decide_eq_false (hlaw hne)] at h2
            simp at h2
          · refine ⟨rfl, _, rfl, ite2 (fun h2 => ?_) fun _ => kk _ _ ⟨rfl, se⟩⟩
            exfalso
            simp at h2
    rintro _ HE ⟨rfl, sDE⟩
    have hdmE := same_dt sDE hdmD
    have hdfE := same_dt sDE hdfD
    have SEE := SED.keep (Keep.same sDE)
    -- what was found is heights
    refine stBI ?_
    refine joinS (t := tIfS _ _ _) (fun σ' H' => σ' = [some (.ref l), some (.ref a), some (.int (0 + (i : Int))), some (.int (1 + r)), some vm, some vf, some vs, some (.ref en), y8', some (.int need), some (.int bd), some vd, y12, y13, y14, y15, y16, y17, y18, y19, y20] ∧ Same HE H') (fun kk => ?_) ?_
    · rcases FV with ⟨rfl, hno⟩ | ⟨p, hs, rfl, npB, hp, HV, hb⟩
      · exact ⟨_, rfl, _, rfl, kk _ _ ⟨rfl, L2.Same.refl HE⟩⟩
      · have hsl : hs.length ≤ 10 := by
          rw [HV.1]
          exact hl10
        refine ⟨_, rfl, _, rfl, _, rfl, _, rfl, _, rfl, _, rfl, Bd a c, Bd a c, Bno, vm, vf, .ref p, L, rs, es, f, bd, hsDt hs, rfl, hdmE, hdfE, dt_hs (fun z => z) (.inl (sDE _ _ hp)), M, hfl, (by rw [nodes_hs]; omega), fun H' sm => ?_⟩
        rw [hsB_iff.mpr HV]
        exact ⟨_, rfl, kk _ _ ⟨rfl, sm⟩⟩
    rintro _ HF ⟨rfl, sEF⟩
    have sCF := sCD.trans (sDE.trans sEF)
    have hdmF := same_dt sEF hdmE
    have hdfF := same_dt sEF hdfE
    have SEF := SEE.keep (Keep.same sEF)
    have dkF := deck_same sCF dkC
    -- the least
    refine stB ?_
    refine joinE (t := tIf _ _ _) (fun v H' => Same HF H' ∧ ∃ p ls, v = .ref p ∧ ¬ Bd a c p ∧ Rd H' p (.tup (ls.map hV)) ∧ Bnd 100000000 ls ∧ 1 ≤ ls.length ∧ ls.length ≤ 10) (fun kk => ?_) ?_
    · rcases SEF with ⟨rfl, hA, rfl⟩ | ⟨d, kvs, s', ii, ord, rfl, nd, hd, DH, O, RI, hii, hE1, hE2⟩
      · refine ⟨_, rfl, _, rfl, by show 1 ≤ sizeLine; decide, fun t nt => ?_⟩
        refine ⟨t, 6, _, rfl, rfl, .inl upd_same, List.cons_ne_nil _ _, by decide, by decide, by show 1 ≤ 1000; decide, fun q H7 s7 hq wq => kk _ _ ⟨(same_new nt).trans s7, q, List.replicate 6 (some 0), rfl, nb_of (tb_deck (deck_new dkF nt)) (deck_off dkF nt) wq, hq, fun x hx => ?_, by decide, by decide⟩⟩
        have := List.eq_of_mem_replicate hx
        cases this
        omega
      · obtain ⟨m, pr, pe, rvs, rfl, nm, MMF⟩ := dt_mach hdmF
        have hx1 : atI [V.int (L : Int), .ref pr, .ref pe] 1 = some (.ref pr) := atI_nat (j := 1) rfl
        have hrl := MMF.hl
        refine ⟨_, rfl, _, rfl, _, rfl, m, _, 1, _, rfl, rfl, .inl MMF.hm, hx1, pr, rvs, rfl, .inr (.inl MMF.hr), (rvs.length : Int), rfl, by omega, by omega, fun D2 nD2 => ?_⟩
        have hrz : (List.range rs.length).length < sizeLine := small1000 (by rw [List.length_range]; omega)
        refine lc_range (lo := 0) (n := (rvs.length : Int).toNat) (NInv (fun u : Nat => hV (s'.h u)) (List.range rs.length) HF D2) (nstart nD2) ?_ ?_
        · rintro u H5' hu p
          have hu2 : u < rs.length := by omega
          refine ⟨rfl, _, rfl, d, rfl, .inl ⟨kvs, .inl (p.1 _ _ hd)⟩, _, rfl, (s'.h u).map V.int, .inl ⟨kvs, .inl _, .inl (p.1 _ _ hd), rfl, (by rw [show ((0 : Int) + (u : Int)) = (u : Int) by omega]; exact (DH.val u).symm)⟩, nturn hrz nD2 (List.getElem?_range hu2) p (L2.Same.refl H5') _ ?_⟩
          cases s'.h u <;> rfl
        · rintro H5' p
          have hl5 : (rvs.length : Int).toNat = (List.range rs.length).length := by rw [List.length_range]; omega
          obtain ⟨s5, hD5⟩ := nend hl5 p
          refine ⟨D2, _, rfl, .inl ⟨SqL.of hD5, fun q hq => kk _ _ ⟨s5.trans (same_new hq), q, (List.range rs.length).map s'.h, rfl, deck_off (deck_same s5 dkF) hq, .inl (by rw [upd_same, List.map_map]; rfl), fun x hx => ?_, by rw [List.length_map, List.length_range]; exact M.l1, by rw [List.length_map, List.length_range]; exact hl10⟩⟩⟩
          obtain ⟨u, _, hu⟩ := List.mem_map.mp hx
          have hb := RI.bnd u x hu
          have hn := RI.nowle
          have h8 : (edgesOf rs f ord).length ≤ 1200 := Nat.le_trans (edges_len M.row ord) (Nat.mul_le_mul M.L3 (Nat.le_trans O.len M.l400))
          have h7 : (ii - 1) * (edgesOf rs f ord).length ≤ 401 * 1200 := Nat.mul_le_mul (by omega) h8
          omega
    rintro _ HG ⟨sFG, lp, ls, rfl, nlp, hlp, hlb, hl1, hll⟩
    have dkG := deck_same sFG dkF
    have hlz : ls.length < sizeLine := small1000 (by omega)
    -- more
    refine ⟨_, rfl, lp, rfl, ⟨_, .inl hlp⟩, fun D3 nD3 => ?_⟩
    have nD3B := deck_off dkG nD3
    refine lc_tup (K := K) (a := lp) (xs := ls.map hV) (CInv a c D3 HG (Gh 200000000) nC 1) (cstart dkG nD3) (fun j H' _ q => by
      obtain ⟨_, _, _, _, _, _, q, _⟩ := q
      exact .inl (q.rd nlp hlp)) ?_ ?_
    · rintro j x H6 hx' ⟨cells6, n6, acc, dk6', h1, h2, k6, hD6, hl6, hG6⟩
      rw [List.getElem?_map] at hx'
      obtain ⟨o, ho, rfl⟩ := Option.map_eq_some_iff.mp hx'
      have hjl := (List.getElem?_eq_some_iff.mp ho).1
      refine ⟨rfl, _, rfl, _, rfl, ?_⟩
      cases o with
      | none => exact cstep nD3 nD3B (by omega) h1 h2 k6 hD6 hl6 hG6 dk6' (Int.le_refl _) (by omega) Keep.rfl' ⟨none, rfl, fun _ z => by cases z⟩
      | some o =>
        refine ⟨_, rfl, _, rfl, a, c, cells6, n6, 3, rfl, dk6', by decide, by decide, by omega, by omega, fun H7 cells7 r7 r70 r73 dk7 k7 => ⟨_, _, rfl, rfl, ?_⟩⟩
        have hb := hlb o (List.mem_of_getElem? ho)
        exact cstep nD3 nD3B (by omega) h1 h2 k6 hD6 hl6 hG6 dk7 (by omega) (by omega) k7 ⟨some (o + r7), rfl, fun _ z => by cases z; omega⟩
    rintro HM ⟨cellsM, nM, accM, dkM, nM1, nM2, kGM, hDM, hlM, hGM⟩
    refine ⟨D3, accM, rfl, .inl ⟨SqL.of hDM, fun mp nmp => ?_⟩⟩
    obtain ⟨ms, rfl, hmb⟩ := gh_all hGM
    rw [List.length_map] at hlM
    have smp := same_new (o := .tup (ms.map hV)) nmp
    have nmpB := deck_off dkM nmp
    have dkM1 := deck_same smp dkM
    have kCM : Keep (Bd a c) HC (upd HM mp (.tup (ms.map hV))) := ((Keep.same (sCF.trans sFG)).trans kGM).trans (Keep.same smp)
    have hmp : Rd (upd HM mp (.tup (ms.map hV))) mp (.tup (ms.map hV)) := .inl upd_same
    have hlpM : Rd (upd HM mp (.tup (ms.map hV))) lp (.tup (ls.map hV)) := same_rd smp (kGM.rd nlp hlp)
    generalize upd HM mp (HO.tup (ms.map hV)) = HM1 at *
    have hlM2 : (ls.map hV).length = ls.length := List.length_map _
    -- every
    refine ⟨_, rfl, lp, rfl, ⟨_, .inl hlpM⟩, fun D4 nD4 => ?_⟩
    have nD4B := deck_off dkM1 nD4
    refine lc_tup (K := K) (a := lp) (xs := ls.map hV) (CInv a c D4 HM1 (Gh 200000000) nM 1) (cstart dkM1 nD4) (fun j H' _ q => by
      obtain ⟨_, _, _, _, _, _, q, _⟩ := q
      exact .inl (q.rd nlp hlpM)) ?_ ?_
    · rintro j x H6 hx' ⟨cells6, n6, acc, dk6', h1, h2, k6, hD6, hl6, hG6⟩
      rw [List.getElem?_map] at hx'
      obtain ⟨o, ho, rfl⟩ := Option.map_eq_some_iff.mp hx'
      have hjl := (List.getElem?_eq_some_iff.mp ho).1
      refine ⟨rfl, _, rfl, _, rfl, ?_⟩
      cases o with
      | none =>
        refine ⟨_, rfl, a, c, cells6, n6, 30, rfl, dk6', by decide, by decide, by omega, by omega, fun H7 cells7 r7 r70 r73 dk7 k7 => ⟨_, _, rfl, rfl, ?_⟩⟩
        exact cstep nD4 nD4B (by omega) h1 h2 k6 hD6 hl6 hG6 dk7 (by omega) (by omega) k7 ⟨some (r7 - 15), rfl, fun _ z => by cases z; omega⟩
      | some o =>
        have hb := hlb o (List.mem_of_getElem? ho)
        exact ⟨_, rfl, cstep nD4 nD4B (by omega) h1 h2 k6 hD6 hl6 hG6 dk6' (Int.le_refl _) (by omega) Keep.rfl' ⟨some o, rfl, fun _ z => by cases z; omega⟩⟩
    rintro HE0 ⟨cellsE, nE, accE, dkE0, nE1, nE2, kME, hDE, hlE, hGE⟩
    refine ⟨D4, accE, rfl, .inl ⟨SqL.of hDE, fun ep nep => ?_⟩⟩
    obtain ⟨vs2, rfl, heb⟩ := gh_all hGE
    rw [List.length_map] at hlE
    have sep := same_new (o := .tup (vs2.map hV)) nep
    have nepB := deck_off dkE0 nep
    have dkE1 := deck_same sep dkE0
    have kME1 : Keep (Bd a c) HM1 (upd HE0 ep (.tup (vs2.map hV))) := kME.trans (Keep.same sep)
    have hep : Rd (upd HE0 ep (.tup (vs2.map hV))) ep (.tup (vs2.map hV)) := .inl upd_same
    generalize upd HE0 ep (HO.tup (vs2.map hV)) = HE1 at *
    have kCE := kCM.trans kME1
    have hlpE := kME1.rd nlp hlpM
    have hmpE := kME1.rd nmpB hmp
    have bw : ∀ {N : Int} {os : List (Option Int)}, N ≤ 1000000000 → Bnd N os → Bnd 1000000000 os := fun hN h x hx => by
      have := h x hx
      omega
    -- the values
    have v1 : Vv (Bd a c) K HE1 vd 20 1 := by
      have kDE : Keep (Bd a c) HD HE1 := ((Keep.same ((sDE.trans sEF).trans sFG)).trans kGM).trans ((Keep.same smp).trans kME1)
      rcases FV with ⟨rfl, hno⟩ | ⟨p, hs, rfl, npB, hp, HV, hb⟩
      · exact vv_non
      · exact vv_hs npB (.inl (kDE _ _ npB hp)) (bw (by decide) hb) (by rw [HV.1]; omega)
    have v2 : Vv (Bd a c) K HE1 (.ref lp) 20 1 := vv_hs nlp hlpE (bw (by decide) hlb) (by omega)
    have v3 : Vv (Bd a c) K HE1 (.ref mp) 20 1 := vv_hs nmpB hmpE (bw (by decide) hmb) (by omega)
    have v4 : Vv (Bd a c) K HE1 (.ref ep) 20 1 := vv_hs nepB hep (bw (by decide) heb) (by omega)
    refine ⟨_, rfl, _, rfl, _, rfl, _, rfl, _, rfl, lp, _, rfl, .inl hlpE, fun q3 nq3 ne3 => ?_⟩
    have s3 := same_new (o := .lst (ls.map hV)) nq3
    have v5 : Vv (Bd a c) K (upd HE1 q3 (.lst (ls.map hV))) (.ref q3) 20 1 := vv_lst (deck_off dkE1 nq3) ne3 (.inl upd_same) (bw (by decide) hlb) (by omega)
    have dk3' := deck_same s3 dkE1
    refine ⟨_, rfl, by show 1 ≤ sizeLine; decide, fun t5 nt5 => ?_⟩
    have s5 := same_new (o := .tup [.int 0]) nt5
    have dk5' := deck_same s5 dk3'
    have s35 := s3.trans s5
    refine ⟨lp, t5, _, _, rfl, rfl, same_rd s35 hlpE, .inl upd_same, sz_of (by rw [hlM2, List.length_singleton]; omega), fun q4 H14 s4 hq4 w4 => ?_⟩
    have nq4 := nb_of2 (tb_deck dk5') nlp (deck_off dk3' nt5) w4
    rw [show ls.map hV ++ [V.int 0] = (ls ++ [some 0]).map hV by rw [List.map_append]; rfl] at hq4
    have v6 : Vv (Bd a c) K H14 (.ref q4) 20 1 := vv_hs nq4 hq4 (fun x hx => by
      rcases List.mem_append.mp hx with hx | hx
      · exact bw (by decide) hlb x hx
      · have := List.mem_singleton.mp hx
        cases this
        omega) (by rw [List.length_append, List.length_singleton]; omega)
    have s14 := s35.trans s4
    have dk14 := deck_same s4 dk5'
    refine ⟨_, rfl, 1, rfl, lp, _, rfl, same_rd s14 hlpE, fun q5 H15 s15 hq5 w5 => ?_⟩
    have nq5 := nb_of (tb_deck dk14) nlp w5
    rw [show cutV (ls.map hV) (some 1) none = (ls.drop 1).map hV by rw [List.map_drop]; exact cut_drop _ 1 (by rw [hlM2]; omega)] at hq5
    have v7 : Vv (Bd a c) K H15 (.ref q5) 20 1 := vv_hs nq5 hq5 (fun x hx => bw (by decide) hlb x (List.mem_of_mem_drop hx)) (by rw [List.length_drop]; omega)
    have dk15 := deck_same s15 dk14
    refine ⟨by show 0 ≤ sizeLine; decide, fun t6 nt6 => ?_⟩
    have s6 := same_new (o := .tup []) nt6
    have v9 : Vv (Bd a c) K (upd H15 t6 (.tup [])) (.ref t6) 20 1 := vv_hs (hs := []) (deck_off dk15 nt6) (.inl upd_same) (fun x hx => absurd hx List.not_mem_nil) (by decide)
    have dk16 := deck_same s6 dk15
    refine ⟨by show 9 ≤ sizeLine; decide, fun VL nVL => ?_⟩
    have sE16 : Same HE1 (upd H15 t6 (.tup [])) := s14.trans (s15.trans s6)
    have nVLB := deck_off dk16 nVL
    have all0 : ∀ v ∈ [vd, .ref lp, .ref mp, .ref ep, .ref q3, .ref q4, .ref q5, .non, .ref t6], Vv (Bd a c) K (upd H15 t6 (.tup [])) v 60 5 := by
      intro v hv
      simp only [List.mem_cons, List.not_mem_nil, or_false] at hv
      rcases hv with rfl | rfl | rfl | rfl | rfl | rfl | rfl | rfl | rfl
      · exact (v1.keep (Keep.same sE16)).le (by decide) (by decide)
      · exact (v2.keep (Keep.same sE16)).le (by decide) (by decide)
      · exact (v3.keep (Keep.same sE16)).le (by decide) (by decide)
      · exact (v4.keep (Keep.same sE16)).le (by decide) (by decide)
      · exact (v5.keep (Keep.same ((s5.trans s4).trans (s15.trans s6)))).le (by decide) (by decide)
      · exact (v6.keep (Keep.same (s15.trans s6))).le (by decide) (by decide)
      · exact (v7.keep (Keep.same s6)).le (by decide) (by decide)
      · exact vv_non.le (by decide) (by decide)
      · exact v9.le (by decide) (by decide)
    have kC16 := kCE.trans (Keep.same sE16)
    have hlp16 := same_rd sE16 hlpE
    have hC0 : ∀ {p : Addr}, (upd H15 t6 (.tup [])) p = none → ¬ Bd a c p → HC p = none := fun {p} h nb => by
      cases z : HC p with
      | none => rfl
      | some o =>
        rw [kC16 _ _ nb z] at h
        cases h
    have hVLC := hC0 nVL nVLB
    generalize upd H15 t6 (HO.tup []) = H16 at *
    obtain ⟨vals, hvals⟩ : ∃ vals : List V, vals = [vd, .ref lp, .ref mp, .ref ep, .ref q3, .ref q4, .ref q5, .non, .ref t6] := ⟨_, rfl⟩
    have hvl : vals.length = 9 := by rw [hvals]; rfl
    rw [← hvals] at all0
    show gName 16 (V.ref VL) _ (upd H16 VL (.lst [vd, .ref lp, .ref mp, .ref ep, .ref q3, .ref q4, .ref q5, .non, .ref t6])) _
    rw [← hvals]
    have sVL := same_new (o := .lst vals) nVL
    have all1 : ∀ v ∈ vals, Vv (fun b => Bd a c b ∨ b = VL) K (upd H16 VL (.lst vals)) v 60 5 := fun v hv => ((all0 v hv).off nVL).keep (Keep.same sVL)
    have hVL : (upd H16 VL (.lst vals)) VL = some (.lst vals) := upd_same
    have dk17 := deck_same sVL dk16
    have kC17 := kC16.trans (Keep.same sVL)
    have hlp17 := same_rd sVL hlp16
    have nlVL : lp ≠ VL := fun z => by
      rw [z] at hlp16
      rcases hlp16 with h | ⟨_, h⟩ <;> (rw [nVL] at h; cases h)
    clear hvals all0 v1 v2 v3 v4 v5 v6 v7 v9
    generalize upd H16 VL (HO.lst vals) = H17 at *
    -- one more
    refine ⟨_, rfl, .inl ⟨rfl, _, SqL.of hVL⟩, _, rfl, lp, rfl, ⟨_, .inl hlp17⟩, fun D5 nD5 => ?_⟩
    refine lc_tup (K := K) (a := lp) (xs := ls.map hV) (NInv (fun o : Option Int => hV (o.map (· + 1))) ls H17 D5) (nstart nD5) (fun j H' _ q => .inl (same_rd q.1 hlp17)) ?_ ?_
    · rintro j x H6 hx' p
      rw [List.getElem?_map] at hx'
      obtain ⟨o, ho, rfl⟩ := Option.map_eq_some_iff.mp hx'
      have fin := nturn hlz nD5 ho p (L2.Same.refl H6)
      refine ⟨rfl, _, rfl, _, rfl, ?_⟩
      cases o with
      | none => exact fin _ rfl
      | some o => exact ⟨_, rfl, _, _, rfl, rfl, fin _ rfl⟩
    rintro H18 p
    obtain ⟨s18, hD18⟩ := nend hlM2 p
    refine ⟨D5, _, rfl, .inl ⟨SqL.of hD18, fun pp npp => ?_⟩⟩
    have spp := same_new (o := .tup (ls.map fun o : Option Int => hV (o.map (· + 1)))) npp
    have dk18 := deck_same s18 dk17
    have s1819 := s18.trans spp
    have hVL19 := s1819 _ _ hVL
    have tb18 : TB (fun b => Bd a c b ∨ b = VL) H18 := fun b z e => by
      rcases z with z | z
      · exact tb_deck dk18 b z e
      · rw [z, s18 _ _ hVL] at e
        cases e
    have vpp : Vv (fun b => Bd a c b ∨ b = VL) K (upd H18 pp (.tup (ls.map fun o : Option Int => hV (o.map (· + 1))))) (.ref pp) 60 5 := by
      refine (vv_hs (hs := ls.map fun o : Option Int => o.map (· + 1)) (tb_off tb18 npp) (.inl (by rw [upd_same, List.map_map]; rfl)) (fun x hx => ?_) (by rw [List.length_map]; omega)).le (by decide) (by decide)
      obtain ⟨o, ho, e⟩ := List.mem_map.mp hx
      cases o with
      | none => cases e
      | some y =>
        cases e
        have := hlb y ho
        show -1000000000 ≤ y + 1 ∧ y + 1 ≤ 1000000000
        omega
    have all2 : ∀ v ∈ vals ++ [.ref pp], Vv (fun b => Bd a c b ∨ b = VL) K (upd H18 pp (.tup (ls.map fun o : Option Int => hV (o.map (· + 1))))) v 60 5 := fun v hv => by
      rcases List.mem_append.mp hv with hv | hv
      · exact (all1 v hv).keep (Keep.same s1819)
      · rw [List.mem_singleton.mp hv]
        exact vpp
    have dk19 := deck_same spp dk18
    have kC19 := kC17.trans (Keep.same s1819)
    have hlp19 := same_rd s1819 hlp17
    generalize upd H18 pp (HO.tup (ls.map fun o : Option Int => hV (o.map (· + 1)))) = H19 at *
    refine ⟨VL, vals, _, rfl, rfl, hVL19, small1000 (by omega), ?_⟩
    have kVL : Keep (fun b => Bd a c b ∨ b = VL) H19 (upd H19 VL (.lst (vals ++ [.ref pp]))) := fun b o nb e => by
      rw [upd_ne (fun z => nb (.inr z))]
      exact e
    have all3 : ∀ v ∈ vals ++ [.ref pp], Vv (fun b => Bd a c b ∨ b = VL) K (upd H19 VL (.lst (vals ++ [.ref pp]))) v 60 5 := fun v hv => (all2 v hv).keep kVL
    have dk20 := deck_upd (o := .lst (vals ++ [.ref pp])) dk19 nVLB
    have kC20 := keep_drop kC19 hVLC kVL
    have hlp20 : Rd (upd H19 VL (.lst (vals ++ [.ref pp]))) lp (.tup (ls.map hV)) := kVL.rd (fun z => z.elim nlp nlVL) hlp19
    have hVL20 : (upd H19 VL (.lst (vals ++ [.ref pp]))) VL = some (.lst (vals ++ [.ref pp])) := upd_same
    have hv10 : (vals ++ [V.ref pp]).length = 10 := by rw [List.length_append, hvl]; rfl
    generalize upd H19 VL (HO.lst (vals ++ [.ref pp])) = H20 at *
    generalize vals ++ [V.ref pp] = vals' at *
    clear all1 all2 vpp
    -- bent ones
    refine ⟨_, rfl, 6, rfl, by decide, by decide, fun D6 nD6 => ?_⟩
    have nD6B := deck_off dk20 nD6
    have all4 : ∀ v ∈ vals', Vv (fun b => (Bd a c b ∨ b = VL) ∨ b = D6) K (upd H20 D6 (.lst [])) v 60 5 := fun v hv => ((all3 v hv).off nD6).keep (Keep.same (same_new nD6))
    have hVL21 := (same_new (o := .lst []) nD6) _ _ hVL20
    have nVD : VL ≠ D6 := ne_of_none hVL20 nD6
    have hD6C : HC D6 = none := by
      cases z : HC D6 with
      | none => rfl
      | some o =>
        rw [kC20 _ _ nD6B z] at nD6
        cases nD6
    have nlD6 : lp ≠ D6 := fun z => by
      rw [z] at hlp20
      rcases hlp20 with h | ⟨_, h⟩ <;> (rw [nD6] at h; cases h)
    have hlp21 := same_rd (same_new (o := .lst []) nD6) hlp20
    have dk21 := deck_new (o := .lst []) dk20 nD6
    have kC21 := kC20.trans (keep_new (B := Bd a c) (o := .lst []) nD6)
    have wide : ∀ {H1 H2 : Hp}, Keep (fun b => Bd a c b ∨ b = D6) H1 H2 → Keep (fun b => (Bd a c b ∨ b = VL) ∨ b = D6) H1 H2 := fun k => Keep.wide (fun b z => z.elim (fun z => .inl (.inl z)) .inr) k
    have hD21 : (upd H20 D6 (.lst [])) D6 = some (.lst []) := upd_same
    refine lc_range (lo := 0) (n := 6) (fun j H' => ∃ cells' n' acc, DeckAt a c cells' n' H' ∧ nE ≤ n' ∧ n' ≤ nE + 8 * (j : Int) ∧ Keep (fun b => Bd a c b ∨ b = D6) (upd H20 D6 (.lst [])) H' ∧ H' D6 = some (.lst acc) ∧ acc.length = j ∧ ∀ v ∈ acc, Vv (fun b => (Bd a c b ∨ b = VL) ∨ b = D6) K H' v 60 5)
      ⟨cellsE, nE, [], dk21, Int.le_refl _, by omega, Keep.rfl', upd_same, rfl, fun v z => absurd z List.not_mem_nil⟩ ?_ ?_
    · rintro j H' hj ⟨cells', n', acc, dk', hn1, hn2, kj, hDj, hlj, hvj⟩
      have hVLj := kj _ _ (fun z => z.elim nVLB nVD) hVL21
      have hlpj := kj.rd (fun z => z.elim nlp nlD6) hlp21
      have tbj : TB (fun b => (Bd a c b ∨ b = VL) ∨ b = D6) H' := fun b z e => by
        rcases z with (z | z) | z
        · exact tb_deck dk' b z e
        · rw [z, hVLj] at e; cases e
        · rw [z, hDj] at e; cases e
      obtain ⟨dm, e1, e2, e3, e4⟩ : Vv (fun b => (Bd a c b ∨ b = VL) ∨ b = D6) K H' (.ref lp) 20 1 := vv_hs (fun z => z.elim (fun z => z.elim nlp nlVL) nlD6) hlpj (bw (by decide) hlb) (by omega)
      refine ⟨rfl, _, rfl, _, rfl, fun b => (Bd a c b ∨ b = VL) ∨ b = D6, a, c, cells', n', .ref lp, dm, rfl, fun b z => .inl (.inl z), tbj, dk', by omega, by omega, by decide, e1, e2, by omega, fun H3 cells3 n3 v3 d3 dk3 m1 m2 k3 hd3 hs3 hn3 hp3 => ?_⟩
      have hD3 := k3 _ _ nD6B hDj
      have kD : Keep (fun b => Bd a c b ∨ b = D6) H3 (upd H3 D6 (.lst (acc ++ [v3]))) := fun b o nb e => by
        rw [upd_ne (fun z => nb (.inr z))]
        exact e
      have kj3 : Keep (fun b => Bd a c b ∨ b = D6) H' H3 := Keep.wide (fun b z => .inl z) k3
      refine ⟨acc, hD3, small1000 (by omega), cells3, n3, acc ++ [v3], deck_upd dk3 nD6B, by omega, by omega, (kj.trans kj3).trans kD, upd_same, by rw [List.length_append, hlj]; rfl, fun v hv => ?_⟩
      rcases List.mem_append.mp hv with hv | hv
      · exact (hvj v hv).keep (wide (kj3.trans kD))
      · rw [List.mem_singleton.mp hv]
        exact Vv.keep (wide kD) ⟨d3, hd3, hs3, by omega, by omega⟩
    rintro H22 ⟨cells', n', acc, dk', hn1, hn2, kj, hDj, hlj, hvj⟩
    have hn2 : n' ≤ nE + 8 * (6 : Int) := hn2
    have hVLj := kj _ _ (fun z => z.elim nVLB nVD) hVL21
    refine ⟨VL, D6, vals', acc, rfl, rfl, hVLj, hDj, sz_of (by omega), fun Lf nLf => ?_⟩
    have sLf := same_new (o := .lst (vals' ++ acc)) nLf
    have hLf : (upd H22 Lf (.lst (vals' ++ acc))) Lf = some (.lst (vals' ++ acc)) := upd_same
    have all5 : ∀ v ∈ vals' ++ acc, Vv (fun b => (Bd a c b ∨ b = VL) ∨ b = D6) K (upd H22 Lf (.lst (vals' ++ acc))) v 60 5 := fun v hv => by
      rcases List.mem_append.mp hv with hv | hv
      · exact ((all4 v hv).keep (wide kj)).keep (Keep.same sLf)
      · exact (hvj v hv).keep (Keep.same sLf)
    have kC22 := (keep_drop kC21 hD6C kj).trans (Keep.same sLf)
    have dk22 := deck_same sLf dk'
    generalize upd H22 Lf (HO.lst (vals' ++ acc)) = H23 at *
    have hdm23 := Dt.keep kC22 _ _ hdmC
    have hdf23 := Dt.keep kC22 _ _ hdfC
    refine ⟨Lf, rfl, ⟨_, SqL.of hLf⟩, ?_⟩
    refine for_list (K := K) (a := Lf) (xs := vals' ++ acc) (fun q σ H'' => (∃ z11 z12 z13 z14 z15 z16 z17 z18 z19 z20 : Option V, σ = [some (.ref l), some (.ref a), some (.int (0 + (i : Int))), some (.int (1 + r)), some vm, some vf, some vs, some (.ref en), y8', some (.int need), some (.int bd), z11, z12, z13, z14, z15, z16, z17, z18, z19, z20]) ∧ Same H23 H'')
      ⟨⟨_, _, _, _, _, _, _, _, _, _, rfl⟩, L2.Same.refl _⟩ (fun q σ H'' _ p => SqL.of (p.2 _ _ hLf)) ?_ ?_
    · rintro q v σ H'' hv2 ⟨⟨z11, z12, z13, z14, z15, z16, z17, z18, z19, z20, rfl⟩, sf⟩
      obtain ⟨d, hd0, hs0, hn0, hp0⟩ := all5 v (List.mem_of_getElem? hv2)
      have hd := same_dt sf hd0
      have hdm' := same_dt sf hdm23
      have hdf' := same_dt sf hdf23
      have hsh := sm_show d hs0
      have hfit := sm_fits hs0 (by omega)
      refine ⟨_, rfl, v, d, _, rfl, hd, hsh, by omega, hfit, _, rfl, _, rfl, _, rfl, _, rfl, Bd a c, Bd a c, _, vm, vf, v, L, rs, es, f, bd, d, rfl, hdm', hdf', hd, M, hfl, by omega, fun H3 s3 => ⟨_, _, rfl, ?_⟩⟩
      have hd3 := same_dt s3 hd
      refine ⟨_, rfl, _, rfl, _, rfl, _, rfl, Bd a c, Bd a c, _, vm, vf, v, L, rs, es, f, bd, d, rfl, same_dt s3 hdm', same_dt s3 hdf', hd3, M, hfl, by omega, fun H4 s4 => ?_⟩
      generalize hsB rs es f bd d = bb
      have sb : sm (.bool bb) = true := by rw [sm]
      have nbb : nodes (.bool bb) ≤ 100000 := by rw [nodes]; decide
      have dbb : (PyData.bool bb).depth ≤ 60 := by rw [PyData.depth]; decide
      refine ⟨.bl bb, .bool bb, Bno, rfl, .bl bb, sm_show _ sb, dbb, sm_fits sb nbb, _, rfl, .bl bb, .bool bb, Bno, rfl, .bl bb, sm_show _ sb, dbb, sm_fits sb nbb, rfl, _, rfl, ite2 (fun h => absurd h (str_ne_false _)) (fun _ => ?_)⟩
      have hd4 := same_dt s4 hd3
      refine ⟨_, rfl, v, d, _, rfl, hd4, hsh, by omega, hfit, _, rfl, rfl, _, rfl, ite2 (fun h => absurd h (str_ne_false _)) (fun _ => ?_)⟩
      exact ⟨⟨_, _, _, _, _, _, _, _, _, _, rfl⟩, sf.trans (s3.trans s4)⟩
    rintro σ H'' ⟨⟨z11, z12, z13, z14, z15, z16, z17, z18, z19, z20, rfl⟩, sf⟩
    exact ⟨⟨_, _, _, _, _, _, _, _, _, _, _, rfl⟩, (kBC.trans kC22).trans (Keep.same sf), cells', n', deck_same sf dk22, by omega, by omega⟩
  · rintro σ HC ⟨⟨y10, y11, y12, y13, y14, y15, y16, y17, y18, y19, y20, rfl⟩, kBC, cellsC, nC, dkC, nC1, nC2⟩
    have nC2 : nC ≤ n5 + 2 + 70 * (4 : Int) := nC2
    exact ⟨⟨_, _, _, _, _, _, _, _, _, _, _, _, _, _, _, _, _, _, _, rfl⟩, cellsC, nC, dkC, by omega, by omega⟩
end
theorem all_mk {l : PySem.W.OpenLaw} {w : World} {K : PySem.W.Frag} {h : Heap} {mg : Str → Option Value} {fa f0 f1 f2 f3 f4 f5 f6 f7 f8 f9 f10 f11 f12 f13 f14 f15 f16 f17 f18 : Addr} (inK : K.In h) (atG : h.Ns mainGlobals mg) (hfa : mg "law" = some (.ref fa))
    {odd0 and0 odd1 and1 odd2 and2 odd3 and3 odd4 and4 odd5 and5 odd6 and6 odd7 and7 odd8 and8 odd9 and9 odd10 and10 odd11 and11 odd12 and12 odd13 and13 odd14 and14 odd15 and15 odd16 and16 odd17 and17 odd18 and18 : Option Addr} {sld0 sld1 sld2 sld3 sld4 sld5 sld6 sld7 sld8 sld9 sld10 sld11 sld12 sld13 sld14 sld15 sld16 sld17 sld18 : Array (Option Value)} {ocd0 kVd0 dcd0 pmd0 cdd0 ctd0 ocd1 kVd1 dcd1 pmd1 cdd1 ctd1 ocd2 kVd2 dcd2 pmd2 cdd2 ctd2 ocd3 kVd3 dcd3 pmd3 cdd3 ctd3 ocd4 kVd4 dcd4 pmd4 cdd4 ctd4 ocd5 kVd5 dcd5 pmd5 cdd5 ctd5 ocd6 kVd6 dcd6 pmd6 cdd6 ctd6 ocd7 kVd7 dcd7 pmd7 cdd7 ctd7 ocd8 kVd8 dcd8 pmd8 cdd8 ctd8 ocd9 kVd9 dcd9 pmd9 cdd9 ctd9 ocd10 kVd10 dcd10 pmd10 cdd10 ctd10 ocd11 kVd11 dcd11 pmd11 cdd11 ctd11 ocd12 kVd12 dcd12 pmd12 cdd12 ctd12 ocd13 kVd13 dcd13 pmd13 cdd13 ctd13 ocd14 kVd14 dcd14 pmd14 cdd14 ctd14 ocd15 kVd15 dcd15 pmd15 cdd15 ctd15 ocd16 kVd16 dcd16 pmd16 cdd16 ctd16 ocd17 kVd17 dcd17 pmd17 cdd17 ctd17 ocd18 kVd18 dcd18 pmd18 cdd18 ctd18 : Value}
    (a0 : PySem.W.nsIn K mainGlobals "reached" = some (some (.ref f0)))
    (l0 : K.lookup f0 = some ⟨ocd0, odd0, .func (PySem.W.fnOf "reached" "reached" (defArgs sReached) (defBody sReached) (defScope sReached) .none kVd0 dcd0 pmd0 and0 cdd0 ctd0), sld0⟩)
    (c0 : PySem.W.codeIn K cdd0 "reached" = true)
    (k0 : PySem.W.keepIn K (.ref f0) = true)
    (a1 : PySem.W.nsIn K mainGlobals "raised" = some (some (.ref f1)))
    (l1 : K.lookup f1 = some ⟨ocd1, odd1, .func (PySem.W.fnOf "raised" "raised" (defArgs sRaised) (defBody sRaised) (defScope sRaised) .none kVd1 dcd1 pmd1 and1 cdd1 ctd1), sld1⟩)
    (c1 : PySem.W.codeIn K cdd1 "raised" = true)
    (k1 : PySem.W.keepIn K (.ref f1) = true)
    (a2 : PySem.W.nsIn K mainGlobals "ring_behind" = some (some (.ref f2)))
    (l2 : K.lookup f2 = some ⟨ocd2, odd2, .func (PySem.W.fnOf "ring_behind" "ring_behind" (defArgs sRing) (defBody sRing) (defScope sRing) .none kVd2 dcd2 pmd2 and2 cdd2 ctd2), sld2⟩)
    (c2 : PySem.W.codeIn K cdd2 "ring_behind" = true)
    (k2 : PySem.W.keepIn K (.ref f2) = true)
    (a3 : PySem.W.nsIn K mainGlobals "is_integer" = some (some (.ref f3)))
    (l3 : K.lookup f3 = some ⟨ocd3, odd3, .func (PySem.W.fnOf "is_integer" "is_integer" (defArgs sInteger) (defBody sInteger) (defScope sInteger) .none kVd3 dcd3 pmd3 and3 cdd3 ctd3), sld3⟩)
    (c3 : PySem.W.codeIn K cdd3 "is_integer" = true)
    (k3 : PySem.W.keepIn K (.ref f3) = true)
    (a4 : PySem.W.nsIn K mainGlobals "heights" = some (some (.ref f4)))
    (l4 : K.lookup f4 = some ⟨ocd4, odd4, .func (PySem.W.fnOf "heights" "heights" (defArgs sHeights) (defBody sHeights) (defScope sHeights) .none kVd4 dcd4 pmd4 and4 cdd4 ctd4), sld4⟩)
    (c4 : PySem.W.codeIn K cdd4 "heights" = true)
    (k4 : PySem.W.keepIn K (.ref f4) = true)
    (a5 : PySem.W.nsIn K mainGlobals "heights_hold" = some (some (.ref f5)))
    (l5 : K.lookup f5 = some ⟨ocd5, odd5, .func (PySem.W.fnOf "heights_hold" "heights_hold" (defArgs sHold) (defBody sHold) (defScope sHold) .none kVd5 dcd5 pmd5 and5 cdd5 ctd5), sld5⟩)
    (c5 : PySem.W.codeIn K cdd5 "heights_hold" = true)
    (k5 : PySem.W.keepIn K (.ref f5) = true)
    (a6 : PySem.W.nsIn K mainGlobals "_law_deck" = some (some (.ref f6)))
    (l6 : K.lookup f6 = some ⟨ocd6, odd6, .func (PySem.W.fnOf "_law_deck" "_law_deck" (defArgs sDeck) (defBody sDeck) (defScope sDeck) .none kVd6 dcd6 pmd6 and6 cdd6 ctd6), sld6⟩)
    (c6 : PySem.W.codeIn K cdd6 "_law_deck" = true)
    (k6 : PySem.W.keepIn K (.ref f6) = true)
    (a7 : PySem.W.nsIn K mainGlobals "_law_draw" = some (some (.ref f7)))
    (l7 : K.lookup f7 = some ⟨ocd7, odd7, .func (PySem.W.fnOf "_law_draw" "_law_draw" (defArgs sDraw) (defBody sDraw) (defScope sDraw) .none kVd7 dcd7 pmd7 and7 cdd7 ctd7), sld7⟩)
    (c7 : PySem.W.codeIn K cdd7 "_law_draw" = true)
    (k7 : PySem.W.keepIn K (.ref f7) = true)
    (a8 : PySem.W.nsIn K mainGlobals "_law_one" = some (some (.ref f8)))
    (l8 : K.lookup f8 = some ⟨ocd8, odd8, .func (PySem.W.fnOf "_law_one" "_law_one" (defArgs sOne) (defBody sOne) (defScope sOne) .none kVd8 dcd8 pmd8 and8 cdd8 ctd8), sld8⟩)
    (c8 : PySem.W.codeIn K cdd8 "_law_one" = true)
    (k8 : PySem.W.keepIn K (.ref f8) = true)
    (a9 : PySem.W.nsIn K mainGlobals "_law_machine" = some (some (.ref f9)))
    (l9 : K.lookup f9 = some ⟨ocd9, odd9, .func (PySem.W.fnOf "_law_machine" "_law_machine" (defArgs sMach) (defBody sMach) (defScope sMach) .none kVd9 dcd9 pmd9 and9 cdd9 ctd9), sld9⟩)
    (c9 : PySem.W.codeIn K cdd9 "_law_machine" = true)
    (k9 : PySem.W.keepIn K (.ref f9) = true)
    (a10 : PySem.W.nsIn K mainGlobals "_law_met" = some (some (.ref f10)))
    (l10 : K.lookup f10 = some ⟨ocd10, odd10, .func (PySem.W.fnOf "_law_met" "_law_met" (defArgs sMet) (defBody sMet) (defScope sMet) .none kVd10 dcd10 pmd10 and10 cdd10 ctd10), sld10⟩)
    (c10 : PySem.W.codeIn K cdd10 "_law_met" = true)
    (k10 : PySem.W.keepIn K (.ref f10) = true)
    (a11 : PySem.W.nsIn K mainGlobals "_law_kind" = some (some (.ref f11)))
    (l11 : K.lookup f11 = some ⟨ocd11, odd11, .func (PySem.W.fnOf "_law_kind" "_law_kind" (defArgs sKind) (defBody sKind) (defScope sKind) .none kVd11 dcd11 pmd11 and11 cdd11 ctd11), sld11⟩)
    (c11 : PySem.W.codeIn K cdd11 "_law_kind" = true)
    (k11 : PySem.W.keepIn K (.ref f11) = true)
    (a12 : PySem.W.nsIn K mainGlobals "_law_form" = some (some (.ref f12)))
    (l12 : K.lookup f12 = some ⟨ocd12, odd12, .func (PySem.W.fnOf "_law_form" "_law_form" (defArgs sForm) (defBody sForm) (defScope sForm) .none kVd12 dcd12 pmd12 and12 cdd12 ctd12), sld12⟩)
    (c12 : PySem.W.codeIn K cdd12 "_law_form" = true)
    (k12 : PySem.W.keepIn K (.ref f12) = true)
    (a13 : PySem.W.nsIn K mainGlobals "_law_bent" = some (some (.ref f13)))
    (l13 : K.lookup f13 = some ⟨ocd13, odd13, .func (PySem.W.fnOf "_law_bent" "_law_bent" (defArgs sBent) (defBody sBent) (defScope sBent) .none kVd13 dcd13 pmd13 and13 cdd13 ctd13), sld13⟩)
    (c13 : PySem.W.codeIn K cdd13 "_law_bent" = true)
    (k13 : PySem.W.keepIn K (.ref f13) = true)
    (a14 : PySem.W.nsIn K mainGlobals "_law_are_heights" = some (some (.ref f14)))
    (l14 : K.lookup f14 = some ⟨ocd14, odd14, .func (PySem.W.fnOf "_law_are_heights" "_law_are_heights" (defArgs sAre) (defBody sAre) (defScope sAre) .none kVd14 dcd14 pmd14 and14 cdd14 ctd14), sld14⟩)
    (c14 : PySem.W.codeIn K cdd14 "_law_are_heights" = true)
    (k14 : PySem.W.keepIn K (.ref f14) = true)
    (a15 : PySem.W.nsIn K mainGlobals "_law_sums" = some (some (.ref f15)))
    (l15 : K.lookup f15 = some ⟨ocd15, odd15, .func (PySem.W.fnOf "_law_sums" "_law_sums" (defArgs sSums) (defBody sSums) (defScope sSums) .none kVd15 dcd15 pmd15 and15 cdd15 ctd15), sld15⟩)
    (c15 : PySem.W.codeIn K cdd15 "_law_sums" = true)
    (k15 : PySem.W.keepIn K (.ref f15) = true)
    (a16 : PySem.W.nsIn K mainGlobals "_law_long" = some (some (.ref f16)))
    (l16 : K.lookup f16 = some ⟨ocd16, odd16, .func (PySem.W.fnOf "_law_long" "_law_long" (defArgs sLong) (defBody sLong) (defScope sLong) .none kVd16 dcd16 pmd16 and16 cdd16 ctd16), sld16⟩)
    (c16 : PySem.W.codeIn K cdd16 "_law_long" = true)
    (k16 : PySem.W.keepIn K (.ref f16) = true)
    (a17 : PySem.W.nsIn K mainGlobals "_law_long_right" = some (some (.ref f17)))
    (l17 : K.lookup f17 = some ⟨ocd17, odd17, .func (PySem.W.fnOf "_law_long_right" "_law_long_right" (defArgs sLongR) (defBody sLongR) (defScope sLongR) .none kVd17 dcd17 pmd17 and17 cdd17 ctd17), sld17⟩)
    (c17 : PySem.W.codeIn K cdd17 "_law_long_right" = true)
    (k17 : PySem.W.keepIn K (.ref f17) = true)
    (a18 : PySem.W.nsIn K mainGlobals "law" = some (some (.ref f18)))
    (l18 : K.lookup f18 = some ⟨ocd18, odd18, .func (PySem.W.fnOf "law" "law" (defArgs sLaw) (defBody sLaw) (defScope sLaw) .none kVd18 dcd18 pmd18 and18 cdd18 ctd18), sld18⟩)
    (c18 : PySem.W.codeIn K cdd18 "law" = true)
    (k18 : PySem.W.keepIn K (.ref f18) = true)
    (z0 : PySem.W.nsIn K mainGlobals "len" = some none)
    (z1 : PySem.W.nsIn K mainGlobals "int" = some none)
    (z2 : PySem.W.nsIn K mainGlobals "range" = some none)
    (z3 : PySem.W.nsIn K mainGlobals "tuple" = some none)
    (z4 : PySem.W.nsIn K mainGlobals "list" = some none)
    (z5 : PySem.W.nsIn K mainGlobals "isinstance" = some none)
    (z6 : PySem.W.nsIn K mainGlobals "all" = some none)
    (z7 : PySem.W.nsIn K mainGlobals "abs" = some none)
    (z8 : PySem.W.nsIn K mainGlobals "bool" = some none)
    (z9 : PySem.W.nsIn K mainGlobals "repr" = some none)
    (z10 : PySem.W.nsIn K mainGlobals "any" = some none)
    (z11 : PySem.W.nsIn K mainGlobals "enumerate" = some none)
    (z12 : PySem.W.nsIn K mainGlobals "max" = some none) :
    ∃ fd : FuncData, (∀ (s : Shared) (v : Value), BindsTo s fd ⟨[v], []⟩ [("_law_script", v)]) ∧ ∀ base : Heap, K.In base → base.Ns mainGlobals mg → GRun l.prog w K mg base 5 fa fd ["_law_script"] (spLaw K) := by
  have e := hfa.symm.trans (PySem.W.mg_of inK atG a18)
  cases e
  have T : Mg mg := ⟨PySem.W.mg_none_of inK atG z0, PySem.W.mg_none_of inK atG z1, PySem.W.mg_none_of inK atG z2, PySem.W.mg_none_of inK atG z3, PySem.W.mg_none_of inK atG z4, PySem.W.mg_none_of inK atG z5, PySem.W.mg_none_of inK atG z6, PySem.W.mg_none_of inK atG z7, PySem.W.mg_none_of inK atG z8, PySem.W.mg_none_of inK atG z9, PySem.W.mg_none_of inK atG z10, PySem.W.mg_none_of inK atG z11, PySem.W.mg_none_of inK atG z12⟩
  have F0 := fun_mk (st := sReached) l0 c0 k0
  have b0 := F0.binds (ps := ["rows"]) fun _ _ _ _ _ _ us hl => match us, hl with | [_], _ => rfl
  have g0 := PySem.W.mg_of inK atG a0
  have F1 := fun_mk (st := sRaised) l1 c1 k1
  have b1 := F1.binds (ps := ["edges", "heights", "many"]) fun _ _ _ _ _ _ us hl => match us, hl with | [_, _, _], _ => rfl
  have g1 := PySem.W.mg_of inK atG a1
  have F2 := fun_mk (st := sRing) l2 c2 k2
  have b2 := F2.binds (ps := ["came", "state"]) fun _ _ _ _ _ _ us hl => match us, hl with | [_, _], _ => rfl
  have g2 := PySem.W.mg_of inK atG a2
  have F3 := fun_mk (st := sInteger) l3 c3 k3
  have b3 := F3.binds (ps := ["value"]) fun _ _ _ _ _ _ us hl => match us, hl with | [_], _ => rfl
  have g3 := PySem.W.mg_of inK atG a3
  have F4 := fun_mk (st := sHeights) l4 c4 k4
  have b4 := F4.binds (ps := ["machine", "form", "bound"]) fun _ _ _ _ _ _ us hl => match us, hl with | [_, _, _], _ => rfl
  have g4 := PySem.W.mg_of inK atG a4
  have F5 := fun_mk (st := sHold) l5 c5 k5
  have b5 := F5.binds (ps := ["machine", "form", "bound", "value"]) fun _ _ _ _ _ _ us hl => match us, hl with | [_, _, _, _], _ => rfl
  have g5 := PySem.W.mg_of inK atG a5
  have F6 := fun_mk (st := sDeck) l6 c6 k6
  have b6 := F6.binds (ps := ["_law_script"]) fun _ _ _ _ _ _ us hl => match us, hl with | [_], _ => rfl
  have g6 := PySem.W.mg_of inK atG a6
  have F7 := fun_mk (st := sDraw) l7 c7 k7
  have b7 := F7.binds (ps := ["_law_deck_here", "_law_many"]) fun _ _ _ _ _ _ us hl => match us, hl with | [_, _], _ => rfl
  have g7 := PySem.W.mg_of inK atG a7
  have F8 := fun_mk (st := sOne) l8 c8 k8
  have b8 := F8.binds (ps := ["_law_deck_here", "_law_items"]) fun _ _ _ _ _ _ us hl => match us, hl with | [_, _], _ => rfl
  have g8 := PySem.W.mg_of inK atG a8
  have F9 := fun_mk (st := sMach) l9 c9 k9
  have b9 := F9.binds (ps := ["_law_deck_here", "_law_letters", "_law_most"]) fun _ _ _ _ _ _ us hl => match us, hl with | [_, _, _], _ => rfl
  have g9 := PySem.W.mg_of inK atG a9
  have F10 := fun_mk (st := sMet) l10 c10 k10
  have b10 := F10.binds (ps := ["_law_rows"]) fun _ _ _ _ _ _ us hl => match us, hl with | [_], _ => rfl
  have g10 := PySem.W.mg_of inK atG a10
  have F11 := fun_mk (st := sKind) l11 c11 k11
  have b11 := F11.binds (ps := ["_law_deck_here", "_law_letters"]) fun _ _ _ _ _ _ us hl => match us, hl with | [_, _], _ => rfl
  have g11 := PySem.W.mg_of inK atG a11
  have F12 := fun_mk (st := sForm) l12 c12 k12
  have b12 := F12.binds (ps := ["_law_deck_here", "_law_letters"]) fun _ _ _ _ _ _ us hl => match us, hl with | [_, _], _ => rfl
  have g12 := PySem.W.mg_of inK atG a12
  have F13 := fun_mk (st := sBent) l13 c13 k13
  have b13 := F13.binds (ps := ["_law_deck_here", "_law_value", "_law_deep"]) fun _ _ _ _ _ _ us hl => match us, hl with | [_, _, _], _ => rfl
  have g13 := PySem.W.mg_of inK atG a13
  have F14 := fun_mk (st := sAre) l14 c14 k14
  have b14 := F14.binds (ps := ["_law_machine_here", "_law_form_here", "_law_bound", "_law_value"]) fun _ _ _ _ _ _ us hl => match us, hl with | [_, _, _, _], _ => rfl
  have g14 := PySem.W.mg_of inK atG a14
  have F15 := fun_mk (st := sSums) l15 c15 k15
  have b15 := F15.binds (ps := ["_law_machine_here", "_law_form_here"]) fun _ _ _ _ _ _ us hl => match us, hl with | [_, _], _ => rfl
  have g15 := PySem.W.mg_of inK atG a15
  have F16 := fun_mk (st := sLong) l16 c16 k16
  have b16 := F16.binds (ps := ["_law_many", "_law_is_ring"]) fun _ _ _ _ _ _ us hl => match us, hl with | [_, _], _ => rfl
  have g16 := PySem.W.mg_of inK atG a16
  have F17 := fun_mk (st := sLongR) l17 c17 k17
  have b17 := F17.binds (ps := ["_law_deck_here"]) fun _ _ _ _ _ _ us hl => match us, hl with | [_], _ => rfl
  have g17 := PySem.W.mg_of inK atG a17
  have F18 := fun_mk (st := sLaw) l18 c18 k18
  refine ⟨PySem.W.fnOf "law" "law" (defArgs sLaw) (defBody sLaw) (defScope sLaw) .none kVd18 dcd18 pmd18 and18 cdd18 ctd18, fun s v => .of_eq rfl, fun base _ _ => ?_⟩
  have DK := ok_deck (P := l.prog) (w := w) (mg := mg) (base := base) F6 T.abs
  have D := ok_draw (P := l.prog) (w := w) (mg := mg) (base := base) F7 T.len T.int
  have O := ok_one F8 D F7 b7 g7 T.len
  have RE := ok_reached (P := l.prog) (w := w) (mg := mg) (base := base) F0 T
  have RB := ok_ring (P := l.prog) (w := w) (mg := mg) (base := base) F2 T
  have RA := ok_raised F1 RB F2 b2 g2 T
  have HT := ok_heights F4 RA F1 b1 g1 RE F0 b0 g0 T
  have II := ok_Integer (P := l.prog) (w := w) (mg := mg) (base := base) F3 T
  have HH := ok_hold F5 II F3 b3 g3 T
  have MC := ok_mach F9 D F7 b7 g7 O F8 b8 g8 T
  have ME := ok_met (P := l.prog) (w := w) (mg := mg) (base := base) F10 T
  have KI := ok_kind F11 D F7 b7 g7 MC F9 b9 g9 T
  have FO := ok_form F12 D F7 b7 g7 O F8 b8 g8 T
  have BT := ok_bent F13 g13 b13 D F7 b7 g7 O F8 b8 g8 T 1
  have AR := ok_are (P := l.prog) (w := w) (mg := mg) (base := base) F14 T
  have SU := ok_sums F15 ME F10 b10 g10 T
  have LG := ok_long (P := l.prog) (w := w) (mg := mg) (base := base) F16 T
  have LR := ok_longR F17 D F7 b7 g7 O F8 b8 g8 LG F16 b16 g16 HT F4 b4 g4 HH F5 b5 g5 T
  exact ok_law F18 DK F6 b6 g6 D F7 b7 g7 LR F17 b17 g17 KI F11 b11 g11 MC F9 b9 g9 FO F12 b12 g12 SU F15 b15 g15 HT F4 b4 g4 AR F14 b14 g14 HH F5 b5 g5 BT F13 b13 g13 T
end Ver
open PySem PySem.W PyProof.Rows in
set_option maxRecDepth 100000 in
set_option maxHeartbeats 0 in
theorem PySem.Challenge.cw_sortedshelves_k18_heights_and_what_are_n_holds : PySem.Challenge.rw_sortedshelves_k18_heights_and_what_are_n.Holds := by
  w_on; o_law; k_head; (case hw => w_witness2)
  k_fill
  refine Ver.gwalk (l := PySem.Challenge.rw_sortedshelves_k18_heights_and_what_are_n) (n := 63) (k := 5) (x := "_law_script") (sp := fun w => Ver.spLaw _) rfl (by decide) rfl ⟨rfl, by decide, by decide⟩ (fun w h Y => PySem.W.kIn_of Y) ?F (fun _ _ a ns hl hS => ⟨a, ns, rfl, hS, hl, fun _ => rfl⟩)
  case F =>
    intro w mg fa h inK atG hmg
    refine' Ver.all_mk inK atG hmg ?a0 ?l0 ?c0 ?k0 ?a1 ?l1 ?c1 ?k1 ?a2 ?l2 ?c2 ?k2 ?a3 ?l3 ?c3 ?k3 ?a4 ?l4 ?c4 ?k4 ?a5 ?l5 ?c5 ?k5 ?a6 ?l6 ?c6 ?k6 ?a7 ?l7 ?c7 ?k7 ?a8 ?l8 ?c8 ?k8 ?a9 ?l9 ?c9 ?k9 ?a10 ?l10 ?c10 ?k10 ?a11 ?l11 ?c11 ?k11 ?a12 ?l12 ?c12 ?k12 ?a13 ?l13 ?c13 ?k13 ?a14 ?l14 ?c14 ?k14 ?a15 ?l15 ?c15 ?k15 ?a16 ?l16 ?c16 ?k16 ?a17 ?l17 ?c17 ?k17 ?a18 ?l18 ?c18 ?k18 ?z0 ?z1 ?z2 ?z3 ?z4 ?z5 ?z6 ?z7 ?z8 ?z9 ?z10 ?z11 ?z12
    (case a0 => k_is)
    (case l0 => k_is)
    (case c0 => k_is)
    (case k0 => k_is)
    (case a1 => k_is)
    (case l1 => k_is)
    (case c1 => k_is)
    (case k1 => k_is)
    (case a2 => k_is)
    (case l2 => k_is)
    (case c2 => k_is)
    (case k2 => k_is)
    (case a3 => k_is)
    (case l3 => k_is)
    (case c3 => k_is)
    (case k3 => k_is)
    (case a4 => k_is)
    (case l4 => k_is)
    (case c4 => k_is)
    (case k4 => k_is)
    (case a5 => k_is)
    (case l5 => k_is)
    (case c5 => k_is)
    (case k5 => k_is)
    (case a6 => k_is)
    (case l6 => k_is)
    (case c6 => k_is)
    (case k6 => k_is)
    (case a7 => k_is)
    (case l7 => k_is)
    (case c7 => k_is)
    (case k7 => k_is)
    (case a8 => k_is)
    (case l8 => k_is)
    (case c8 => k_is)
    (case k8 => k_is)
    (case a9 => k_is)
    (case l9 => k_is)
    (case c9 => k_is)
    (case k9 => k_is)
    (case a10 => k_is)
    (case l10 => k_is)
    (case c10 => k_is)
    (case k10 => k_is)
    (case a11 => k_is)
    (case l11 => k_is)
    (case c11 => k_is)
    (case k11 => k_is)
    (case a12 => k_is)
    (case l12 => k_is)
    (case c12 => k_is)
    (case k12 => k_is)
    (case a13 => k_is)
    (case l13 => k_is)
    (case c13 => k_is)
    (case k13 => k_is)
    (case a14 => k_is)
    (case l14 => k_is)
    (case c14 => k_is)
    (case k14 => k_is)
    (case a15 => k_is)
    (case l15 => k_is)
    (case c15 => k_is)
    (case k15 => k_is)
    (case a16 => k_is)
    (case l16 => k_is)
    (case c16 => k_is)
    (case k16 => k_is)
    (case a17 => k_is)
    (case l17 => k_is)
    (case c17 => k_is)
    (case k17 => k_is)
    (case a18 => k_is)
    (case l18 => k_is)
    (case c18 => k_is)
    (case k18 => k_is)
    (case z0 => k_is)
    (case z1 => k_is)
    (case z2 => k_is)
    (case z3 => k_is)
    (case z4 => k_is)
    (case z5 => k_is)
    (case z6 => k_is)
    (case z7 => k_is)
    (case z8 => k_is)
    (case z9 => k_is)
    (case z10 => k_is)
    (case z11 => k_is)
    (case z12 => k_is)
#print axioms PySem.Challenge.cw_sortedshelves_k18_heights_and_what_are_n_holds
