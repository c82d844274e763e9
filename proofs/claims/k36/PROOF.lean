import PyProof.Rows.All
import Wide.All
import OpenK.AllK
import Wide.FinOn
import PyProof.ReprRoads
import PyProof.ReprLen
import HandS.ForMost
import HandS.Conv
import HandS.IsInst
import HandS.TupAny
import HandS.TupMul
import HandS.Wide
import HandS.Style
import HandS.Evl
import HandS.Strs
import HandS.Codes
import HandS.StrMore
import HandS.Replace
import PySem.Challenge.RW_sortedshelves_k36_comparisons_with_error
import HandS.Walk
import PyProof.Rows.StrPadFill
import PyProof.Rows.StrMul
set_option Elab.async false
set_option linter.all false
set_option maxRecDepth 100000
set_option maxHeartbeats 4000000
namespace Ver
open PySem PySem.Spec PyProof.Rows L2
set_option pp.maxSteps 60
set_option pp.deepTerms false

/-! ### data as it lies in the heap, apart from the addresses in B -/
mutual
inductive Dt (B : Addr → Prop) (K : PySem.W.Frag) (H : Hp) : V → PyData → Prop
  | non : Dt B K H .non .none
  | bl (b : Bool) : Dt B K H (.bl b) (.bool b)
  | int (i : Int) : Dt B K H (.int i) (.int i)
  | str (x : Str) : Dt B K H (.str x) (.str x)
  | lst {a : Addr} {xs : List V} {ds : List PyData} (nb : ¬ B a) (ne : a ≠ sysModules) (hs : Rd H a (.lst xs)) (ha : DtAll B K H xs ds) : Dt B K H (.ref a) (.list ds)
  | tup {a : Addr} {xs : List V} {ds : List PyData} (nb : ¬ B a) (hs : Rd H a (.tup xs)) (ha : DtAll B K H xs ds) : Dt B K H (.ref a) (.tuple ds)
  | emp {a : Addr} (nb : ¬ B a) (h : H a = some (.dK [])) : Dt B K H (.ref a) (.dict [])
inductive DtAll (B : Addr → Prop) (K : PySem.W.Frag) (H : Hp) : List V → List PyData → Prop
  | nil : DtAll B K H [] []
  | cons {v : V} {vs : List V} {d : PyData} {ds : List PyData} (hd : Dt B K H v d) (tl : DtAll B K H vs ds) : DtAll B K H (v :: vs) (d :: ds)
end

/-- all that is tracked outside of B stays -/
def Keep (B : Addr → Prop) (H H' : Hp) : Prop := ∀ b o, ¬ B b → H b = some o → H' b = some o
theorem Keep.rfl' {B : Addr → Prop} {H : Hp} : Keep B H H := fun _ _ _ e => e
theorem Keep.trans {B : Addr → Prop} {H H1 H2 : Hp} (x : Keep B H H1) (y : Keep B H1 H2) : Keep B H H2 := fun b o n e => y b o n (x b o n e)
theorem Keep.same {B : Addr → Prop} {H H' : Hp} (x : Same H H') : Keep B H H' := fun b o _ e => x b o e
theorem keep_new {B : Addr → Prop} {H : Hp} {p : Addr} {o : HO} (n : H p = none) : Keep B H (upd H p o) := fun b u _ e => by
  rw [upd_ne (ne_of_none e n)]
  exact e
theorem same_new {H : Hp} {p : Addr} {o : HO} (n : H p = none) : Same H (upd H p o) := fun b u e => by
  rw [upd_ne (ne_of_none e n)]
  exact e
theorem Keep.rd {B : Addr → Prop} {H H' : Hp} {a : Addr} {o : HO} (k : Keep B H H') (nb : ¬ B a) (h : Rd H a o) : Rd H' a o := by
  rcases h with h | ⟨u, h⟩
  · exact .inl (k _ _ nb h)
  · exact .inr ⟨u, k _ _ nb h⟩
theorem Keep.seqL {B : Addr → Prop} {K : PySem.W.Frag} {H H' : Hp} {a : Addr} {xs : List V} (k : Keep B H H') (nb : ¬ B a) (h : SqL K H a xs) : SqL K H' a xs := by
  rcases h with (h | ⟨o, h⟩) | h
  · exact .inl (.inl (k _ _ nb h))
  · exact .inl (.inr ⟨o, k _ _ nb h⟩)
  · exact .inr h
theorem Keep.seqT {B : Addr → Prop} {K : PySem.W.Frag} {H H' : Hp} {a : Addr} {xs : List V} (k : Keep B H H') (nb : ¬ B a) (h : SqT K H a xs) : SqT K H' a xs := by
  rcases h with (h | ⟨o, h⟩) | h
  · exact .inl (.inl (k _ _ nb h))
  · exact .inl (.inr ⟨o, k _ _ nb h⟩)
  · exact .inr h
mutual
theorem Dt.keep {B : Addr → Prop} {K : PySem.W.Frag} {H H' : Hp} (k : Keep B H H') : ∀ (d : PyData) (v : V), Dt B K H v d → Dt B K H' v d
  | .none, _, h => by cases h; exact .non
  | .bool _, _, h => by cases h; exact .bl _
  | .int _, _, h => by cases h; exact .int _
  | .str _, _, h => by cases h; exact .str _
  | .list ds, _, h => by
    cases h with
    | lst nb ne hs ha => exact .lst nb ne (k.rd nb hs) (DtAll.keep k ds _ ha)
  | .tuple ds, _, h => by
    cases h with
    | tup nb hs ha => exact .tup nb (k.rd nb hs) (DtAll.keep k ds _ ha)
  | .dict _, _, h => by
    cases h with
    | emp nb e => exact .emp nb (k _ _ nb e)
theorem DtAll.keep {B : Addr → Prop} {K : PySem.W.Frag} {H H' : Hp} (k : Keep B H H') : ∀ (ds : List PyData) (vs : List V), DtAll B K H vs ds → DtAll B K H' vs ds
  | [], _, h => by cases h; exact .nil
  | d :: ds, _, h => by
    cases h with
    | cons h1 h2 => exact .cons (Dt.keep k d _ h1) (DtAll.keep k ds _ h2)
end
theorem DtAll.len {B : Addr → Prop} {K : PySem.W.Frag} {H : Hp} : ∀ {vs : List V} {ds : List PyData}, DtAll B K H vs ds → vs.length = ds.length
  | _, _, .nil => rfl
  | _, _, .cons _ t => congrArg (· + 1) (DtAll.len t)
theorem DtAll.append {B : Addr → Prop} {K : PySem.W.Frag} {H : Hp} : ∀ {vs ws : List V} {ds es : List PyData}, DtAll B K H vs ds → DtAll B K H ws es → DtAll B K H (vs ++ ws) (ds ++ es)
  | _, _, _, _, .nil, q => q
  | _, _, _, _, .cons r t, q => .cons r (DtAll.append t q)
theorem DtAll.take {B : Addr → Prop} {K : PySem.W.Frag} {H : Hp} : ∀ {vs : List V} {ds : List PyData} (n : Nat), DtAll B K H vs ds → DtAll B K H (vs.take n) (ds.take n)
  | _, _, 0, _ => .nil
  | _, _, _ + 1, .nil => .nil
  | _, _, n + 1, .cons r t => .cons r (DtAll.take n t)
theorem DtAll.drop {B : Addr → Prop} {K : PySem.W.Frag} {H : Hp} : ∀ {vs : List V} {ds : List PyData} (n : Nat), DtAll B K H vs ds → DtAll B K H (vs.drop n) (ds.drop n)
  | _, _, 0, h => h
  | _, _, _ + 1, .nil => .nil
  | _, _, n + 1, .cons _ t => DtAll.drop n t
theorem DtAll.get {B : Addr → Prop} {K : PySem.W.Frag} {H : Hp} : ∀ {vs : List V} {ds : List PyData} {i : Nat} {d : PyData}, DtAll B K H vs ds → ds[i]? = some d → ∃ v, vs[i]? = some v ∧ Dt B K H v d
  | _, _, _, _, .nil, e => by simp at e
  | _, _, 0, _, .cons r _, e => by
    simp at e
    subst e
    exact ⟨_, rfl, r⟩
  | _, _, i + 1, _, .cons _ t, e => by
    obtain ⟨v, h1, h2⟩ := DtAll.get (i := i) t (by simpa using e)
    exact ⟨v, by simpa using h1, h2⟩
theorem DtAll.getV {B : Addr → Prop} {K : PySem.W.Frag} {H : Hp} : ∀ {vs : List V} {ds : List PyData} {i : Nat} {v : V}, DtAll B K H vs ds → vs[i]? = some v → ∃ d, ds[i]? = some d ∧ Dt B K H v d
  | _, _, _, _, .nil, e => by simp at e
  | _, _, 0, _, .cons r _, e => by
    simp at e
    subst e
    exact ⟨_, rfl, r⟩
  | _, _, i + 1, _, .cons _ t, e => by
    obtain ⟨v, h1, h2⟩ := DtAll.getV (i := i) t (by simpa using e)
    exact ⟨v, by simpa using h1, h2⟩
theorem DtAll.rev {B : Addr → Prop} {K : PySem.W.Frag} {H : Hp} : ∀ {vs : List V} {ds : List PyData}, DtAll B K H vs ds → DtAll B K H vs.reverse ds.reverse
  | _, _, .nil => .nil
  | _, _, .cons r t => by
    rw [List.reverse_cons, List.reverse_cons]
    exact (DtAll.rev t).append (.cons r .nil)
theorem DtAll.rep {B : Addr → Prop} {K : PySem.W.Frag} {H : Hp} {v : V} {d : PyData} (h : Dt B K H v d) : ∀ n : Nat, DtAll B K H (List.replicate n v) (List.replicate n d)
  | 0 => .nil
  | n + 1 => .cons h (DtAll.rep h n)

section
variable {X : Cx} {pins : List (Addr × Obj)} {σ : L2.St} {H : Hp} {s : Shared}
theorem no_entries {knd : KeyKind X.prog X.w Key} {es : List DictEntry} (h : PySem.Pairs knd es ([] : List (Key × Value))) : es = [] := by
  cases h
  rfl
mutual
theorem Dt.reads {B : Addr → Prop} (I : Inv X pins σ H s) : ∀ (d : PyData) (v : V) (u : Value), Dt B X.K H v d → RelV v u → ∃ as, Reads s.heap u d as ∧ sysModules ∉ as
  | .none, _, _, h, r => by
    cases h
    cases r
    exact ⟨[], .none, List.not_mem_nil⟩
  | .bool b, _, _, h, r => by
    cases h
    cases r
    exact ⟨[], .bool b, List.not_mem_nil⟩
  | .int i, _, _, h, r => by
    cases h
    obtain ⟨t, rfl⟩ := r
    exact ⟨[], .int i t, List.not_mem_nil⟩
  | .str x, _, _, h, r => by
    cases h
    obtain ⟨t, rfl⟩ := r
    exact ⟨[], .str x t, List.not_mem_nil⟩
  | .list ds, _, _, h, r => by
    cases h with
    | lst nb ne hs ha =>
      cases r
      obtain ⟨its, rv, ⟨ob, n, ho, hc, _, hd⟩, _⟩ := I.list (.inl hs)
      obtain ⟨as, hr, hn⟩ := DtAll.reads I ds _ its ha rv
      refine ⟨_, .list ho hc hd hr, fun z => ?_⟩
      rcases List.mem_cons.mp z with z | z
      · exact ne z.symm
      · exact hn z
  | .tuple ds, _, _, h, r => by
    cases h with
    | tup nb hs ha =>
      cases r
      obtain ⟨its, rv, ⟨ob, ho, hc, n, hd⟩, _⟩ := I.tuple (.inl hs)
      obtain ⟨as, hr, hn⟩ := DtAll.reads I ds _ its ha rv
      exact ⟨_, .tuple ho hc hd hr, hn⟩
  | .dict _, _, _, h, r => by
    cases h with
    | emp nb e =>
      cases r
      obtain ⟨_, hm, vs, rel, ob, es, ep, ho, hx, hd, _, hp, _⟩ := dk_of I.hok e
      cases rel
      have he := no_entries hp
      refine ⟨_, .dict (kvs := []) ho hx.1 hd (by rw [he]; exact .nil) (by rw [he]; exact .nil), fun z => ?_⟩
      rcases List.mem_cons.mp z with z | z
      · rw [← z] at hm
        simp at hm
      · simp at z
theorem DtAll.reads {B : Addr → Prop} (I : Inv X pins σ H s) : ∀ (ds : List PyData) (vs : List V) (us : List Value), DtAll B X.K H vs ds → Vals vs us → ∃ as, ReadsAll s.heap us ds as ∧ sysModules ∉ as
  | [], _, _, h, r => by
    cases h
    cases r
    exact ⟨[], .nil, List.not_mem_nil⟩
  | d :: ds, _, _, h, r => by
    cases h with
    | cons h1 h2 =>
      cases r with
      | cons r1 r2 =>
        obtain ⟨as, q1, n1⟩ := Dt.reads I d _ _ h1 r1
        obtain ⟨bs, q2, n2⟩ := DtAll.reads I ds _ _ h2 r2
        refine ⟨_, .cons q1 q2, fun z => ?_⟩
        rcases List.mem_append.mp z with z | z
        · exact n1 z
        · exact n2 z
end
end

/-! ### repr -/
section
variable {X : Cx}
def rRepr (K : PySem.W.Frag) : List V → Hp → VK → Prop := fun xs H Q => ∃ (x : V) (d : PyData) (B : Addr → Prop), xs = [x] ∧ Dt B K H x d ∧ d.showable = true ∧ d.depth ≤ 60 ∧ d.shown.length ≤ sizeLine ∧ Q (.str d.shown) H
theorem call_reprD (hG : X.A.guards = some []) (hu : X.A.units + 64 < cLine) : CallR X (.builtin "repr") (rRepr X.K) := by
  intro pins s σ H xs us Q I r h
  obtain ⟨x, d, B, rfl, hd, hs, hdp, hz, q⟩ := h
  obtain ⟨u, rfl, rx⟩ := vals1 r
  obtain ⟨as, rd, hn⟩ := Dt.reads I d x u hd rx
  cases hd with
  | non =>
    cases rx
    exact PySem.P.repr_of_none ⟨.str _, H, I.tok _, ⟨_, rfl⟩, q⟩
  | bl b =>
    cases rx
    exact PySem.P.repr_of_bool ⟨.str _, H, I.tok _, ⟨_, rfl⟩, q⟩
  | int i =>
    obtain ⟨t, rfl⟩ := rx
    exact PySem.P.repr_of_int (by simpa [PyData.showable] using hs) ⟨.str _, H, I.tok _, ⟨_, rfl⟩, q⟩
  | str y =>
    obtain ⟨t, rfl⟩ := rx
    exact PySem.P.repr_of_str ⟨.str _, H, I.tok _, ⟨_, rfl⟩, q⟩ (by simpa only [PyData.shown] using hz)
  | lst nb ne hs' ha =>
    cases rx
    exact repr_of_reads' rd hs (fun _ => hn) hG (by omega) (fun _ _ e => e) (fun h' u tk hk => ⟨.str _, H, I.kept hk, ⟨_, rfl⟩, q⟩) hz
  | tup nb hs' ha =>
    cases rx
    exact repr_of_reads' rd hs (fun _ => hn) hG (by omega) (fun _ _ e => e) (fun h' u tk hk => ⟨.str _, H, I.kept hk, ⟨_, rfl⟩, q⟩) hz
  | emp nb e =>
    cases rx
    exact repr_of_reads' rd hs (fun _ => hn) hG (by omega) (fun _ _ e => e) (fun h' u tk hk => ⟨.str _, H, I.kept hk, ⟨_, rfl⟩, q⟩) hz
end

/-! ### a def called where nothing is being shown (no repr under way) -/
section
variable {P : Program} {w : World} {K : PySem.W.Frag} {mg : Str → Option Value} {base : Heap}
def GRun (P : Program) (w : World) (K : PySem.W.Frag) (mg : Str → Option Value) (base : Heap) (k : Nat) (f : Addr) (fd : FuncData) (ps : List Str) (sp : Sp) : Prop :=
  ∀ (A : Around) (outer : List Env) (s : Shared) (H : Hp) (us : List Value) (vs : List V) (Q : VK),
    A.guards = some [] → Room k A → Env0 P w K mg base A outer s H → BindsTo s fd ⟨us, []⟩ (ps.zip us) → Vals vs us → vs.length = ps.length → sp vs H Q E0 →
    codeAny (model P w) A (.call (.ref f) ⟨us, []⟩) (CR CX0 outer P w H s Q E0) s
theorem grun {x qual : Str} {st : Stmt} {f : Addr} {fd : FuncData} {N ps : List Str} {k : Nat} {sp : Sp} (F : Fun K x qual st f fd) (S : FnScope N ps (defScope st))
    (body : ∀ (cdv : Value) (A : Around) (outer : List Env) (s : Shared) (H : Hp) (vs : List V) (Q : VK), A.guards = some [] → Room k (A.deeper (envOfC qual (defScope st) s.heap.objs.size f cdv)) → sp vs H Q E0 →
      ∃ t, PSs (cxOf CX0 P w K mg base N qual (defScope st) f cdv A outer s H E0).nox (defBody st) t ∧ t { nx := fun _ H' => Q .non H', rt := Q } (start N vs) H) :
    GRun P w K mg base (k + 1) f fd ps sp := by
  obtain ⟨oc, od, kV, doc, pm, an, cdv, ct, osl, rfl, lk, hcd⟩ := F.ex
  intro A outer s H us vs Q hG hr e0 hb r hl hsp
  have inK : K.In s.heap := e0.mod.kin.keeps (fun b o q => (e0.bs b o q).1)
  have noL : s.heap.NoLimit := e0.mod.nolimit.keeps (fun b o q => (e0.bs b o q).1)
  have kinds : ∀ y ∈ ps.zip us, (defScope st).names.lookup y.1 = some .local ∨ ((defScope st).names.lookup y.1 = some .cell ∧ ((cellsFrom (s.heap.objs.size + 1) (defScope st).names []).lookup y.1).isSome = true) := by
    intro y hy
    obtain ⟨n, v⟩ := y
    cases S.par n (List.of_mem_zip hy).1 with
    | inl q => exact Or.inl q
    | inr q => exact Or.inr ⟨q, PySem.W.cellsFrom_some _ _ _ (Or.inl q)⟩
  refine codeAny_call_function hr.depth (inK _ _ lk) rfl S.co S.gen rfl (PySem.W.codeRec_of inK hcd) (hb _ _ _ _ ?_)
  refine wpAny_newFunctionEnv_cells S.kind kinds (fun env he s1 x => ?_)
  cases he
  obtain ⟨t, ht, hq⟩ := body cdv A outer s H vs Q hG (hr.deeper _) hsp
  have J := inv_start (CX := CX0) (mg := mg) (E := E0) S hr.hd e0 hl r x
  refine ⟨noL.keeps x.toInCall.keep, codeAny_func (wpAny_mono (ht.nox.run [] s1 (start N vs) H _ J hq) ?_ (fun e s' z => z))⟩
  intro fl s' z
  cases fl with
  | next =>
    obtain ⟨_, H', J', q⟩ := z
    exact ⟨.non, H', J'.os, J'.bare, J'.base, J'.hok, rfl, q⟩
  | ret u =>
    obtain ⟨v, _, H', J', rv, q⟩ := z
    exact ⟨v, H', J'.os, J'.bare, J'.base, J'.hok, rv, q⟩
  | brk => exact (z.choose_spec.choose_spec.2).elim
  | cont => exact (z.choose_spec.choose_spec.2).elim

/-- called from outside with the object at a, the def at fa answers True and leaves what stood -/
abbrev TrueAt (P : Program) (w : World) (fa a : Addr) (t : Shared) : Prop :=
  codeAny (model P w) callerA (.call (.ref fa) ⟨[.ref a], []⟩)
    (fun r u => r = .ok (.ret (.bool true)) ∧
      OldK t.heap u.heap ∧ u.os = t.os ∧ AllBare u.gens) t
/-- nothing but one list of ints, known, is tracked -/
theorem gcall {k : Nat} {fa a : Addr} {fd : FuncData} {x : Str} {sp : Sp} {s₁ : Shared} {mb : Str → Option Value} {H : Hp}
    (inH : K.In s₁.heap) (atG : s₁.heap.Ns mainGlobals mg) (hb : s₁.heap.Ns builtinsNs mb) (bB : ∀ x : Str, x ≠ "__name__" → mb x = bootBuiltins x) (lim : s₁.heap.NoLimit) (hg : s₁.gens = #[])
    (hr : Room k callerA) (R : ∀ base : Heap, K.In base → base.Ns mainGlobals mg → GRun P w K mg base k fa fd [x] sp) (bind : ∀ (s : Shared) (u : Value), BindsTo s fd ⟨[u], []⟩ [(x, u)])
    (hok : HOk P w H s₁.heap) (only : ∀ b o, H b = some o → b = a ∧ (∃ ob xs, o = .frz ob (.lst xs) ∧ ∀ es ep, ob.data ≠ .dict es ep) ∧ K.lookup a = none)
    (hsp : sp [.ref a] H (fun v _ => v = .bl true) E0) :
    TrueAt P w fa a s₁ := by
  have plain : ∀ {b : Addr} {o : Obj} {es : Array DictEntry} {ep : Nat}, s₁.heap.get? b = some o → o.data = .dict es ep → H b = none := by
    intro b o es ep q d
    cases z : H b with
    | none => rfl
    | some u =>
      obtain ⟨_, ⟨ob, xs, rfl, nd⟩, _⟩ := only b u z
      obtain ⟨q2, _⟩ := hok b _ z
      rw [q] at q2
      cases q2
      exact absurd d (nd es ep)
  have nsB : ∀ {b : Addr} {m : Str → Option Value}, s₁.heap.Ns b m → (hidT s₁.heap H).Ns b m := by
    rintro b m ⟨o, es, ep, q, d, r⟩
    exact ⟨o, es, ep, hidT_get q (plain q d), d, r⟩
  have kB : K.In (hidT s₁.heap H) := by
    intro b o q
    refine hidT_get (inH b o q) ?_
    cases z : H b with
    | none => rfl
    | some u =>
      obtain ⟨e, _, n⟩ := only b u z
      rw [e, n] at q
      cases q
  have md : L2.Mod K mg (hidT s₁.heap H) := by
    obtain ⟨mc, l1, l2⟩ := lim
    exact ⟨kB, nsB atG, ⟨mb, nsB hb, bB⟩, ⟨mc, nsB l1, l2⟩⟩
  have env : Env0 P w K mg (hidT s₁.heap H) callerA [] s₁ H :=
    { frames := rfl, mod := md, bs := fun b o q => of_hidT q, bsz := Nat.le_of_eq (hidT_size _ _), funs := trivial, frf := fun b z => absurd z List.not_mem_nil, hok := hok, bare := .of_eq hg }
  have run := R _ kB (nsB atG) callerA [] s₁ H [.ref a] [.ref a] _ rfl hr env (bind s₁ (.ref a)) (.cons rfl .nil) rfl hsp
  refine codeAny_mono run (fun r s' z => ?_)
  match r, z with
  | .error _, z => exact z.elim
  | .ok .next, z => exact z.elim
  | .ok .brk, z => exact z.elim
  | .ok .cont, z => exact z.elim
  | .ok (.ret u), ⟨v, H', os, bare, un, hok', rv, q⟩ =>
    have q : v = .bl true := q
    cases q
    have rv : u = Value.bool true := rv
    cases rv
    refine ⟨rfl, .of_keep (fun b o e => ?_), os, bare⟩
    cases z : H b with
    | none => exact un.keep b o e z List.not_mem_nil List.not_mem_nil
    | some u =>
      obtain ⟨_, ⟨ob, xs, rfl, _⟩, _⟩ := only b u z
      have g1 := (hok b _ z).1
      have g2 := (hok' b _ (un.frzs b ob _ z)).1
      rw [e] at g1
      cases g1
      exact g2
/-- the law's call, the script tracked or written -/
theorem glaw {k : Nat} {fa a : Addr} {fd : FuncData} {x : Str} {sp : Sp} {s₁ : Shared} {mb : Str → Option Value} {vs : List Value} {ns : List Int}
    (inH : K.In s₁.heap) (atG : s₁.heap.Ns mainGlobals mg) (hb : s₁.heap.Ns builtinsNs mb) (bB : ∀ x : Str, x ≠ "__name__" → mb x = bootBuiltins x) (lim : s₁.heap.NoLimit) (hg : s₁.gens = #[])
    (ha : s₁.heap.get? a = some { cls := .type "list", data := .seq vs.toArray }) (hi : IntsAre vs ns) (hl : ns.length ≤ sizeLine)
    (hr : Room k callerA) (R : ∀ base : Heap, K.In base → base.Ns mainGlobals mg → GRun P w K mg base k fa fd [x] sp) (bind : ∀ (s : Shared) (u : Value), BindsTo s fd ⟨[u], []⟩ [(x, u)])
    (hsp : ∀ H : Hp, SqL K H a (ns.map V.int) → sp [.ref a] H (fun v _ => v = .bl true) E0) :
    TrueAt P w fa a s₁ := by
  have rv := vals_ints hi
  cases q : K.lookup a with
  | some o =>
    have e := (inH a o q).symm.trans ha
    cases e
    refine gcall (H := fun _ => none) inH atG hb bB lim hg hr R bind (fun b u z => by cases z) (fun b u z => by cases z) (hsp _ (.inr ⟨_, vs.toArray, _, q, rfl, rfl, rfl, ?_, by simpa using rv⟩))
    rw [List.size_toArray, hi.length]
    exact hl
  | none =>
    have tr : ∀ b u, upd (fun _ => none) a (.frz { cls := .type "list", data := .seq vs.toArray } (.lst (ns.map V.int))) b = some u → b = a ∧ u = .frz { cls := .type "list", data := .seq vs.toArray } (.lst (ns.map V.int)) := by
      intro b u z
      by_cases h : b = a
      · rw [h, upd_same] at z
        exact ⟨h, (Option.some.inj z).symm⟩
      · rw [upd_ne h] at z
        cases z
    refine gcall (H := upd (fun _ => none) a (.frz { cls := .type "list", data := .seq vs.toArray } (.lst (ns.map V.int)))) inH atG hb bB lim hg hr R bind (fun b u z => ?_) (fun b u z => ?_) (hsp _ (.inl (.inr ⟨_, upd_same⟩)))
    · obtain ⟨rfl, rfl⟩ := tr b u z
      exact ⟨ha, by rw [List.length_map]; exact hl, vs, _, rv, ha⟩
    · obtain ⟨rfl, rfl⟩ := tr b u z
      exact ⟨rfl, ⟨_, _, rfl, fun es ep d => by cases d⟩, q⟩
end
/-- the end of the row's proof -/
theorem gwalk {l : PySem.W.OpenLaw} {n k : Nat} {q : Program} {loose : List Str} {XP : (Str → Option Value) → Heap → Prop} {YP : World → Heap → Prop} {d : DefRec} {K : Params → PySem.W.Frag} {sp : World → Sp} {x : Str}
    (hn : l.most = some n) (hn2 : n ≤ sizeLine) (hdf : d.params.defaults = []) (hr : Room k callerA) (hY : ∀ (w : World) (h : Heap), YP w h → (K w.params).In h)
    (F : ∀ (w : World) (mg : Str → Option Value) (fa : Addr) (h : Heap), (K w.params).In h → h.Ns mainGlobals mg → mg d.name = some (.ref fa) →
      ∃ fd : FuncData, (∀ (s : Shared) (u : Value), BindsTo s fd ⟨[u], []⟩ [(x, u)]) ∧ ∀ base : Heap, (K w.params).In base → base.Ns mainGlobals mg → GRun l.prog w (K w.params) mg base k fa fd [x] (sp w))
    (hsp : ∀ (w : World) (H : Hp) (a : Addr) (ns : List Int), ns.length ≤ n → SqL (K w.params) H a (ns.map V.int) → sp w [.ref a] H (fun v _ => v = .bl true) E0) :
    PySem.W.WalkO q loose XP YP l.row.toRowW d [] (fun f vs => PySem.call f vs) := by
  refine Att.attach_call hn hdf (fun w s₀ s₁ mg mb fa o pm cd doc a vs ns G Y _ _ _ hmg hobj hints hlen hg => ?_)
  have inK := hY w _ Y
  obtain ⟨fd, bind, R⟩ := F w mg fa _ inK G.T.g hmg
  exact glaw inK G.T.g G.T.b G.T.builtins G.T.nolimit hg hobj hints (Nat.le_trans hlen hn2) hr R bind (fun H hS => hsp w H a ns hlen hS)
theorem adjust_rev (n : Nat) : Builtin.Slice.sliceAdjust none none (-1) (n : Int) = ((n : Int) - 1, -1) := by
  unfold Builtin.Slice.sliceAdjust
  rfl
theorem places_rev (n : Nat) : Builtin.Slice.slicePlaces ((n : Int) - 1) (-1) (-1) = n := by
  unfold Builtin.Slice.slicePlaces
  rw [if_neg (by decide)]
  by_cases h : (n : Int) - 1 > -1
  · rw [if_pos h, show (- -1 : Int) = 1 by decide, Int.ediv_one]
    omega
  · rw [if_neg h]
    omega
theorem pick_rev (xs : List Value) : ((List.range xs.length).filterMap fun (k : Nat) => xs.toArray[((xs.length : Int) - 1 + (k : Int) * -1).toNat]?) = xs.reverse := by
  have e1 : (fun (k : Nat) => xs.toArray[((xs.length : Int) - 1 + (k : Int) * -1).toNat]?) = (fun j => xs.toArray[j]?) ∘ fun k => xs.length - 1 - k := by
    funext k
    show xs.toArray[((xs.length : Int) - 1 + (k : Int) * -1).toNat]? = xs.toArray[xs.length - 1 - k]?
    congr 1
    omega
  rw [e1, ← List.filterMap_map, PySem.W.krv_range, List.filterMap_reverse]
  have e2 := PySem.W.krv_all xs.toArray
  rw [List.size_toArray] at e2
  rw [e2]
section
variable {prog : Program} {w : World} {A : Around} {E : Value → Shared → Prop} {s : Shared}
theorem appliedR {sl : Addr} {vs : Value} {n : Nat} {Q : Int × Int × Nat → Shared → Prop} (hs : s.heap.IsSliceOf sl .none .none vs) (ps : IsPart vs (some (-1))) (h : Q ((n : Int) - 1, -1, n) s) :
    wpAny (model prog w) A (Builtin.Slice.sliceApplied (.ref sl) (pure (n : Int))) Q E s := by
  obtain ⟨os, hos, hcs, hds⟩ := hs
  unfold Builtin.Slice.sliceApplied Builtin.Slice.sliceFields
  have f3 : wpAny (model prog w) A (Builtin.Slice.slicePartIndex vs) (fun o s' => o = some (-1) ∧ s' = s) E s := HT.slicePart_ ps ⟨rfl, rfl⟩
  refine wpAny_bind (wpAny_bind (wpAny_field hos hds (x := .none) rfl (wpAny_bind (wpAny_field hos hds (x := .none) rfl (wpAny_bind (wpAny_field hos hds (x := vs) rfl (wpAny_pure ?_)))))))
  refine wpAny_bind (wpAny_mono f3 (fun o s' z => ?_) fun _ _ z => z)
  obtain ⟨rfl, rfl⟩ := z
  show wpAny _ _ (if ((-1 : Int) == 0) = true then _ else _) _ _ _
  rw [if_neg (by decide)]
  have h : Q ((n : Int) - 1, -1, Builtin.Slice.slicePlaces ((n : Int) - 1) (-1) (-1)) s' := by
    rw [places_rev]
    exact h
  exact wpAny_bind (slicePart_none (wpAny_bind (slicePart_none (wpAny_bind (wpAny_pure (wpAny_pure h))))))
theorem revR {t sl : Addr} {xs : List Value} {vs : Value} {Q : Value → Shared → Prop} (ht : IsTup s.heap t xs.toArray) (hz : xs.length ≤ sizeLine) (hs : s.heap.IsSliceOf sl .none .none vs) (ps : IsPart vs (some (-1)))
    (h : Q (.ref s.heap.objs.size) { s with heap := s.heap.push { cls := .type "tuple", data := .seq xs.reverse.toArray } }) : wpAny (model prog w) A (getItem (.ref t) (.ref sl)) Q E s := by
  have hTs : s.TypeIs (.ref sl) "slice" := by
    obtain ⟨os, hos, hcs, _⟩ := id hs
    exact ⟨os, hos, hcs⟩
  unfold getItem
  try with_reducible refine wpAny_holding ?_
  first | refine wpAny_bind (wpAny_pure ?_) | skip
  refine wpAny_bind (wpAny_sequenceKey ht.typeIs (by decide) (wpAny_bind (wpAny_callSpecial?_slot (name := Str.ofString "__getitem__") ht.typeIs PyProof.Rows.slot_tuple_getitem
    (wpAny_call_entry PyProof.Rows.slot_tuple_getitem ht.typeIs entry_tuple_getitem ?_ (args_tuple_getitem _ _)))))
  refine wpAny_bind (m := Builtin.Tuple.tupleItemsOf (.ref t)) (tupleItemsOf_ ht (wpAny_bind (wpAny_typeOf hTs ?_)))
  rw [if_pos (by decide)]
  have es : xs.toArray.size = xs.length := List.size_toArray
  rw [es]
  refine wpAny_bind (appliedR hs ps ?_)
  have hno : ¬ (((xs.length : Int) - 1 == 0 && (-1 : Int) == 1 && xs.length == xs.length) = true) := by
    rw [show ((-1 : Int) == 1) = false by decide, Bool.and_false, Bool.false_and]
    exact Bool.false_ne_true
  show wpAny _ _ (if ((xs.length : Int) - 1 == 0 && (-1 : Int) == 1 && xs.length == xs.length) = true then _ else _) _ _ s
  rw [if_neg hno, pick_rev]
  have okR : sizeOk (.seq xs.reverse.toArray) := by
    show xs.reverse.toArray.size ≤ sizeLine
    rw [List.size_toArray, List.length_reverse]
    exact hz
  first
    | exact wpAny_bind (m := Builtin.Tuple.tupleExact _) (wpAny_newObj_type (wpAny_pure ⟨_, rfl, wpAny_pure h⟩) okR)
    | exact wpAny_bind (wpAny_bind (m := Builtin.Tuple.tupleExact _) (wpAny_newObj_type (wpAny_pure (wpAny_pure ⟨_, rfl, wpAny_pure h⟩)) okR))
    | exact wpAny_bind (wpAny_bind (m := Builtin.Tuple.tupleExact _) (wpAny_newObj_type (wpAny_pure ⟨_, rfl, wpAny_pure h⟩) okR))
end
section
variable {X : Cx}
/-- t[::-1] of any tuple: a new one -/
def tRevR (te : TE) : TE := fun σ H Q => te σ H fun x H1 => ∃ a xs, x = .ref a ∧ Rd H1 a (.tup xs) ∧ ∀ p, H1 p = none → Q (.ref p) (upd H1 p (.tup xs.reverse))
theorem pe_revR {e : Expr} {te : TE} {k : Nat} {p1 p2 p3 pos : Pos} (he : PE X e te) :
    PE X (.Subscript e (.Slice none none (some (.UnaryOp .USub (.Constant (.int 1) k p1) p2)) p3) pos) (tRevR te) := by
  have part : PO X (some (.UnaryOp .USub (.Constant (.int 1) k p1) p2)) (tPart (tUn (rU fun i => .int (-i)) (tC (.int 1)))) := po_some (pe_un un_neg pe_int)
  refine ⟨fun pins s σ H Q I h => Subscript_ (thn (he.run pins s σ H _ I h) ?_)⟩
  rintro v s1 ⟨x, H1, I1, r1, a, xs, rfl, hx, q⟩
  cases r1
  refine wpAny_Slice (thn (po_none.run pins s1 σ H1 (fun o G => o = none ∧ G = H1) I1 ⟨rfl, rfl⟩) ?_)
  rintro vl s2 ⟨_, G2, J2, pl, rfl, rfl⟩
  refine thn (po_none.run pins s2 σ G2 (fun o G => o = none ∧ G = G2) J2 ⟨rfl, rfl⟩) ?_
  rintro vu s3 ⟨_, G3, J3, pu, rfl, rfl⟩
  refine thn (part.run pins s3 σ G3 (fun o G => o = some (-1) ∧ G = G3) J3 ⟨1, rfl, -1, rfl, rfl, rfl⟩) ?_
  rintro vs s4 ⟨_, G4, J4, ps, rfl, rfl⟩
  cases pl
  cases pu
  have J5 : Inv X pins σ G4 { s4 with heap := s4.heap.push { cls := .type "slice", data := .fields #[.none, .none, vs] } } := J4.kept (t' := s4.toks) fun b ob z => Heap.get?_push_of_some _ z
  obtain ⟨its, r, ht, hz⟩ := J5.tuple (.inl hx)
  have hl := r.length
  refine tail_any (ops := [.ref a, .ref s4.heap.objs.size]) ht.typeIs (PyProof.Rows.slot_tuple_getitem.lookup) ?_ (by with_unfolding_all rfl)
  refine revR ht (by omega) (Heap.IsSliceOf.new _ .none .none vs) ps ?_
  exact ⟨.ref _, _, J5.laid (t' := s4.toks) (o := .tup xs.reverse) (fun b ob z => Heap.get?_push_of_some _ z) (Nat.le_refl _) ⟨by rw [List.length_reverse]; exact hz, _, r.reverse, IsTup.new _ _⟩, rfl, q _ (J5.hok.fresh (Nat.le_refl _))⟩
end
/-! ### a list, a tuple beside an empty one -/
section
variable {X : Cx}
def rNilL (K : PySem.W.Frag) (g : Bool → Bool) : R2 := fun x y H Q => ∃ (l b : Addr) (xs : List V), x = .ref l ∧ y = .ref b ∧ SqL K H l xs ∧ SqL K H b [] ∧ Q (.bl (g (decide (xs = [])))) H
def rNilT (K : PySem.W.Frag) : R2 := fun x y H Q => ∃ (l b : Addr) (xs : List V), x = .ref l ∧ y = .ref b ∧ SqT K H l xs ∧ SqT K H b [] ∧ Q (.bl (decide (xs = []))) H
theorem op_eqNilL (hu : X.A.units < cLine) : OpR X (compareOp .Eq) (rNilL X.K id) := by
  intro pins s σ H x y v u Q I rx ry h
  obtain ⟨l, b, xs, rfl, rfl, hl, hb, q⟩ := h
  cases rx
  cases ry
  obtain ⟨its, rv, pl, _⟩ := I.list hl
  obtain ⟨its2, rv2, pl2, _⟩ := I.list hb
  cases rv2
  have hn := rv.length
  cases xs with
  | nil =>
    cases rv
    exact SeqAt.eq_listAt (e := fun _ => true) pl.isList pl2.isList rfl hu (fun j h1 _ => absurd h1 (Nat.not_lt_zero _)) ⟨.bl _, H, I, rfl, q⟩
  | cons z zs =>
    refine SeqAt.eq_list_lengthsAt pl.isList pl2.isList ?_ hu ⟨.bl _, H, I, rfl, q⟩
    rw [List.size_toArray, ← hn]
    rfl
theorem op_neNilL (hu : X.A.units < cLine) : OpR X (compareOp .NotEq) (rNilL X.K not) := by
  intro pins s σ H x y v u Q I rx ry h
  obtain ⟨l, b, xs, rfl, rfl, hl, hb, q⟩ := h
  cases rx
  cases ry
  obtain ⟨its, rv, pl, _⟩ := I.list hl
  obtain ⟨its2, rv2, pl2, _⟩ := I.list hb
  cases rv2
  have hn := rv.length
  cases xs with
  | nil =>
    cases rv
    exact SeqAt.RcNeAt.lists (e := fun _ => true) pl.isList pl2.isList rfl hu (fun j h1 _ => absurd h1 (Nat.not_lt_zero _)) _ _ _ _ ⟨.bl _, H, I, rfl, q⟩
  | cons z zs =>
    refine SeqAt.RcNeAt.lists_lengths pl.isList pl2.isList ?_ hu _ _ _ _ ⟨.bl _, H, I, rfl, q⟩
    rw [List.size_toArray, ← hn]
    rfl
theorem op_eqNilT (hu : X.A.units < cLine) : OpR X (compareOp .Eq) (rNilT X.K) := by
  intro pins s σ H x y v u Q I rx ry h
  obtain ⟨l, b, xs, rfl, rfl, hl, hb, q⟩ := h
  cases rx
  cases ry
  obtain ⟨its, rv, pl, _⟩ := I.tuple hl
  obtain ⟨its2, rv2, pl2, _⟩ := I.tuple hb
  cases rv2
  have hn := rv.length
  refine SeqAt.eq_tupleAt (e := fun _ => true) pl pl2 hu (fun j h1 h2 => absurd h2 (Nat.not_lt_zero _)) ⟨.bl _, H, I, ?_, q⟩
  cases xs with
  | nil =>
    cases rv
    rfl
  | cons z zs =>
    show Value.bool _ = Value.bool _
    congr 1
    rw [List.size_toArray, ← hn]
    rfl
end
section
variable {X : Cx} {pins : List (Addr × Obj)} {σ : L2.St} {H : Hp} {s : Shared} {prog : Program} {w : World} {A : Around} {E : Value → Shared → Prop}
theorem mul_one (l : Addr) (items : Array Value) (n : Nat) (dd : Option Addr) (sl : Array (Option Value)) (u : Tok) :
    Meets (Builtin.«tuple.__mul__» ⟨[.ref l, .int 1 u], []⟩) (fun _ R s => s.heap.get? l = some { cls := .type "tuple", dict := dd, data := .seq items n, slots := sl } ∧ R (.ok (.ret (Value.ref l))) s) :=
  .of_wp fun prog w A R s h => by
    obtain ⟨hp, g, d, tk, os⟩ := s
    obtain ⟨hl, h⟩ := h
    have f1 := AutoSeq1.idx_int
    wp_walk using wpAny_loadPart' hl
    exact ⟨_, rfl, h⟩
def rRep1 (K : PySem.W.Frag) : R2 := fun x y H Q => ∃ l xs, x = .ref l ∧ y = .int 1 ∧ SqT K H l xs ∧ Q (.ref l) H
theorem op_rep1 : OpR X (binaryOp .Mult) (rRep1 X.K) := by
  intro pins s σ H x y v u Q I rx ry h
  obtain ⟨l, xs, rfl, rfl, hT, q⟩ := h
  cases rx
  obtain ⟨t, rfl⟩ := ry
  obtain ⟨its, r, ⟨⟨cls, dd, data, sl⟩, ho, hc, n, hd⟩, _⟩ := I.tuple hT
  cases hc
  cases hd
  exact wpAny_binaryOp_repeat_ref (T := "tuple") (U := "int") (by decide) ⟨_, ho, rfl⟩ (fun s' => typeIs_int s' 1 t) noFill_tuple_mul F.fills_int_mul F.slot_int_rmul repeat_tuple F.slot_int_index.lookup
    (call_meets F.slot_int_rmul (typeIs_int s 1 t) F.entry_int_rmul (F.args_int_rmul_2 _ _) (int_rmul_tuple 1 t l its.toArray n dd sl)
      ⟨ho, rfl, ⟨_, ho, rfl⟩, call_meets F.slot_tuple_mul ⟨_, ho, rfl⟩ F.entry_tuple_mul (F.args_tuple_mul_2 _ _) (mul_one l its.toArray n dd sl t) ⟨ho, .ref l, H, I, rfl, q⟩⟩)
/-- t * k for a small k from 1 on -/
def rRepS (K : PySem.W.Frag) : R2 := fun x y H Q => ∃ l k xs, x = .ref l ∧ y = .int k ∧ Rd H l (.tup xs) ∧ xs ≠ [] ∧ 1 ≤ k ∧ k ≤ 1000 ∧ xs.length ≤ 1000 ∧ ∀ q H', Same H H' → Rd H' q (.tup (List.replicate k.toNat xs).flatten) → (q = l ∨ H q = none) → Q (.ref q) H'
theorem op_repS : OpR X (binaryOp .Mult) (rRepS X.K) := by
  intro pins s σ H x y v u Q I rx ry h
  obtain ⟨l, k, xs, rfl, rfl, hT, hne, k1, k2, hz, q⟩ := h
  by_cases e : k = 1
  · subst e
    refine op_rep1 pins s σ H _ _ v u Q I rx ry ⟨l, xs, rfl, rfl, .inl hT, q l H (Same.refl H) ?_ (.inl rfl)⟩
    rw [show (List.replicate (1 : Int).toNat xs).flatten = xs by simp]
    exact hT
  · exact op_repT pins s σ H _ _ v u Q I rx ry ⟨l, k, xs, rfl, rfl, .inl hT, hne, by omega, k2, hz, fun p hp => q p _ (same_new hp) (.inl upd_same) (.inr hp)⟩
end
/-! ### the text by places -/
def top (i : Nat) : Stmt := PySem.Challenge.pw_sortedshelves_k36_comparisons_with_error.main.body.getD i (.Pass ⟨0, 0, 0, 0⟩)
abbrev sInteger : Stmt := top 4
abbrev sNumber : Stmt := top 5
abbrev sCErr : Stmt := top 7
abbrev sCRow : Stmt := top 8
abbrev sCols : Stmt := top 9
abbrev sTells : Stmt := top 10
abbrev sSignAt : Stmt := top 11
abbrev sDeck : Stmt := top 13
abbrev sDraw : Stmt := top 14
abbrev sOne : Stmt := top 15
abbrev sWords : Stmt := top 19
abbrev sColsL : Stmt := top 22
abbrev sComp : Stmt := top 23
abbrev sTellsL : Stmt := top 24
abbrev sOther : Stmt := top 29
abbrev sWhole : Stmt := top 30
abbrev sDue : Stmt := top 31
abbrev sLaw : Stmt := top 32
theorem scDeck : FnScope ["_law_script", "_law_cell"] ["_law_script"] (defScope sDeck) := ⟨rfl, rfl, rfl, by decide +kernel, rfl, by decide +kernel, by decide +kernel⟩
theorem scDraw : FnScope ["_law_deck_here", "_law_most", "_law_cell", "_law_at", "_law_mixed"] ["_law_deck_here", "_law_most"] (defScope sDraw) := ⟨rfl, rfl, rfl, by decide +kernel, rfl, by decide +kernel, by decide +kernel⟩
theorem scOne : FnScope ["_law_deck_here", "_law_items"] ["_law_deck_here", "_law_items"] (defScope sOne) := ⟨rfl, rfl, rfl, by decide +kernel, rfl, by decide +kernel, by decide +kernel⟩
def DeckAt (a c : Addr) (cells : List Int) (n : Int) (H : Hp) : Prop :=
  a ≠ c ∧ H a = some (.lst [.ref c, .int n]) ∧ H c = some (.lst (cells.map V.int)) ∧ cells.length ≤ 63 ∧ (∀ z ∈ cells, 0 ≤ z)
theorem cut_ints (ns : List Int) (lo hi : Option Int) : ∃ ms : List Int, cutV (ns.map V.int) lo hi = ms.map V.int ∧ ms.length ≤ ns.length := by
  unfold cutV
  refine ⟨(ns.drop (HT.sIx (ns.map V.int).length 0 lo)).take (HT.sIx (ns.map V.int).length (ns.map V.int).length hi - HT.sIx (ns.map V.int).length 0 lo), by rw [List.map_take, List.map_drop], ?_⟩
  rw [List.length_take, List.length_drop]
  omega
theorem int_at {ns : List Int} {i : Nat} {x : V} (h : (ns.map V.int)[i]? = some x) : ∃ u, x = V.int u := by
  rw [List.getElem?_map] at h
  obtain ⟨u, _, e⟩ := Option.map_eq_some_iff.mp h
  exact ⟨u, e.symm⟩
section
variable {P : Program} {w : World} {K : PySem.W.Frag} {mg : Str → Option Value} {base : Heap}
def spDeck (K : PySem.W.Frag) : Sp := fun vs H Q _ => ∃ (l : Addr) (ns : List Int), vs = [.ref l] ∧ SqL K H l (ns.map V.int) ∧ ns.length ≤ 63 ∧
  ∀ (H' : Hp) (a c : Addr) (cells : List Int), Same H H' → H a = none → H c = none → DeckAt a c cells 0 H' → Q (.ref a) H'
theorem ok_deck {f : Addr} {fd : FuncData} (F : Fun K "_law_deck" "_law_deck" sDeck f fd) (mAbs : mg "abs" = none) : FnOk P w K mg base CX0 1 f fd ["_law_script"] (spDeck K) := by
  refine F.ok scDeck (fun vs H Q E h => ?_) (fun cdv A outer s H vs Q E hr h => ?_)
  · obtain ⟨l, ns, rfl, _⟩ := h
    rfl
  · obtain ⟨l, ns, rfl, hS, hlen, k⟩ := h
    refine ⟨_, pss_one (ps_ret (pe_lst (pa_cons (pe_lc (own := [("_law_cell", 1)]) (g := gName 1) (tt := tYes) rfl scDeck.nd (pi_list (pe_slice sl_list (pv 0) po_none (po_some pe_int))) (blkOk_by (N := ["_law_script", "_law_cell"]) (sc := defScope sDeck) (by decide +kernel)) (fun _ _ _ _ _ => pg_name (i := 1) scDeck.nd rfl (Or.inl rfl)) (fun _ _ _ _ _ => pts_nil)
      (fun _ _ _ _ _ => pe_callB call_abs (by rfl) mAbs (by decide +kernel) (pa_cons (pv 1) pa_nil))) (pa_cons pe_int pa_nil)))), ?_⟩
    refine ⟨_, rfl, 63, rfl, l, _, rfl, hS, fun p hp => ?_⟩
    obtain ⟨ms, e, hm⟩ := cut_ints ns none (some 63)
    rw [e]
    refine ⟨p, rfl, ⟨_, SqL.of upd_same⟩, fun D hD => ?_⟩
    have np : p ≠ D := ne_of_none upd_same hD
    have hD0 : H D = none := by
      rw [upd_ne np.symm] at hD
      exact hD
    refine lc_list (K := K) (a := p) (xs := ms.map V.int) (fun i H' => Same H H' ∧ H' p = some (.lst (ms.map V.int)) ∧ ∃ cs : List Int, H' D = some (.lst (cs.map V.int)) ∧ cs.length = i ∧ ∀ z ∈ cs, 0 ≤ z) ⟨?_, ?_, [], upd_same, rfl, fun z hz => absurd hz List.not_mem_nil⟩ (fun i H' _ q => SqL.of q.2.1) ?_ ?_
    · exact (same_new hp).trans (same_new hD)
    · rw [upd_ne np, upd_same]
    · rintro i x H' hx ⟨sm, hp', cs, hD', hl, hc⟩
      obtain ⟨u, rfl⟩ := int_at hx
      refine ⟨rfl, ?_⟩
      refine ⟨_, rfl, u, rfl, _, hD', ?_, fun b o z => ?_, ?_, cs ++ [if u < 0 then -u else u], ?_, ?_, ?_⟩
      · have hi := (List.getElem?_eq_some_iff.mp hx).1
        rw [List.length_map] at hi ⊢
        exact small1000 (by omega)
      · rw [upd_ne (ne_of_none z hD0)]
        exact sm _ _ z
      · rw [upd_ne np]
        exact hp'
      · rw [upd_same, List.map_append]
        rfl
      · rw [List.length_append, hl]
        rfl
      · intro z hz
        rcases List.mem_append.mp hz with hz | hz
        · exact hc z hz
        · rw [List.mem_singleton.mp hz]
          split <;> omega
    · rintro H' ⟨sm, hp', cs, hD', hl, hc⟩
      rw [List.length_map] at hl
      refine ⟨(by show 2 ≤ sizeLine; decide), fun a ha => ?_⟩
      have na : D ≠ a := ne_of_none hD' ha
      have ha0 : H a = none := sm.free ha
      refine k _ a D cs (sm.trans (same_new ha)) ha0 hD0 ⟨na.symm, upd_same, ?_, by omega, hc⟩
      rw [upd_ne na]
      exact hD'
end
/-- the deck's two lists -/
def Bd (a c : Addr) : Addr → Prop := fun b => b = a ∨ b = c
theorem bd_ne {a c b : Addr} {H : Hp} {o : HO} (e : H b = some o) (nl : ∀ xs, o ≠ .lst xs) {xs ys : List V} (ha : H a = some (.lst xs)) (hc : H c = some (.lst ys)) : ¬ Bd a c b := by
  rintro (h | h)
  · rw [h, ha] at e
    exact nl _ (Option.some.inj e).symm
  · rw [h, hc] at e
    exact nl _ (Option.some.inj e).symm
theorem bd_new {a c p : Addr} {H : Hp} {xs ys : List V} (n : H p = none) (ha : H a = some (.lst xs)) (hc : H c = some (.lst ys)) : ¬ Bd a c p := by
  rintro (h | h)
  · rw [h, ha] at n
    cases n
  · rw [h, hc] at n
    cases n
theorem keep_upd {a c x : Addr} {H : Hp} {o : HO} (h : Bd a c x) : Keep (Bd a c) H (upd H x o) := fun b u n e => by
  rw [upd_ne (fun z : b = x => n (z.symm ▸ h))]
  exact e
section
variable {P : Program} {w : World} {K : PySem.W.Frag} {mg : Str → Option Value} {base : Heap}
def spDraw : Sp := fun vs H Q _ => ∃ (a c : Addr) (cells : List Int) (n m : Int), vs = [.ref a, .int m] ∧ DeckAt a c cells n H ∧ 1 ≤ m ∧ m ≤ 1000000 ∧ 0 ≤ n ∧ n ≤ 1000000 ∧
  ∀ (H' : Hp) (cells' : List Int) (r : Int), 0 ≤ r → r < m → DeckAt a c cells' (n + 1) H' → Keep (Bd a c) H H' → Q (.int r) H'
theorem ok_draw {f : Addr} {fd : FuncData} (F : Fun K "_law_draw" "_law_draw" sDraw f fd) (mLen : mg "len" = none) (mInt : mg "int" = none) : FnOk P w K mg base CX0 1 f fd ["_law_deck_here", "_law_most"] spDraw := by
  refine F.ok scDraw (fun vs H Q E h => ?_) (fun cdv A outer s H vs Q E hr h => ?_)
  · obtain ⟨a, c, cells, n, m, rfl, _⟩ := h
    rfl
  · obtain ⟨a, c, cells, n, m, rfl, ⟨nac, ha, hc, hlen, hpos⟩, m1, m2, n1, n2, k⟩ := h
    refine ⟨_, pss_cons (ps_asg (pe_op op_add (pe_ix ix_list (pv 0) pe_int (fun _ _ => rfl)) pe_int) (pg_sub (pv 0) pe_int set_list))
      (pss_cons (ps_asg (pe_tup (pa_cons pe_int (pa_cons (pe_un un_neg pe_int) pa_nil))) (pg_tup rfl (pgs_cons (pg_name (i := 2) scDraw.nd rfl (.inl rfl)) (pgs_cons (pg_name (i := 3) scDraw.nd rfl (.inl rfl)) pgs_nil))))
      (Evl.pss_cut (ps_if (pt_cmpR op_gt (pe_callB call_len_seq (by rfl) mLen PySem.boot_len (pa_cons (pe_ix ix_list (pv 0) pe_int (fun _ _ => rfl)) pa_nil)) pe_int (nomark _))
        (pss_cons (ps_set (i := 3) scDraw.nd rfl (.inl rfl) (pe_op op_mod (pe_callTy call_int1 (by rfl) mInt (by decide +kernel) (pa_cons (pe_ix ix_list (pv 0) pe_int (fun _ _ => rfl)) pa_nil)) (pe_callB call_len_seq (by rfl) mLen PySem.boot_len (pa_cons (pe_ix ix_list (pv 0) pe_int (fun _ _ => rfl)) pa_nil))))
        (pss_one (ps_set (i := 2) scDraw.nd rfl (.inl rfl) (pe_ix ix_list (pe_ix ix_list (pv 0) pe_int (fun _ _ => rfl)) (pv 3) (fun _ _ => rfl)))))
        pss_nil)
      (pss_cons (ps_if (pt_cmpR op_ge (pv 2) (pe_op op_pow pe_int pe_int) (nomark _))
        (pss_cons (ps_asg (pe_op op_fdivW (pe_callTy call_int1 (by rfl) mInt (by decide +kernel) (pa_cons (pv 2) pa_nil)) (pv 1)) (pg_sub (pe_ix ix_list (pv 0) pe_int (fun _ _ => rfl)) (pv 3) set_list))
          (pss_one (ps_ret (pe_op op_mod (pe_callTy call_int1 (by rfl) mInt (by decide +kernel) (pa_cons (pv 2) pa_nil)) (pv 1)))))
        pss_nil)
      (pss_cons (ps_set (i := 4) scDraw.nd rfl (.inl rfl) (pe_op op_add (pe_op op_add (pe_op op_mod (pe_callTy call_int1 (by rfl) mInt (by decide +kernel) (pa_cons (pv 2) pa_nil)) pe_int) (pe_op op_mul pe_int (pe_ix ix_list (pv 0) pe_int (fun _ _ => rfl)))) pe_int))
      (pss_one (ps_ret (pe_op op_mod (pe_callTy call_int1 (by rfl) mInt (by decide +kernel) (pa_cons (pe_op op_mod (pe_callTy call_int1 (by rfl) mInt (by decide +kernel) (pa_cons (pe_op op_pow (pv 4) pe_int) pa_nil)) pe_int) pa_nil)) (pv 1)))))))), ?_⟩
    refine ⟨.ref a, rfl, a, _, 1, _, rfl, rfl, SqL.of ha, atI_nat (j := 1) rfl, n, 1, rfl, rfl, .ref a, rfl, a, _, 1, 1, rfl, rfl, ha, rfl, ?_⟩
    have hA1 : upd H a (.lst [.ref c, .int (n + 1)]) a = some (.lst [.ref c, .int (n + 1)]) := upd_same
    have hC1 : upd H a (.lst [.ref c, .int (n + 1)]) c = some (.lst (cells.map V.int)) := by
      rw [upd_ne nac.symm]
      exact hc
    have k1 : Keep (Bd a c) H (upd H a (.lst [.ref c, .int (n + 1)])) := keep_upd (.inl rfl)
    refine ⟨1, rfl, (by show 2 ≤ sizeLine; decide), fun T hT => ?_⟩
    have k2 := k1.trans (keep_new (B := Bd a c) (o := .tup [.int 0, .int (-1)]) hT)
    have hA2 : upd (upd H a (.lst [.ref c, .int (n + 1)])) T (.tup [.int 0, .int (-1)]) a = some (.lst [.ref c, .int (n + 1)]) := by
      rw [upd_ne (ne_of_none hA1 hT)]
      exact hA1
    have hC2 : upd (upd H a (.lst [.ref c, .int (n + 1)])) T (.tup [.int 0, .int (-1)]) c = some (.lst (cells.map V.int)) := by
      rw [upd_ne (ne_of_none hC1 hT)]
      exact hC1
    have hT2 : upd (upd H a (.lst [.ref c, .int (n + 1)])) T (.tup [.int 0, .int (-1)]) T = some (.tup [.int 0, .int (-1)]) := upd_same
    refine ⟨T, _, rfl, SqT.of hT2, rfl, .int 0, [.int (-1)], rfl, .int (-1), [], rfl, rfl, ?_⟩
    refine ⟨fun σ' H' => ∃ cell at_ : Int, σ' = [some (.ref a), some (.int m), some (.int cell), some (.int at_), none] ∧ Keep (Bd a c) H H' ∧ H' a = some (.lst [.ref c, .int (n + 1)]) ∧ H' c = some (.lst (cells.map V.int)) ∧ 0 ≤ cell ∧ (10 ^ 18 ≤ cell → ∃ j : Nat, j < cells.length ∧ at_ = (j : Int)), ?_, ?_⟩
    · refine ⟨.ref a, rfl, a, _, 0, .ref c, rfl, rfl, SqL.of hA2, atI_nat (j := 0) rfl, c, _, rfl, .inl (SqL.of hC2), _, _, rfl, rfl, _, rfl, ite2 (fun h0 => ?_) (fun h0 => ?_)⟩
      · have h0 := of_decide_eq_true h0
        rw [List.length_map] at h0
        obtain ⟨j, hj, ej⟩ : ∃ j : Nat, j < cells.length ∧ (n + 1) % ((cells.map V.int).length : Int) = (j : Int) := by
          rw [List.length_map]
          have x1 := Int.emod_nonneg (n + 1) (b := (cells.length : Int)) (by omega)
          have x2 := Int.emod_lt_of_pos (n + 1) (b := (cells.length : Int)) h0
          exact ⟨((n + 1) % (cells.length : Int)).toNat, by omega, by omega⟩
        have gj : (cells.map V.int)[j]? = some (.int cells[j]) := by
          rw [List.getElem?_map, List.getElem?_eq_getElem hj]
          rfl
        refine ⟨.ref a, rfl, a, _, 1, _, rfl, rfl, SqL.of hA2, atI_nat (j := 1) rfl, .inl ⟨n + 1, rfl, .ref a, rfl, a, _, 0, .ref c, rfl, rfl, SqL.of hA2, atI_nat (j := 0) rfl, c, _, rfl, .inl (SqL.of hC2), _, _, rfl, rfl, (by rw [List.length_map]; exact h0), ?_⟩⟩
        refine ⟨.ref a, rfl, a, _, 0, .ref c, rfl, rfl, SqL.of hA2, atI_nat (j := 0) rfl, .int j, by rw [← ej]; rfl, c, _, _, _, rfl, rfl, SqL.of hC2, atI_nat gj, ?_⟩
        exact ⟨cells[j], j, by rw [← ej]; rfl, k2, hA2, hC2, hpos _ (List.getElem_mem hj), fun _ => ⟨j, hj, rfl⟩⟩
      · exact ⟨0, -1, rfl, k2, hA2, hC2, Int.le_refl _, fun z => absurd z (by decide)⟩
    · rintro σ' H3 ⟨cell, at_, rfl, k3, hA3, hC3, hp, hj⟩
      refine ⟨_, rfl, 10, 18, rfl, rfl, ⟨by decide, by decide, by decide⟩, _, _, rfl, rfl, _, rfl, ite2 (fun h0 => ?_) (fun h0 => ?_)⟩
      · obtain ⟨j, hj2, ea⟩ := hj (of_decide_eq_true h0)
        subst ea
        refine ⟨_, rfl, .inl ⟨cell, rfl, _, rfl, _, _, rfl, rfl, wide_div (b := 20) (by omega) (by omega) (by decide) (by decide), .ref a, rfl, a, _, 0, .ref c, rfl, rfl, SqL.of hA3, atI_nat (j := 0) rfl, _, rfl, c, _, _, j, rfl, rfl, hC3, Evl.ixN_nat (by rw [List.length_map]; exact hj2), ?_⟩⟩
        refine ⟨_, rfl, .inl ⟨cell, rfl, _, rfl, _, _, rfl, rfl, (by omega), ?_⟩⟩
        refine k _ (cells.set j (cell / m)) _ (Int.emod_nonneg _ (by omega)) (Int.emod_lt_of_pos _ (by omega)) ⟨nac, ?_, ?_, ?_, ?_⟩ (k3.trans (keep_upd (.inr rfl)))
        · rw [upd_ne nac]
          exact hA3
        · rw [upd_same, List.map_set]
        · rw [List.length_set]
          exact hlen
        · intro z hz
          rcases List.mem_or_eq_of_mem_set hz with hz | hz
          · exact hpos z hz
          · rw [hz]
            exact Int.ediv_nonneg hp (by omega)
      · have b1 := Int.emod_nonneg cell (b := 2147483179) (by decide)
        have b2 := Int.emod_lt_of_pos cell (b := 2147483179) (by decide)
        refine ⟨_, rfl, .inl ⟨cell, rfl, _, _, rfl, rfl, (by show (0 : Int) < 2147483179; decide), .ref a, rfl, a, _, 1, _, rfl, rfl, SqL.of hA3, atI_nat (j := 1) rfl, 5501, n + 1, rfl, rfl, .inl ⟨by decide, by decide⟩, _, _, rfl, rfl, _, _, rfl, rfl, ?_⟩⟩
        refine ⟨_, rfl, cell % 2147483179 + 5501 * (n + 1) + 29, 5, rfl, rfl, ⟨by decide, by decide, by omega⟩, .inl ⟨_, rfl, _, _, rfl, rfl, (by show (0 : Int) < 2147483423; decide), .inl ⟨_, rfl, _, rfl, _, _, rfl, rfl, (by omega), ?_⟩⟩⟩
        exact k _ cells _ (Int.emod_nonneg _ (by omega)) (Int.emod_lt_of_pos _ (by omega)) ⟨nac, hA3, hC3, hlen, hpos⟩ k3
end
section
variable {P : Program} {w : World} {K : PySem.W.Frag} {mg : Str → Option Value} {base : Heap}
def spOne (K : PySem.W.Frag) : Sp := fun vs H Q _ => ∃ (a c l : Addr) (cells : List Int) (n : Int) (xs : List V), vs = [.ref a, .ref l] ∧ DeckAt a c cells n H ∧ 0 ≤ n ∧ n ≤ 1000000 ∧ SqL K H l xs ∧ ¬ Bd a c l ∧ xs ≠ [] ∧ xs.length ≤ 1000 ∧
  ∀ (H' : Hp) (cells' : List Int) (x : V), x ∈ xs → DeckAt a c cells' (n + 1) H' → Keep (Bd a c) H H' → Q x H'
theorem ok_one {f fD : Addr} {fd fdD : FuncData} (F : Fun K "_law_one" "_law_one" sOne f fd) (D : FnOk P w K mg base CX0 1 fD fdD ["_law_deck_here", "_law_most"] spDraw) (FD : Fun K "_law_draw" "_law_draw" sDraw fD fdD) (bD : Binds K fdD ["_law_deck_here", "_law_most"] [])
    (gD : mg "_law_draw" = some (.ref fD)) (mLen : mg "len" = none) : FnOk P w K mg base CX0 2 f fd ["_law_deck_here", "_law_items"] (spOne K) := by
  refine F.ok scOne (fun vs H Q E h => ?_) (fun cdv A outer s H vs Q E hr h => ?_)
  · obtain ⟨a, c, l, cells, n, xs, rfl, _⟩ := h
    rfl
  · obtain ⟨a, c, l, cells, n, xs, rfl, dk, n0, n1, hL, nb, hne, hlen, k⟩ := h
    refine ⟨_, pss_one (ps_ret (pe_ix ix_list (pv 1) (pe_call D hr (by rfl) gD FD.kp bD .nil pass0 (pa_cons (pv 0) (pa_cons (pe_callB call_len_seq (by rfl) mLen PySem.boot_len (pa_cons (pv 1) pa_nil)) pa_nil))) (fun _ _ => rfl))), ?_⟩
    have lp : 0 < xs.length := List.length_pos_iff.mpr hne
    refine ⟨_, rfl, _, rfl, _, rfl, l, xs, rfl, .inl hL, a, c, cells, n, _, rfl, dk, by omega, by omega, n0, n1, fun H' cells' r r0 r1 dk' kp => ?_⟩
    have hr2 : r.toNat < xs.length := by omega
    refine ⟨l, xs, r, xs[r.toNat], rfl, rfl, kp.seqL nb hL, ?_, k H' cells' _ (List.getElem_mem hr2) dk' kp⟩
    have e := atI_nat (List.getElem?_eq_getElem hr2)
    rw [show ((r.toNat : Nat) : Int) = r by omega] at e
    exact e
end
/-- the built-in names that nobody stores, and the program's constants -/
structure Mg (mg : Str → Option Value) : Prop where
  len : mg "len" = none
  int : mg "int" = none
  range : mg "range" = none
  tuple : mg "tuple" = none
  list : mg "list" = none
  isi : mg "isinstance" = none
  all : mg "all" = none
  abs : mg "abs" = none
  bool : mg "bool" = none
  repr : mg "repr" = none
  max : mg "max" = none
  ml : ∃ t, mg "MAX_LETTERS" = some (.int 3 t)
  ms : ∃ t, mg "MAX_STANDS" = some (.int 60 t)
  le : ∃ t, mg "LETTERS" = some (.str "abc" t)
def tyN : PyData → String
  | .none => "NoneType"
  | .bool _ => "bool"
  | .int _ => "int"
  | .str _ => "str"
  | .list _ => "list"
  | .tuple _ => "tuple"
  | .dict _ => "dict"
theorem tyD {B : Addr → Prop} {K : PySem.W.Frag} {H : Hp} {v : V} {d : PyData} (h : Dt B K H v d) : TyX K H v (.type (tyN d)) := by
  cases h with
  | non => exact .base .non
  | bl b => exact .base (.bl b)
  | int i => exact .base (.int i)
  | str x => exact .base (.str x)
  | lst nb ne hs ha =>
    rcases hs with hs | ⟨o, hs⟩
    · exact .base (.lst hs)
    · exact .base (.frz hs)
  | tup nb hs ha =>
    rcases hs with hs | ⟨o, hs⟩
    · exact .base (.tup hs)
    · exact .fTuple hs
  | emp nb e => exact .base (.dK e)
def isInt : PyData → Bool
  | .int _ => true
  | .bool _ => true
  | _ => false
def isBool : PyData → Bool
  | .bool _ => true
  | _ => false
def isTup : PyData → Bool
  | .tuple _ => true
  | _ => false
theorem kitI {K : PySem.W.Frag} (d : PyData) : PySem.W.kitOne K (.type (tyN d)) (.type "int") = some (isInt d) := by
  cases d with
  | none => exact kit_ty (show kitB "NoneType" "int" = some false by decide +kernel)
  | bool _ => exact kit_ty (show kitB "bool" "int" = some true by decide +kernel)
  | int _ => exact kit_ty (show kitB "int" "int" = some true by decide +kernel)
  | str _ => exact kit_ty (show kitB "str" "int" = some false by decide +kernel)
  | list _ => exact kit_ty (show kitB "list" "int" = some false by decide +kernel)
  | tuple _ => exact kit_ty (show kitB "tuple" "int" = some false by decide +kernel)
  | dict _ => exact kit_ty (show kitB "dict" "int" = some false by decide +kernel)
theorem kitB' {K : PySem.W.Frag} (d : PyData) : PySem.W.kitOne K (.type (tyN d)) (.type "bool") = some (isBool d) := by
  cases d with
  | none => exact kit_ty (show kitB "NoneType" "bool" = some false by decide +kernel)
  | bool _ => exact kit_ty (show kitB "bool" "bool" = some true by decide +kernel)
  | int _ => exact kit_ty (show kitB "int" "bool" = some false by decide +kernel)
  | str _ => exact kit_ty (show kitB "str" "bool" = some false by decide +kernel)
  | list _ => exact kit_ty (show kitB "list" "bool" = some false by decide +kernel)
  | tuple _ => exact kit_ty (show kitB "tuple" "bool" = some false by decide +kernel)
  | dict _ => exact kit_ty (show kitB "dict" "bool" = some false by decide +kernel)
theorem kitT {K : PySem.W.Frag} (d : PyData) : PySem.W.kitOne K (.type (tyN d)) (.type "tuple") = some (isTup d) := by
  cases d with
  | none => exact kit_ty (show kitB "NoneType" "tuple" = some false by decide +kernel)
  | bool _ => exact kit_ty (show kitB "bool" "tuple" = some false by decide +kernel)
  | int _ => exact kit_ty (show kitB "int" "tuple" = some false by decide +kernel)
  | str _ => exact kit_ty (show kitB "str" "tuple" = some false by decide +kernel)
  | list _ => exact kit_ty (show kitB "list" "tuple" = some false by decide +kernel)
  | tuple _ => exact kit_ty (show kitB "tuple" "tuple" = some true by decide +kernel)
  | dict _ => exact kit_ty (show kitB "dict" "tuple" = some false by decide +kernel)
/-- an integer, no bool, within the bounds -/
def numD (d : PyData) (lo hi : Int) : Bool := match d with
  | .int i => decide (lo ≤ i) && decide (i ≤ hi)
  | _ => false
def spNum (K : PySem.W.Frag) : Sp := fun vs H Q _ => ∃ (B : Addr → Prop) (x : V) (d : PyData) (lo hi : Int), vs = [x, .int lo, .int hi] ∧ Dt B K H x d ∧ Q (.bl (numD d lo hi)) H
def intD : PyData → Bool
  | .int _ => true
  | _ => false
def spInt (K : PySem.W.Frag) : Sp := fun vs H Q _ => ∃ (B : Addr → Prop) (x : V) (d : PyData), vs = [x] ∧ Dt B K H x d ∧ Q (.bl (intD d)) H
section
variable {P : Program} {w : World} {K : PySem.W.Frag} {mg : Str → Option Value} {base : Heap}
theorem scInteger : FnScope ["value"] ["value"] (defScope sInteger) := ⟨rfl, rfl, rfl, by decide +kernel, rfl, by decide +kernel, by decide +kernel⟩
theorem ok_Integer {f : Addr} {fd : FuncData} (F : Fun K "is_integer" "is_integer" sInteger f fd) (T : Mg mg) : FnOk P w K mg base CX0 1 f fd ["value"] (spInt K) := by
  refine F.ok scInteger (fun vs H Q E h => ?_) (fun cdv A outer s H vs Q E hr h => ?_)
  · obtain ⟨B, x, d, rfl, _⟩ := h
    rfl
  · obtain ⟨B, x, d, rfl, hd, k⟩ := h
    refine ⟨_, pss_one (ps_ret (pe_and (pe_callB call_isi (by rfl) T.isi PyProof.Rows.boot_isinstance (pa_cons (pv 0) (pa_cons (pe_bltn (v := .ty "int") (by rfl) T.int PyProof.Rows.boot_int rfl) pa_nil)))
      (pe_one (pe_not (pe_callB call_isi (by rfl) T.isi PyProof.Rows.boot_isinstance (pa_cons (pv 0) (pa_cons (pe_bltn (v := .ty "bool") (by rfl) T.bool PyProof.Rows.boot_bool rfl) pa_nil))))))), ?_⟩
    refine ⟨x, rfl, x, .ty "int", _, _, _, rfl, .ty _, tyD hd, kitI d, _, rfl, ?_⟩
    cases d with
    | int i => exact ⟨x, rfl, x, .ty "bool", _, _, _, rfl, .ty _, tyD hd, kitB' _, _, rfl, k⟩
    | bool b => exact ⟨x, rfl, x, .ty "bool", _, _, _, rfl, .ty _, tyD hd, kitB' _, _, rfl, k⟩
    | none => exact k
    | str y => exact k
    | list _ => exact k
    | tuple _ => exact k
    | dict _ => exact k
theorem scNumber : FnScope ["value", "least", "most"] ["value", "least", "most"] (defScope sNumber) := ⟨rfl, rfl, rfl, by decide +kernel, rfl, by decide +kernel, by decide +kernel⟩
theorem ok_Number {f fI : Addr} {fd fdI : FuncData} (F : Fun K "is_number" "is_number" sNumber f fd) (I : FnOk P w K mg base CX0 1 fI fdI ["value"] (spInt K)) (FI : Fun K "is_integer" "is_integer" sInteger fI fdI) (bI : Binds K fdI ["value"] []) (gI : mg "is_integer" = some (.ref fI)) :
    FnOk P w K mg base CX0 2 f fd ["value", "least", "most"] (spNum K) := by
  refine F.ok scNumber (fun vs H Q E h => ?_) (fun cdv A outer s H vs Q E hr h => ?_)
  · obtain ⟨B, x, d, lo, hi, rfl, _⟩ := h
    rfl
  · obtain ⟨B, x, d, lo, hi, rfl, hd, k⟩ := h
    refine ⟨_, pss_one (ps_ret (pe_and (pe_call I (hr.mono (by decide)) (by rfl) gI FI.kp bI .nil pass0 (pa_cons (pv 0) pa_nil)) (pe_one (pe_chain op_le op_le (pv 1) (pv 0) (pv 2))))), ?_⟩
    refine ⟨x, rfl, B, x, d, rfl, hd, _, rfl, ?_⟩
    cases hd with
    | int i =>
      refine ⟨.int lo, rfl, .int i, rfl, lo, i, rfl, rfl, _, rfl, ?_⟩
      refine ite2 (fun h1 => ?_) (fun h1 => ?_)
      · refine ⟨.int hi, rfl, i, hi, rfl, rfl, ?_⟩
        have e : numD (.int i) lo hi = decide (i ≤ hi) := by
          show (decide (lo ≤ i) && decide (i ≤ hi)) = decide (i ≤ hi)
          rw [h1]
          rfl
        rw [e] at k
        exact k
      · have e : numD (.int i) lo hi = false := by
          show (decide (lo ≤ i) && decide (i ≤ hi)) = false
          rw [Bool.eq_false_iff.mpr h1]
          rfl
        rw [e] at k
        exact k
    | bl b => exact k
    | non => exact k
    | str y => exact k
    | lst nb ne hs ha => exact k
    | tup nb hs ha => exact k
    | emp nb e => exact k
theorem scWhole : FnScope ["_law_value", "_law_least", "_law_most"] ["_law_value", "_law_least", "_law_most"] (defScope sWhole) := ⟨rfl, rfl, rfl, by decide +kernel, rfl, by decide +kernel, by decide +kernel⟩
theorem ok_Whole {f : Addr} {fd : FuncData} (F : Fun K "_law_whole" "_law_whole" sWhole f fd) (T : Mg mg) : FnOk P w K mg base CX0 1 f fd ["_law_value", "_law_least", "_law_most"] (spNum K) := by
  refine F.ok scWhole (fun vs H Q E h => ?_) (fun cdv A outer s H vs Q E hr h => ?_)
  · obtain ⟨B, x, d, lo, hi, rfl, _⟩ := h
    rfl
  · obtain ⟨B, x, d, lo, hi, rfl, hd, k⟩ := h
    refine ⟨_, pss_one (ps_ret (pe_and (pe_callB call_isi (by rfl) T.isi PyProof.Rows.boot_isinstance (pa_cons (pv 0) (pa_cons (pe_bltn (v := .ty "int") (by rfl) T.int PyProof.Rows.boot_int rfl) pa_nil)))
      (pe_and (pe_not (pe_callB call_isi (by rfl) T.isi PyProof.Rows.boot_isinstance (pa_cons (pv 0) (pa_cons (pe_bltn (v := .ty "bool") (by rfl) T.bool PyProof.Rows.boot_bool rfl) pa_nil))))
      (pe_one (pe_chain op_le op_le (pv 1) (pv 0) (pv 2)))))), ?_⟩
    refine ⟨x, rfl, x, .ty "int", _, _, _, rfl, .ty _, tyD hd, kitI d, _, rfl, ?_⟩
    cases hd with
    | int i =>
      refine ⟨.int i, rfl, .int i, .ty "bool", _, _, _, rfl, .ty _, tyD (.int (B := B) i), kitB' (.int i), _, rfl, _, rfl, .int lo, rfl, .int i, rfl, lo, i, rfl, rfl, _, rfl, ?_⟩
      refine ite2 (fun h1 => ?_) (fun h1 => ?_)
      · refine ⟨.int hi, rfl, i, hi, rfl, rfl, ?_⟩
        have e : numD (.int i) lo hi = decide (i ≤ hi) := by
          show (decide (lo ≤ i) && decide (i ≤ hi)) = decide (i ≤ hi)
          rw [h1]
          rfl
        rw [e] at k
        exact k
      · have e : numD (.int i) lo hi = false := by
          show (decide (lo ≤ i) && decide (i ≤ hi)) = false
          rw [Bool.eq_false_iff.mpr h1]
          rfl
        rw [e] at k
        exact k
    | bl b => exact ⟨.bl b, rfl, .bl b, .ty "bool", _, _, _, rfl, .ty _, tyD (.bl (B := B) b), kitB' (.bool b), _, rfl, _, rfl, k⟩
    | non => exact k
    | str y => exact k
    | lst nb ne hs ha => exact k
    | tup nb hs ha => exact k
    | emp nb e => exact k
end
/-! ### data, counted and kept apart -/
theorem Dt.len_le {B : Addr → Prop} {K : PySem.W.Frag} {H : Hp} {a : Addr} {ds : List PyData} (h : Dt B K H (.ref a) (.tuple ds)) : ∃ xs, SqT K H a xs ∧ DtAll B K H xs ds ∧ xs.length = ds.length := by
  cases h with
  | tup nb hs ha => exact ⟨_, .inl hs, ha, ha.len⟩
theorem Dt.tup_ref {B : Addr → Prop} {K : PySem.W.Frag} {H : Hp} {v : V} {ds : List PyData} (h : Dt B K H v (.tuple ds)) : ∃ a xs, v = .ref a ∧ ¬ B a ∧ SqT K H a xs ∧ DtAll B K H xs ds ∧ xs.length = ds.length := by
  cases h with
  | tup nb hs ha => exact ⟨_, _, rfl, nb, .inl hs, ha, ha.len⟩
theorem Dt.tup_rd {B : Addr → Prop} {K : PySem.W.Frag} {H : Hp} {v : V} {ds : List PyData} (h : Dt B K H v (.tuple ds)) : ∃ a xs, v = .ref a ∧ ¬ B a ∧ Rd H a (.tup xs) ∧ DtAll B K H xs ds ∧ xs.length = ds.length := by
  cases h with
  | tup nb hs ha => exact ⟨_, _, rfl, nb, hs, ha, ha.len⟩
mutual
theorem Dt.off {B : Addr → Prop} {K : PySem.W.Frag} {H : Hp} {q : Addr} (n : H q = none) : ∀ (d : PyData) (v : V), Dt B K H v d → Dt (fun b => B b ∨ b = q) K H v d
  | .none, _, h => by cases h; exact .non
  | .bool _, _, h => by cases h; exact .bl _
  | .int _, _, h => by cases h; exact .int _
  | .str _, _, h => by cases h; exact .str _
  | .list ds, _, h => by
    cases h with
    | lst nb ne hs ha =>
      refine .lst (fun z => ?_) ne hs (DtAll.off n ds _ ha)
      rcases z with z | z
      · exact nb z
      · rw [z] at hs
        rcases hs with e | ⟨o, e⟩ <;> (rw [n] at e; cases e)
  | .tuple ds, _, h => by
    cases h with
    | tup nb hs ha =>
      refine .tup (fun z => ?_) hs (DtAll.off n ds _ ha)
      rcases z with z | z
      · exact nb z
      · rw [z] at hs
        rcases hs with e | ⟨o, e⟩ <;> (rw [n] at e; cases e)
  | .dict _, _, h => by
    cases h with
    | emp nb e =>
      refine .emp (fun z => ?_) e
      rcases z with z | z
      · exact nb z
      · rw [z, n] at e
        cases e
theorem DtAll.off {B : Addr → Prop} {K : PySem.W.Frag} {H : Hp} {q : Addr} (n : H q = none) : ∀ (ds : List PyData) (vs : List V), DtAll B K H vs ds → DtAll (fun b => B b ∨ b = q) K H vs ds
  | [], _, h => by cases h; exact .nil
  | d :: ds, _, h => by
    cases h with
    | cons h1 h2 => exact .cons (Dt.off n d _ h1) (DtAll.off n ds _ h2)
end
theorem same_dt {B : Addr → Prop} {K : PySem.W.Frag} {H H' : Hp} {v : V} {d : PyData} (s : Same H H') (h : Dt B K H v d) : Dt B K H' v d := Dt.keep (Keep.same s) d v h
theorem same_seqT {K : PySem.W.Frag} {H H' : Hp} {a : Addr} {xs : List V} (s : Same H H') (h : SqT K H a xs) : SqT K H' a xs := Keep.seqT (B := fun _ => False) (Keep.same s) (fun z => z) h
theorem all_take {f : PyData → Bool} {ds : List PyData} : ((ds.map f).all id) = ds.all f := by
  rw [List.all_map]
  rfl
mutual
def nodes : PyData → Nat
  | .list xs => 1 + nodesAll xs
  | .tuple xs => 1 + nodesAll xs
  | .none => 1
  | .bool _ => 1
  | .int _ => 1
  | .str _ => 1
  | .dict _ => 1
def nodesAll : List PyData → Nat
  | [] => 0
  | x :: xs => nodes x + nodesAll xs
end
theorem nodes_pos : ∀ d : PyData, 1 ≤ nodes d
  | .list xs => by unfold nodes; omega
  | .tuple xs => by unfold nodes; omega
  | .none => by unfold nodes; omega
  | .bool _ => by unfold nodes; omega
  | .int _ => by unfold nodes; omega
  | .str _ => by unfold nodes; omega
  | .dict _ => by unfold nodes; omega
theorem nodes_tup (xs : List PyData) : nodes (.tuple xs) = 1 + nodesAll xs := by rw [nodes]
theorem nodes_lst (xs : List PyData) : nodes (.list xs) = 1 + nodesAll xs := by rw [nodes]
theorem nodesAll_cons (x : PyData) (xs : List PyData) : nodesAll (x :: xs) = nodes x + nodesAll xs := by rw [nodesAll]
theorem nodesAll_nil : nodesAll [] = 0 := by rw [nodesAll]
theorem len_nodes : ∀ xs : List PyData, xs.length ≤ nodesAll xs
  | [] => Nat.zero_le _
  | x :: xs => by
    have := len_nodes xs
    have := nodes_pos x
    rw [nodesAll_cons, List.length_cons]
    omega
theorem mem_nodes : ∀ {xs : List PyData} {x : PyData}, x ∈ xs → nodes x ≤ nodesAll xs
  | [], _, h => absurd h List.not_mem_nil
  | y :: ys, x, h => by
    rw [nodesAll_cons]
    rcases List.mem_cons.mp h with e | e
    · rw [e]
      omega
    · have := mem_nodes e
      omega
theorem nodesAll_append : ∀ xs ys : List PyData, nodesAll (xs ++ ys) = nodesAll xs + nodesAll ys
  | [], ys => by rw [List.nil_append, nodesAll_nil, Nat.zero_add]
  | x :: xs, ys => by rw [List.cons_append, nodesAll_cons, nodesAll_cons, nodesAll_append xs ys, Nat.add_assoc]
theorem deck_upd {a c p : Addr} {cells : List Int} {n : Int} {H : Hp} {o : HO} (h : DeckAt a c cells n H) (np : ¬ Bd a c p) : DeckAt a c cells n (upd H p o) := by
  obtain ⟨h1, h2, h3, h4, h5⟩ := h
  refine ⟨h1, ?_, ?_, h4, h5⟩
  · rw [upd_ne (fun z : a = p => np (.inl z.symm))]
    exact h2
  · rw [upd_ne (fun z : c = p => np (.inr z.symm))]
    exact h3
theorem deck_off {a c p : Addr} {cells : List Int} {n : Int} {H : Hp} (h : DeckAt a c cells n H) (np : H p = none) : ¬ Bd a c p := bd_new np h.2.1 h.2.2.1
theorem deck_new {a c p : Addr} {cells : List Int} {n : Int} {H : Hp} {o : HO} (h : DeckAt a c cells n H) (np : H p = none) : DeckAt a c cells n (upd H p o) := deck_upd h (deck_off h np)
/-- a list that is made at D while the deck is drawn from: at most s draws an item -/
def CInv (a c D : Addr) (H0 : Hp) (G : V → Prop) (n0 s : Int) (j : Nat) (H' : Hp) : Prop :=
  ∃ (cells : List Int) (n' : Int) (acc : List V), DeckAt a c cells n' H' ∧ n0 ≤ n' ∧ n' ≤ n0 + s * j ∧ Keep (Bd a c) H0 H' ∧ H' D = some (.lst acc) ∧ acc.length = j ∧ ∀ v ∈ acc, G v
theorem cstart {a c D : Addr} {H0 : Hp} {G : V → Prop} {cells : List Int} {n0 s : Int} (dk : DeckAt a c cells n0 H0) (hD : H0 D = none) : CInv a c D H0 G n0 s 0 (upd H0 D (.lst [])) :=
  ⟨cells, n0, [], deck_new dk hD, Int.le_refl _, by simp, keep_new hD, upd_same, rfl, fun v z => absurd z List.not_mem_nil⟩
theorem cstep {a c D : Addr} {H0 H1 H2 : Hp} {G : V → Prop} {cells2 : List Int} {n0 s n1 n2 : Int} {j : Nat} {acc : List V} {v : V} (hD0 : H0 D = none) (nD : ¬ Bd a c D) (hj : j ≤ 1000) (h0 : n0 ≤ n1) (h1 : n1 ≤ n0 + s * j) (kp : Keep (Bd a c) H0 H1) (hD : H1 D = some (.lst acc)) (hl : acc.length = j)
    (hG : ∀ v ∈ acc, G v) (dk : DeckAt a c cells2 n2 H2) (h2 : n1 ≤ n2) (h3 : n2 ≤ n1 + s) (k2 : Keep (Bd a c) H1 H2) (g : G v) :
    ∃ acc', H2 D = some (.lst acc') ∧ acc'.length < sizeLine ∧ CInv a c D H0 G n0 s (j + 1) (upd H2 D (.lst (acc' ++ [v]))) := by
  refine ⟨acc, k2 _ _ nD hD, small1000 (by omega), cells2, n2, acc ++ [v], deck_upd dk nD, by omega, ?_, fun b o nb z => ?_, upd_same, ?_, fun u hu => ?_⟩
  · have e : s * ((j + 1 : Nat) : Int) = s * j + s := by
      rw [Int.natCast_add, Int.mul_add]
      simp
    rw [e]
    omega
  · rw [upd_ne (ne_of_none z hD0)]
    exact k2 _ _ nb (kp _ _ nb z)
  · rw [List.length_append, hl]
    rfl
  · rcases List.mem_append.mp hu with hu | hu
    · exact hG u hu
    · rw [List.mem_singleton.mp hu]
      exact g
mutual
theorem Dt.weak {B B' : Addr → Prop} {K : PySem.W.Frag} {H : Hp} (k : ∀ b, B' b → B b) : ∀ (d : PyData) (v : V), Dt B K H v d → Dt B' K H v d
  | .none, _, h => by cases h; exact .non
  | .bool _, _, h => by cases h; exact .bl _
  | .int _, _, h => by cases h; exact .int _
  | .str _, _, h => by cases h; exact .str _
  | .list ds, _, h => by
    cases h with
    | lst nb ne hs ha => exact .lst (fun z => nb (k _ z)) ne hs (DtAll.weak k ds _ ha)
  | .tuple ds, _, h => by
    cases h with
    | tup nb hs ha => exact .tup (fun z => nb (k _ z)) hs (DtAll.weak k ds _ ha)
  | .dict _, _, h => by
    cases h with
    | emp nb e => exact .emp (fun z => nb (k _ z)) e
theorem DtAll.weak {B B' : Addr → Prop} {K : PySem.W.Frag} {H : Hp} (k : ∀ b, B' b → B b) : ∀ (ds : List PyData) (vs : List V), DtAll B K H vs ds → DtAll B' K H vs ds
  | [], _, h => by cases h; exact .nil
  | d :: ds, _, h => by
    cases h with
    | cons h1 h2 => exact .cons (Dt.weak k d _ h1) (DtAll.weak k ds _ h2)
end
theorem Keep.wide {B B' : Addr → Prop} {H H' : Hp} (k : ∀ b, B b → B' b) (h : Keep B H H') : Keep B' H H' := fun b o n e => h b o (fun z => n (k b z)) e
section
variable {X : Cx}
/-- []: new, and no table of modules -/
def tNilN : TE := fun _ H Q => ∀ p, H p = none → p ≠ sysModules → Q (.ref p) (upd H p (.lst []))
theorem pe_nilN {pos : Pos} : PE X (.List [] pos) tNilN := by
  refine ⟨fun pins s σ H Q I h => ?_⟩
  refine wpAny_List_spliced (thn (pa_nil.run pos pins s σ H (fun xs H1 => xs = [] ∧ H1 = H) I ⟨rfl, rfl⟩) ?_)
  rintro us s1 ⟨xs, H1, I1, r, rfl, rfl⟩
  cases r
  exact ⟨Nat.zero_le _, .ref s1.heap.objs.size, _, I1.laid (o := .lst []) (t' := s1.toks) (fun b u e => Heap.get?_push_of_some _ e) (Nat.le_refl _) ⟨Nat.zero_le _, [], 0, .nil, Heap.get?_push_size _ rfl⟩, rfl, h _ (I1.hok.fresh (Nat.le_refl _)) (Nat.ne_of_gt I1.big)⟩
/-- list(t): new, and no table of modules -/
def rListN (K : PySem.W.Frag) : List V → Hp → VK → Prop := fun xs H Q => ∃ p ys, xs = [.ref p] ∧ SqT K H p ys ∧ ∀ l, H l = none → l ≠ sysModules → Q (.ref l) (upd H l (.lst ys))
theorem call_listN : CallR X (.type "list") (rListN X.K) := by
  intro pins s σ H xs us Q I r h
  obtain ⟨p, ys, rfl, hq, q⟩ := h
  obtain ⟨u, rfl, rx⟩ := vals1 r
  cases rx
  obtain ⟨its, rv, pl, hz⟩ := I.tuple hq
  have hlen := rv.length
  obtain ⟨o, ho, hc, n, hd⟩ := id pl
  refine call_list_seq p (.inr rfl) ho hc hd (fun h' c' kp e => ?_) (by simp only [List.size_toArray]; omega)
  exact ⟨.ref s.heap.objs.size, _, I.laid (t' := s.toks) kp (Nat.le_refl _) (show ObjOk X.prog X.w _ h' _ (.lst ys) from ⟨hz, its, c', rv, e⟩), rfl, q _ (I.hok.fresh (Nat.le_refl _)) (Nat.ne_of_gt I.big)⟩
/-- t[lo:hi], some tuple of the cut: t or a new one -/
def rSlS (K : PySem.W.Frag) : V → Option Int → Option Int → Hp → VK → Prop := fun x lo hi H Q => ∃ a xs, x = .ref a ∧ Rd H a (.tup xs) ∧ ∀ q H', Same H H' → Rd H' q (.tup (cutV xs lo hi)) → (q = a ∨ H q = none) → Q (.ref q) H'
theorem sl_tupS : SlR X (rSlS X.K) := by
  intro pins s σ H x v vl vu lo hi sl Q I rx hs pl pu h
  obtain ⟨a, xs, rfl, hx, q⟩ := h
  refine sl_tupA pins s σ H _ v vl vu lo hi sl Q I rx hs pl pu ⟨a, xs, rfl, .inl hx, fun hw => ?_, fun hw p hp => ?_⟩
  · refine q a H (Same.refl H) ?_ (.inl rfl)
    have e : cutV xs lo hi = xs := by
      unfold cutV
      rw [hw.1, hw.2, List.drop_zero, Nat.sub_zero, List.take_length]
    rw [e]
    exact hx
  · exact q p _ (same_new hp) (.inl upd_same) (.inr hp)
/-- t + u, some tuple of both -/
def rCatS (K : PySem.W.Frag) : R2 := fun x y H Q => ∃ a b xs ys, x = .ref a ∧ y = .ref b ∧ Rd H a (.tup xs) ∧ Rd H b (.tup ys) ∧ xs.length + ys.length ≤ sizeLine ∧ ∀ q H', Same H H' → Rd H' q (.tup (xs ++ ys)) → (q = a ∨ q = b ∨ H q = none) → Q (.ref q) H'
theorem op_catS : OpR X (binaryOp .Add) (rCatS X.K) := by
  intro pins s σ H x y v u Q I rx ry h
  obtain ⟨a, b, xs, ys, rfl, rfl, hx, hy, hz, q⟩ := h
  refine op_catA pins s σ H _ _ v u Q I rx ry ⟨a, b, xs, ys, rfl, rfl, .inl hx, .inl hy, hz, fun e => ?_, fun _ e => ?_, fun _ _ p hp => ?_⟩
  · subst e
    exact q b H (Same.refl H) hy (.inr (.inl rfl))
  · subst e
    refine q a H (Same.refl H) ?_ (.inl rfl)
    rw [List.append_nil]
    exact hx
  · exact q p _ (same_new hp) (.inl upd_same) (.inr (.inr hp))
end
theorem cut_take (xs : List V) (j : Nat) (h : j ≤ xs.length) : cutV xs none (some (j : Int)) = xs.take j := by
  unfold cutV
  rw [HT.sIx_none, HT.sIx_nat, List.drop_zero, Nat.sub_zero, Nat.min_eq_left h]
theorem cut_drop (xs : List V) (j : Nat) (h : j ≤ xs.length) : cutV xs (some (j : Int)) none = xs.drop j := by
  unfold cutV
  rw [HT.sIx_none, HT.sIx_nat, Nat.min_eq_left h]
  exact List.take_of_length_le (by rw [List.length_drop]; omega)
theorem cut_mid (xs : List V) (j : Nat) (h : j < xs.length) : cutV xs (some (j : Int)) (some ((j + 1 : Nat) : Int)) = (xs.drop j).take 1 := by
  unfold cutV
  rw [HT.sIx_nat, HT.sIx_nat, Nat.min_eq_left (by omega), Nat.min_eq_left (by omega)]
  congr 1
  omega
/-- all of B is tracked -/
def TB (B : Addr → Prop) (H : Hp) : Prop := ∀ b, B b → H b ≠ none
theorem tb_off {B : Addr → Prop} {H : Hp} {p : Addr} (tb : TB B H) (n : H p = none) : ¬ B p := fun z => tb p z n
theorem tb_upd {B : Addr → Prop} {H : Hp} {p : Addr} {o : HO} (tb : TB B H) : TB B (upd H p o) := fun b z e => by
  by_cases h : b = p
  · rw [h, upd_same] at e
    cases e
  · rw [upd_ne h] at e
    exact tb b z e
theorem tb_same {B : Addr → Prop} {H H' : Hp} (s : Same H H') (tb : TB B H) : TB B H' := fun b z e => by
  cases q : H b with
  | none => exact tb b z q
  | some o =>
    rw [s b o q] at e
    cases e
theorem tb_keep {B : Addr → Prop} {H H' : Hp} {a c : Addr} {cells : List Int} {n : Int} (tb : TB B H) (dk : DeckAt a c cells n H') (k : Keep (Bd a c) H H') : TB B H' := fun b z e => by
  by_cases h : Bd a c b
  · exact deck_off dk e h
  · cases q : H b with
    | none => exact tb b z q
    | some o =>
      rw [k b o h q] at e
      cases e
theorem new_tup {B : Addr → Prop} {p : Addr} {K : PySem.W.Frag} {H : Hp} {xs : List V} {ds : List PyData} (tb : TB B H) (h : H p = none) (ha : DtAll B K (upd H p (.tup xs)) xs ds) : Dt B K (upd H p (.tup xs)) (.ref p) (.tuple ds) :=
  .tup (tb_off tb h) (.inl upd_same) ha
theorem same_rd {H H' : Hp} {a : Addr} {o : HO} (s : Same H H') (h : Rd H a o) : Rd H' a o := Keep.rd (B := fun _ => False) (Keep.same s) (fun z => z) h
theorem deck_same {a c : Addr} {cells : List Int} {n : Int} {H H' : Hp} (s : Same H H') (h : DeckAt a c cells n H) : DeckAt a c cells n H' := ⟨h.1, s _ _ h.2.1, s _ _ h.2.2.1, h.2.2.2.1, h.2.2.2.2⟩
theorem sz_of {n : Nat} (h : n ≤ 100000) : n ≤ sizeLine := Nat.le_trans h (by decide)
theorem nb_of {B : Addr → Prop} {p q : Addr} {H : Hp} (tb : TB B H) (np : ¬ B p) (h : q = p ∨ H q = none) : ¬ B q := by
  rcases h with h | h
  · rw [h]
    exact np
  · exact tb_off tb h
theorem nb_of2 {B : Addr → Prop} {p r q : Addr} {H : Hp} (tb : TB B H) (np : ¬ B p) (nr : ¬ B r) (h : q = p ∨ q = r ∨ H q = none) : ¬ B q := by
  rcases h with h | h | h
  · rw [h]
    exact np
  · rw [h]
    exact nr
  · exact tb_off tb h
theorem same_seqL {K : PySem.W.Frag} {H H' : Hp} {a : Addr} {xs : List V} (s : Same H H') (h : SqL K H a xs) : SqL K H' a xs := L2.Same.seq s h
theorem same_all {B : Addr → Prop} {K : PySem.W.Frag} {H H' : Hp} {vs : List V} {ds : List PyData} (s : Same H H') (h : DtAll B K H vs ds) : DtAll B K H' vs ds := DtAll.keep (Keep.same s) _ _ h
theorem nodes_rev : ∀ xs : List PyData, nodesAll xs.reverse = nodesAll xs
  | [] => rfl
  | x :: xs => by rw [List.reverse_cons, nodesAll_append, nodes_rev xs, nodesAll_cons, nodesAll_cons, nodesAll_nil]; omega
/-! ### rules that hide the heap-/
def tLstA (t : TA) : TE := fun σ H Q => t σ H fun xs H1 => xs.length ≤ sizeLine ∧ ∀ p H', Same H1 H' → H1 p = none → p ≠ sysModules → H' p = some (.lst xs) → Q (.ref p) H'
def rCatA : R2 := fun x y H Q => ∃ l b xs zs, x = .ref l ∧ y = .ref b ∧ H l = some (.lst xs) ∧ H b = some (.lst zs) ∧ xs.length + zs.length ≤ sizeLine ∧ ∀ p H', Same H H' → H p = none → p ≠ sysModules → H' p = some (.lst (xs ++ zs)) → Q (.ref p) H'
section
variable {X : Cx}
def rCatN : R2 := fun x y H Q => ∃ l b xs zs, x = .ref l ∧ y = .ref b ∧ H l = some (.lst xs) ∧ H b = some (.lst zs) ∧ xs.length + zs.length ≤ sizeLine ∧ ∀ p, H p = none → p ≠ sysModules → Q (.ref p) (upd H p (.lst (xs ++ zs)))
theorem op_catN : OpR X (binaryOp .Add) rCatN := by
  intro pins s σ H x y v u Q I rx ry h
  obtain ⟨l, b, xs, zs, rfl, rfl, hx, hy, hz, q⟩ := h
  cases rx
  cases ry
  obtain ⟨_, its, n, r, h1, e⟩ := I.lstM hx
  obtain ⟨_, jts, m, r2, h2, e2⟩ := I.lstM hy
  refine PySem.P.add_list e e2 ?_ (by rw [List.size_toArray, List.size_toArray]; omega)
  rw [show its.toArray ++ jts.toArray = (its ++ jts).toArray by simp]
  exact ⟨.ref _, _, I.lnew (t' := s.toks) (r.append r2) (by rw [List.length_append]; omega), rfl, q _ I.fresh (Nat.ne_of_gt I.big)⟩
theorem pe_lstA {es : List Expr} {t : TA} {pos : Pos} (ht : PA X es t) : PE X (.List es pos) (tLstA t) := by
  refine ⟨fun pins s σ H Q I h => wpAny_List_spliced (thn (ht.run pos pins s σ H _ I h) ?_)⟩
  rintro us s1 ⟨xs, H1, I1, r, hz, q⟩
  have hl := r.length
  have np := I1.hok.fresh (Nat.le_refl s1.heap.objs.size)
  exact ⟨by rw [← hl]; exact hz, .ref s1.heap.objs.size, _, I1.laid (o := .lst xs) (t' := s1.toks) (fun b u e => Heap.get?_push_of_some _ e) (Nat.le_refl _) ⟨hz, us, 0, r, Heap.get?_push_size _ rfl⟩, rfl, q _ _ (same_new np) np (Nat.ne_of_gt I1.big) upd_same⟩
theorem op_catA' : OpR X (binaryOp .Add) rCatA := by
  intro pins s σ H x y v u Q I rx ry h
  obtain ⟨l, b, xs, zs, h1, h2, h3, h4, h5, q⟩ := h
  exact op_catN pins s σ H x y v u Q I rx ry ⟨l, b, xs, zs, h1, h2, h3, h4, h5, fun p np ns => q p _ (same_new np) np ns upd_same⟩
def tTupA (t : TA) : TE := fun σ H Q => t σ H fun xs H1 => xs.length ≤ sizeLine ∧ ∀ p H', Same H1 H' → H1 p = none → H' p = some (.tup xs) → Q (.ref p) H'
end
theorem ifF {A B : Prop} (h : B) : if false = true then A else B := h
theorem ifE {c : Bool} {A B : Prop} (e : c = false) (h : B) : if c = true then A else B := by
  rw [e]
  exact h
theorem ifT {c : Bool} {A B : Prop} (e : c = true) (h : A) : if c = true then A else B := by
  rw [e]
  exact h
/-! ### a value with one part otherwise -/
def ods : List PyData := [.none, .bool true, .bool false, .int 0, .int 1, .int 2, .int 4, .int 9, .int 10, .int 30, .int 31, .int (-1), .int (10 ^ 40), .str "a", .str "c", .str "d", .str "", .str "cut", .str "pass", .str "ab", .tuple [], .tuple [.int 0], .tuple [.str "a"], .list [], .dict []]
theorem ods_ok : ∀ d ∈ ods, nodes d ≤ 3 := by decide +kernel
theorem mk_tupB {B : Addr → Prop} {K : PySem.W.Frag} {H : Hp} {p : Addr} {xs : List V} {ds : List PyData} (tb : TB B H) (h : H p = none) (ha : DtAll B K H xs ds) : Dt B K (upd H p (.tup xs)) (.ref p) (.tuple ds) ∧ TB B (upd H p (.tup xs)) ∧ Same H (upd H p (.tup xs)) :=
  ⟨.tup (tb_off tb h) (.inl upd_same) (same_all (same_new h) ha), tb_upd tb, same_new h⟩
section
variable {P : Program} {w : World} {K : PySem.W.Frag} {mg : Str → Option Value} {base : Heap}
theorem scOther : FnScope ["_law_deck_here", "_law_value", "_law_deep", "_law_odd", "_law_at", "_law_way"] ["_law_deck_here", "_law_value", "_law_deep"] (defScope sOther) := ⟨rfl, rfl, rfl, by decide +kernel, rfl, by decide +kernel, by decide +kernel⟩
def spOther (K : PySem.W.Frag) (t : Nat) : Sp := fun vs H Q _ => ∃ (B : Addr → Prop) (a c : Addr) (cells : List Int) (n : Int) (v : V) (d : PyData), vs = [.ref a, v, .int t] ∧ (∀ b, Bd a c b → B b) ∧ TB B H ∧ DeckAt a c cells n H ∧ 0 ≤ n ∧ n + 4 * t ≤ 900000 ∧ t ≤ 1000 ∧ Dt B K H v d ∧ nodes d ≤ 40000 ∧
  ∀ (H' : Hp) (cells' : List Int) (n' : Int) (v' : V) (d' : PyData), DeckAt a c cells' n' H' → n ≤ n' → n' ≤ n + (4 * t + 4) → Keep (Bd a c) H H' → Dt B K H' v' d' → nodes d' ≤ 2 * nodes d + 3 → Q v' H'
theorem no_fn {k : Nat} {f : Addr} {fd : FuncData} {ps : List Str} : FnOk P w K mg base CX0 k f fd ps (fun _ _ _ _ => False) := ⟨fun _ _ _ _ h => h.elim, fun _ _ _ _ _ _ _ _ _ _ _ _ _ h => h.elim⟩
theorem other_body {f fD fO : Addr} {fd fdD fdO : FuncData} {t kk : Nat} {sp : Sp} (F : Fun K "_law_otherwise" "_law_otherwise" sOther f fd) (gB : mg "_law_otherwise" = some (.ref f)) (bB : Binds K fd ["_law_deck_here", "_law_value", "_law_deep"] []) (hk : 2 ≤ kk) (REC : FnOk P w K mg base CX0 kk f fd ["_law_deck_here", "_law_value", "_law_deep"] sp) (hrec : ∀ t', t = t' + 1 → sp = spOther K t')
    (D : FnOk P w K mg base CX0 1 fD fdD ["_law_deck_here", "_law_most"] spDraw) (FD : Fun K "_law_draw" "_law_draw" sDraw fD fdD) (bD : Binds K fdD ["_law_deck_here", "_law_most"] []) (gD : mg "_law_draw" = some (.ref fD))
    (O : FnOk P w K mg base CX0 2 fO fdO ["_law_deck_here", "_law_items"] (spOne K)) (FO : Fun K "_law_one" "_law_one" sOne fO fdO) (bO : Binds K fdO ["_law_deck_here", "_law_items"] []) (gO : mg "_law_one" = some (.ref fO)) (T : Mg mg) :
    FnOk P w K mg base CX0 (kk + 1) f fd ["_law_deck_here", "_law_value", "_law_deep"] (spOther K t) := by
  refine F.ok scOther (fun vs H Q E h => ?_) (fun cdv A outer s H vs Q E hr h => ?_)
  · obtain ⟨B, a, c, cells, n, v, d, rfl, _⟩ := h
    rfl
  · obtain ⟨B, a, c, cells, n, v, d, rfl, hB, tb, dk, n0, n1, t1, hd, hnd, k⟩ := h
    have W : ∀ {H1 H2 : Hp}, Keep (Bd a c) H1 H2 → Keep B H1 H2 := fun k => Keep.wide hB k
    have hu0 := hr.units0
    refine ⟨_, pss_cons (ps_set (i := 3) scOther.nd rfl (.inl rfl) (pe_lst (pa_cons pe_non (pa_cons pe_bl (pa_cons pe_bl (pa_cons pe_int (pa_cons pe_int (pa_cons pe_int (pa_cons pe_int (pa_cons pe_int (pa_cons pe_int (pa_cons pe_int (pa_cons pe_int (pa_cons (pe_un un_neg pe_int) (pa_cons (pe_op op_pow pe_int pe_int) (pa_cons pe_str (pa_cons pe_str (pa_cons pe_str (pa_cons pe_str (pa_cons pe_str (pa_cons pe_str (pa_cons pe_str (pa_cons (pe_tup pa_nil) (pa_cons (pe_tup (pa_cons pe_int pa_nil)) (pa_cons (pe_tup (pa_cons pe_str pa_nil)) (pa_cons pe_nilN (pa_cons pe_dnewK pa_nil)))))))))))))))))))))))))))
      (pss_cons (ps_if (PW.pt (pw_or (pt_not (pt_val (pe_callB (r := rIsi K) call_isi (by rfl) T.isi PyProof.Rows.boot_isinstance (pa_cons (pv 1) (pa_cons (pe_bltn (v := .ty "tuple") (by rfl) T.tuple PyProof.Rows.boot_tuple rfl) pa_nil))))) (pw_or (pt_cmpR (op_eqNilT hu0) (pv 1) (pe_tup pa_nil) (nomark _)) (pw_or (pt_cmpR op_eq (pv 2) pe_int (nomark _)) (pw_or1 (pt_cmpR op_eq (pe_call D (hr.mono (by omega)) (by rfl) gD FD.kp bD .nil pass0 (pa_cons (pv 0) (pa_cons pe_int pa_nil))) pe_int (nomark _)))))))
        (pss_one (ps_ret (pe_call O (hr.mono hk) (by rfl) gO FO.kp bO .nil pass0 (pa_cons (pv 0) (pa_cons (pv 3) pa_nil))))) pss_nil)
      (pss_cons (ps_par (i := 4) (j := 5) rfl scOther.nd rfl rfl (by decide) rfl rfl (pa_cons (pe_call D (hr.mono (by omega)) (by rfl) gD FD.kp bD .nil pass0 (pa_cons (pv 0) (pa_cons (pe_callB call_len_seq (by rfl) T.len PySem.boot_len (pa_cons (pv 1) pa_nil)) pa_nil))) (pa_cons (pe_call D (hr.mono (by omega)) (by rfl) gD FD.kp bD .nil pass0 (pa_cons (pv 0) (pa_cons pe_int pa_nil))) pa_nil)) (by rfl))
      (pss_cons (ps_if (pt_cmpR op_eq (pv 5) pe_int (nomark _)) (pss_one (ps_ret (pe_op op_catS (pe_slice sl_tupS (pv 1) po_none (po_some (pv 4))) (pe_slice sl_tupS (pv 1) (po_some (pe_op op_add (pv 4) pe_int)) po_none)))) pss_nil)
      (pss_cons (ps_if (pt_cmpR op_eq (pv 5) pe_int (nomark _)) (pss_one (ps_ret (pe_op op_catS (pv 1) (pe_slice sl_tupS (pv 1) (po_some (pv 4)) (po_some (pe_op op_add (pv 4) pe_int)))))) pss_nil)
      (pss_cons (ps_if (pt_cmpR op_eq (pv 5) pe_int (nomark _)) (pss_one (ps_ret (pe_callTy call_listN (by rfl) T.list (by decide +kernel) (pa_cons (pv 1) pa_nil)))) pss_nil)
      (pss_cons (ps_if (pt_cmpR op_eq (pv 5) pe_int (nomark _)) (pss_one (ps_ret (pe_revR (pv 1)))) pss_nil)
      (pss_one (ps_ret (pe_op op_catS (pe_op op_catS (pe_slice sl_tupS (pv 1) po_none (po_some (pv 4))) (pe_tup (pa_cons (pe_call REC hr (by rfl) gB F.kp bB .nil pass0 (pa_cons (pv 0) (pa_cons (pe_ix ix_tup (pv 1) (pv 4) (fun _ _ => rfl)) (pa_cons (pe_op op_sub (pv 2) pe_int) pa_nil)))) pa_nil))) (pe_slice sl_tupS (pv 1) (po_some (pe_op op_add (pv 4) pe_int)) po_none)))))))))), ?_⟩
    refine ⟨1, rfl, 10, 40, rfl, rfl, ⟨by decide, by decide, by decide⟩, by show 0 ≤ sizeLine; decide, fun p1 e1 => ?_⟩
    obtain ⟨D1, tb1, s1⟩ := mk_tupB (K := K) (xs := []) (ds := []) tb e1 .nil
    have dk1 := deck_same s1 dk
    generalize upd H p1 (HO.tup []) = G1 at *
    refine ⟨by show 1 ≤ sizeLine; decide, fun p2 e2 => ?_⟩
    obtain ⟨D2, tb2, s2⟩ := mk_tupB (K := K) (xs := [.int 0]) tb1 e2 (.cons (.int _) .nil)
    have dk2 := deck_same s2 dk1
    generalize upd G1 p2 (HO.tup [.int 0]) = G2 at *
    refine ⟨by show 1 ≤ sizeLine; decide, fun p3 e3 => ?_⟩
    obtain ⟨D3, tb3, s3⟩ := mk_tupB (K := K) (xs := [.str "a"]) tb2 e3 (.cons (.str _) .nil)
    have dk3 := deck_same s3 dk2
    generalize upd G2 p3 (HO.tup [.str "a"]) = G3 at *
    intro p4 e4 m4
    have D4 : Dt B K (upd G3 p4 (.lst [])) (.ref p4) (.list []) := .lst (tb_off tb3 e4) m4 (.inl upd_same) .nil
    have s4 := same_new (o := .lst []) e4
    have tb4 := tb_upd (p := p4) (o := .lst []) tb3
    have dk4 := deck_same s4 dk3
    generalize upd G3 p4 (HO.lst []) = G4 at *
    intro p5 e5
    have D5 : Dt B K (upd G4 p5 (.dK [])) (.ref p5) (.dict []) := .emp (tb_off tb4 e5) upd_same
    have s5 := same_new (o := .dK []) e5
    have tb5 := tb_upd (p := p5) (o := .dK []) tb4
    have dk5 := deck_same s5 dk4
    generalize upd G4 p5 (HO.dK []) = G5 at *
    refine ⟨by show 25 ≤ sizeLine; decide, fun O9 h9 => ?_⟩
    have nO := deck_off dk5 h9
    have hall : DtAll B K G5 [.non, .bl true, .bl false, .int 0, .int 1, .int 2, .int 4, .int 9, .int 10, .int 30, .int 31, .int (-1), .int (10 ^ 40), .str "a", .str "c", .str "d", .str "", .str "cut", .str "pass", .str "ab", .ref p1, .ref p2, .ref p3, .ref p4, .ref p5] ods :=
      .cons .non (.cons (.bl _) (.cons (.bl _) (.cons (.int _) (.cons (.int _) (.cons (.int _) (.cons (.int _) (.cons (.int _) (.cons (.int _) (.cons (.int _) (.cons (.int _) (.cons (.int _) (.cons (.int _) (.cons (.str _) (.cons (.str _) (.cons (.str _) (.cons (.str _) (.cons (.str _) (.cons (.str _) (.cons (.str _)
        (.cons (same_dt (s2.trans (s3.trans (s4.trans s5))) D1) (.cons (same_dt (s3.trans (s4.trans s5)) D2) (.cons (same_dt (s4.trans s5) D3) (.cons (same_dt s5 D4) (.cons D5 .nil))))))))))))))))))))))))
    have c5 := s1.trans (s2.trans (s3.trans (s4.trans s5)))
    have xdef : ∃ xs : List V, xs = [.non, .bl true, .bl false, .int 0, .int 1, .int 2, .int 4, .int 9, .int 10, .int 30, .int 31, .int (-1), .int (10 ^ 40), .str "a", .str "c", .str "d", .str "", .str "cut", .str "pass", .str "ab", .ref p1, .ref p2, .ref p3, .ref p4, .ref p5] := ⟨_, rfl⟩
    obtain ⟨od, hod⟩ := xdef
    rw [← hod] at hall
    have odne : od ≠ [] := by
      rw [hod]
      exact List.cons_ne_nil _ _
    have odl : od.length ≤ 1000 := by
      rw [hod]
      show 25 ≤ 1000
      decide
    have s9 : Same G5 (upd G5 O9 (.lst od)) := same_new h9
    have hO9 : upd G5 O9 (.lst od) O9 = some (.lst od) := upd_same
    have tb9 := tb_upd (p := O9) (o := .lst od) tb5
    have dk9 := deck_same s9 dk5
    have c0 : Keep (Bd a c) H (upd G5 O9 (.lst od)) := Keep.same (c5.trans s9)
    have hall9 := same_all s9 hall
    have hdO := Dt.keep (W c0) _ _ hd
    show gName 3 (V.ref O9) _ (upd G5 O9 (.lst [.non, .bl true, .bl false, .int 0, .int 1, .int 2, .int 4, .int 9, .int 10, .int 30, .int 31, .int (-1), .int (10 ^ 40), .str "a", .str "c", .str "d", .str "", .str "cut", .str "pass", .str "ab", .ref p1, .ref p2, .ref p3, .ref p4, .ref p5])) _
    rw [← hod]
    clear hall hod D1 D2 D3 D4 D5
    generalize upd G5 O9 (HO.lst od) = G9 at *
    have fin : ∀ (H' : Hp) (cells' : List Int) (n' : Int), DeckAt a c cells' n' H' → n ≤ n' → n' ≤ n + 1 → Keep (Bd a c) G9 H' → spOne K [.ref a, .ref O9] H' (fun v' H'' => Q v' H'') E0 := fun H' cells' n' dk' h1' h2' kp => by
      refine ⟨a, c, O9, cells', n', _, rfl, dk', by omega, by omega, SqL.of (kp _ _ nO hO9), nO, odne, odl, fun H'' cells'' x hx dk'' kk => ?_⟩
      obtain ⟨i, hi⟩ := List.getElem?_of_mem hx
      obtain ⟨d', hd1, hd2⟩ := hall9.getV hi
      have o2 := ods_ok d' (List.mem_of_getElem? hd1)
      have hp := nodes_pos d
      exact k H'' cells'' (n' + 1) x d' dk'' (by omega) (by omega) (c0.trans (kp.trans kk)) (Dt.keep (W (kp.trans kk)) _ _ hd2) (by omega)
    refine ⟨v, rfl, v, .ty "tuple", _, _, _, rfl, .ty _, tyD hdO, kitT d, _, rfl, ?_⟩
    cases d with
    | none => exact ⟨_, rfl, _, rfl, fin _ cells n dk9 (Int.le_refl _) (by omega) Keep.rfl'⟩
    | bool _ => exact ⟨_, rfl, _, rfl, fin _ cells n dk9 (Int.le_refl _) (by omega) Keep.rfl'⟩
    | int _ => exact ⟨_, rfl, _, rfl, fin _ cells n dk9 (Int.le_refl _) (by omega) Keep.rfl'⟩
    | str _ => exact ⟨_, rfl, _, rfl, fin _ cells n dk9 (Int.le_refl _) (by omega) Keep.rfl'⟩
    | list _ => exact ⟨_, rfl, _, rfl, fin _ cells n dk9 (Int.le_refl _) (by omega) Keep.rfl'⟩
    | dict _ => exact ⟨_, rfl, _, rfl, fin _ cells n dk9 (Int.le_refl _) (by omega) Keep.rfl'⟩
    | tuple ds =>
      obtain ⟨p, xs, rfl, np, hs, ha, hl⟩ := hdO.tup_rd
      have npd : ¬ Bd a c p := fun z => np (hB p z)
      rw [nodes_tup] at hnd
      have lds := len_nodes ds
      refine ⟨.ref p, rfl, by show 0 ≤ sizeLine; decide, fun e he => ?_⟩
      have ke := keep_new (B := Bd a c) (o := .tup []) he
      have dke := deck_new (o := .tup []) dk9 he
      have tbe := tb_upd (p := e) (o := .tup []) tb9
      have hse := ke.rd npd hs
      have hae := DtAll.keep (W ke) _ _ ha
      refine ⟨p, e, xs, rfl, rfl, .inl hse, SqT.of upd_same, _, rfl, ite2 (fun ex => ?_) (fun ex => ?_)⟩
      · exact ⟨_, rfl, _, rfl, fin _ cells n dke (Int.le_refl _) (by omega) ke⟩
      · have xne : xs ≠ [] := fun z => ex (decide_eq_true z)
        have lpos : 0 < xs.length := List.length_pos_iff.mpr xne
        refine ⟨_, rfl, rfl, _, rfl, ite2 (fun e0 => ?_) (fun e0 => ?_)⟩
        · exact ⟨_, rfl, _, rfl, fin _ cells n dke (Int.le_refl _) (by omega) ke⟩
        refine ⟨_, rfl, a, c, cells, n, 6, rfl, dke, by decide, by decide, n0, by omega, fun H1 cells1 r1 r10 r16 dk1 k1 => ?_⟩
        refine ⟨rfl, _, rfl, ite2 (fun ez => ?_) (fun ez => ?_)⟩
        · exact ⟨_, rfl, _, rfl, fin _ cells1 (n + 1) dk1 (by omega) (by omega) (ke.trans k1)⟩
        · have hs1 := k1.rd npd hse
          refine ⟨_, rfl, .ref p, rfl, p, xs, rfl, .inr (.inl hs1), a, c, cells1, n + 1, _, rfl, dk1, by omega, by omega, by omega, by omega, fun H2 cells2 r2 r20 r2l dk2 k2 => ?_⟩
          refine ⟨_, rfl, a, c, cells2, n + 1 + 1, 9, rfl, dk2, by decide, by decide, by omega, by omega, fun H3 cells3 r3 r30 r39 dk3 k3 => ?_⟩
          have k13 := k1.trans (k2.trans k3)
          have kall := c0.trans (ke.trans k13)
          have hs3 := k13.rd npd hse
          have tbm := tb_keep tbe dk3 k13
          have ha3 := DtAll.keep (W k13) _ _ hae
          obtain ⟨j, hj, ej⟩ : ∃ j : Nat, j < xs.length ∧ r2 = (j : Int) := ⟨r2.toNat, by omega, by omega⟩
          subst ej
          have hjd : j < ds.length := by omega
          have ct : cutV xs none (some (j : Int)) = xs.take j := cut_take xs j (by omega)
          have cd1 : cutV xs (some ((j : Int) + 1)) none = xs.drop (j + 1) := cut_drop xs (j + 1) (by omega)
          have cm : cutV xs (some (j : Int)) (some ((j : Int) + 1)) = (xs.drop j).take 1 := cut_mid xs j hj
          have nsum : nodesAll ds = nodesAll (ds.take j) + nodesAll (ds.drop j) := by rw [← nodesAll_append, List.take_append_drop]
          have ndrop : nodesAll (ds.drop j) = nodes ds[j] + nodesAll (ds.drop (j + 1)) := by rw [List.drop_eq_getElem_cons hjd, nodesAll_cons]
          refine ⟨_, _, rfl, ?_⟩
          refine ⟨_, rfl, rfl, _, rfl, ite2 (fun ew => ?_) (fun ew => ?_)⟩
          · -- one item less
            refine ⟨_, rfl, _, rfl, (j : Int), rfl, p, xs, rfl, hs3, fun q1 H4 s4 hq1 w1 => ?_⟩
            rw [ct] at hq1
            have dk4 := deck_same s4 dk3
            have tb4 := tb_same s4 tbm
            refine ⟨_, rfl, _, rfl, (j : Int), 1, rfl, rfl, _, rfl, p, xs, rfl, same_rd s4 hs3, fun q2 H5 s5 hq2 w2 => ?_⟩
            rw [cd1] at hq2
            have dk5 := deck_same s5 dk4
            have tb5 := tb_same s5 tb4
            refine ⟨q1, q2, _, _, rfl, rfl, same_rd s5 hq1, hq2, ?_, fun q H6 s6 hq w6 => ?_⟩
            · rw [List.length_take, List.length_drop]
              exact sz_of (by omega)
            · have n1' := nb_of tbm np w1
              have n2' := nb_of tb4 np w2
              have n6' := nb_of2 tb5 n1' n2' w6
              have sall := L2.Same.trans s4 (L2.Same.trans s5 s6)
              refine k H6 cells3 _ (.ref q) (.tuple (ds.take j ++ ds.drop (j + 1))) (deck_same s6 dk5) (by omega) (by omega) (kall.trans (Keep.same sall)) (.tup n6' hq (same_all sall ((ha3.take j).append (ha3.drop (j + 1))))) ?_
              rw [nodes_tup, nodes_tup, nodesAll_append]
              omega
          · refine ⟨_, rfl, rfl, _, rfl, ite2 (fun ew1 => ?_) (fun ew1 => ?_)⟩
            · -- an item twice
              refine ⟨_, rfl, _, rfl, _, rfl, (j : Int), rfl, _, rfl, (j : Int), 1, rfl, rfl, _, rfl, p, xs, rfl, hs3, fun q2 H5 s5 hq2 w2 => ?_⟩
              rw [cm] at hq2
              have dk5 := deck_same s5 dk3
              have tb5 := tb_same s5 tbm
              refine ⟨p, q2, _, _, rfl, rfl, same_rd s5 hs3, hq2, ?_, fun q3 H6 s6 hq3 w3 => ?_⟩
              · rw [List.length_take, List.length_drop]
                exact sz_of (by omega)
              · have n2' := nb_of tbm np w2
                have n3' := nb_of2 tb5 np n2' w3
                have sall := L2.Same.trans s5 s6
                refine k H6 cells3 _ (.ref q3) (.tuple (ds ++ (ds.drop j).take 1)) (deck_same s6 dk5) (by omega) (by omega) (kall.trans (Keep.same sall)) (.tup n3' hq3 (same_all sall (ha3.append ((ha3.drop j).take 1)))) ?_
                have n1d : nodesAll ((ds.drop j).take 1) = nodes ds[j] := by
                  rw [List.drop_eq_getElem_cons hjd, List.take_succ_cons, List.take_zero, nodesAll_cons, nodesAll_nil, Nat.add_zero]
                rw [nodes_tup, nodes_tup, nodesAll_append, n1d]
                omega
            · refine ⟨_, rfl, rfl, _, rfl, ite2 (fun ew2 => ?_) (fun ew2 => ?_)⟩
              · -- a list of it
                refine ⟨_, rfl, p, xs, rfl, .inl hs3, fun q hq nq => ?_⟩
                have sq := same_new (o := .lst xs) hq
                refine k _ cells3 _ (.ref q) (.list ds) (deck_same sq dk3) (by omega) (by omega) (kall.trans (Keep.same sq)) (.lst (tb_off tbm hq) nq (.inl upd_same) (same_all sq ha3)) ?_
                rw [nodes_lst, nodes_tup]
                omega
              · refine ⟨_, rfl, rfl, _, rfl, ite2 (fun ew3 => ?_) (fun ew3 => ?_)⟩
                · -- turned round
                  refine ⟨_, rfl, p, xs, rfl, hs3, fun q hq => ?_⟩
                  have sq := same_new (o := .tup xs.reverse) hq
                  refine k _ cells3 _ (.ref q) (.tuple ds.reverse) (deck_same sq dk3) (by omega) (by omega) (kall.trans (Keep.same sq)) (.tup (tb_off tbm hq) (.inl upd_same) (same_all sq ha3.rev)) ?_
                  rw [nodes_tup, nodes_tup, nodes_rev]
                  omega
                · -- one item otherwise
                  obtain ⟨t', rfl⟩ : ∃ t', t = t' + 1 := by
                    cases t with
                    | zero => exact (e0 (decide_eq_true rfl)).elim
                    | succ t' => exact ⟨t', rfl⟩
                  have hsp := hrec t' rfl
                  subst hsp
                  obtain ⟨vj, hvj, hdj⟩ := ha3.get (List.getElem?_eq_getElem hjd)
                  have mj : ds[j] ∈ ds := List.getElem_mem hjd
                  have mn := mem_nodes mj
                  refine ⟨_, rfl, _, rfl, (j : Int), rfl, p, xs, rfl, hs3, fun q1 H4 s4 hq1 w1 => ?_⟩
                  rw [ct] at hq1
                  have dk4 := deck_same s4 dk3
                  have tb4 := tb_same s4 tbm
                  have n1' := nb_of tbm np w1
                  refine ⟨_, rfl, _, rfl, _, rfl, p, xs, (j : Int), vj, rfl, rfl, .inl (same_rd s4 hs3), atI_nat hvj, _, rfl, ((t' + 1 : Nat) : Int), 1, rfl, rfl, B, a, c, cells3, n + 1 + 1 + 1, vj, ds[j], ?_, hB, tb4, dk4, by omega, by omega, by omega, same_dt s4 hdj, by omega, fun H5 cells5 n5 v5 d5 dk5 m5 m5' k5 hd5 hn5 => ?_⟩
                  · show [V.ref a, vj, V.int (((t' + 1 : Nat) : Int) - 1)] = [V.ref a, vj, V.int (t' : Int)]
                    rw [show (((t' + 1 : Nat) : Int) - 1) = (t' : Int) by omega]
                  · have hq15 := k5.rd (fun z => n1' (hB _ z)) hq1
                    refine ⟨(by show 1 ≤ sizeLine; decide), fun u hu => ?_⟩
                    have su := same_new (o := .tup [v5]) hu
                    have dk6 := deck_same su dk5
                    have tb5 := tb_keep tb4 dk5 k5
                    have tb6 := tb_same su tb5
                    have nu := tb_off tb5 hu
                    refine ⟨q1, u, _, _, rfl, rfl, same_rd su hq15, .inl upd_same, ?_, fun q2 H7 s7 hq2 w2 => ?_⟩
                    · rw [List.length_take, List.length_singleton]
                      exact sz_of (by omega)
                    · have dk7 := deck_same s7 dk6
                      have tb7 := tb_same s7 tb6
                      have n2' := nb_of2 tb6 n1' nu w2
                      have k47 : Keep (Bd a c) H4 H7 := k5.trans (Keep.same (L2.Same.trans su s7))
                      have k37 : Keep (Bd a c) H3 H7 := (Keep.same s4).trans k47
                      refine ⟨_, rfl, _, rfl, (j : Int), 1, rfl, rfl, _, rfl, p, xs, rfl, k37.rd npd hs3, fun q3 H8 s8 hq3 w3 => ?_⟩
                      rw [cd1] at hq3
                      have dk8 := deck_same s8 dk7
                      have tb8 := tb_same s8 tb7
                      have n3' := nb_of tb7 np w3
                      refine ⟨q2, q3, _, _, rfl, rfl, same_rd s8 hq2, hq3, ?_, fun q H9 s9 hq w9 => ?_⟩
                      · rw [List.length_append, List.length_take, List.length_drop, List.length_singleton]
                        exact sz_of (by omega)
                      · have n9' := nb_of2 tb8 n2' n3' w9
                        have k79 := Keep.same (B := Bd a c) (L2.Same.trans s8 s9)
                        have k39 := k37.trans k79
                        have ha9 := DtAll.keep (W k39) _ _ ha3
                        have hd9 : Dt B K H9 v5 d5 := Dt.keep (W ((Keep.same (B := Bd a c) (L2.Same.trans su s7)).trans k79)) _ _ hd5
                        refine k H9 cells5 n5 (.ref q) (.tuple ((ds.take j ++ [d5]) ++ ds.drop (j + 1))) (deck_same s9 dk8) (by omega) (by omega) (kall.trans k39) (.tup n9' hq (((ha9.take j).append (.cons hd9 .nil)).append (ha9.drop (j + 1)))) ?_
                        rw [nodes_tup, nodes_tup, nodesAll_append, nodesAll_append, nodesAll_cons, nodesAll_nil]
                        omega
theorem ok_other {f fD fO : Addr} {fd fdD fdO : FuncData} (F : Fun K "_law_otherwise" "_law_otherwise" sOther f fd) (gB : mg "_law_otherwise" = some (.ref f)) (bB : Binds K fd ["_law_deck_here", "_law_value", "_law_deep"] [])
    (D : FnOk P w K mg base CX0 1 fD fdD ["_law_deck_here", "_law_most"] spDraw) (FD : Fun K "_law_draw" "_law_draw" sDraw fD fdD) (bD : Binds K fdD ["_law_deck_here", "_law_most"] []) (gD : mg "_law_draw" = some (.ref fD))
    (O : FnOk P w K mg base CX0 2 fO fdO ["_law_deck_here", "_law_items"] (spOne K)) (FO : Fun K "_law_one" "_law_one" sOne fO fdO) (bO : Binds K fdO ["_law_deck_here", "_law_items"] []) (gO : mg "_law_one" = some (.ref fO)) (T : Mg mg) :
    ∀ t : Nat, FnOk P w K mg base CX0 (3 + t) f fd ["_law_deck_here", "_law_value", "_law_deep"] (spOther K t)
  | 0 => other_body (kk := 2) F gB bB (Nat.le_refl _) no_fn (fun t' e => nomatch e) D FD bD gD O FO bO gO T
  | t + 1 => other_body (kk := 3 + t) F gB bB (by omega) (ok_other F gB bB D FD bD gD O FO bO gO T t) (fun t' e => by rw [Nat.succ.inj e]) D FD bD gD O FO bO gO T
end
/-! ### the program's columns, rows, comparisons -/
section
variable {P : Program} {w : World} {K : PySem.W.Frag} {mg : Str → Option Value} {base : Heap}
theorem scCols : FnScope ["letters", "pairs", "first", "second"] ["letters"] (defScope sCols) := ⟨rfl, rfl, rfl, by decide +kernel, rfl, by decide +kernel, by decide +kernel⟩
def wide (L : Int) : Nat := ((L + 1) * (L + 1) - 1).toNat
def spCols : Sp := fun vs H Q _ => ∃ L : Int, vs = [.int L] ∧ 1 ≤ L ∧ L ≤ 3 ∧ ∀ (H' : Hp) (p : Addr) (xs : List V), Same H H' → H p = none → H' p = some (.lst xs) → xs.length = wide L → Q (.ref p) H'
/-- how many pairs there are ahead of the pair (i, j) -/
def ahead (L : Nat) (i j : Nat) : Nat := i * (L + 1) + j - (if i = L ∧ j = L + 1 ∨ i = L + 1 then 1 else 0)
theorem ok_cols {f : Addr} {fd : FuncData} (F : Fun K "columns" "columns" sCols f fd) (T : Mg mg) : FnOk P w K mg base CX0 1 f fd ["letters"] spCols := by
  refine F.ok scCols (fun vs H Q E h => ?_) (fun cdv A outer s H vs Q E hr h => ?_)
  · obtain ⟨L, rfl, _⟩ := h
    rfl
  · obtain ⟨L, rfl, L1, L3, k⟩ := h
    refine ⟨_, pss_cons (ps_set (i := 1) scCols.nd rfl (.inl rfl) (pe_lstA pa_nil))
      (pss_cons (ps_for PassesOwn.never rfl (pi_range1 (by rfl) T.range (pa_cons (pe_op op_add (pv 0) pe_int) pa_nil)) (pg_name (i := 2) scCols.nd rfl (.inl rfl))
        (pss_one (ps_for PassesOwn.never rfl (pi_range1 (by rfl) T.range (pa_cons (pe_op op_add (pv 0) pe_int) pa_nil)) (pg_name (i := 3) scCols.nd rfl (.inl rfl))
          (pss_one (ps_if (PW.pt (pw_or (pt_cmpR op_lt (pv 2) (pv 0) (nomark _)) (pw_or1 (pt_cmpR op_lt (pv 3) (pv 0) (nomark _)))))
            (pss_one (ps_expr (pe_bm PySem.F.plainAttrs_list PySem.F.slot_list_append PySem.F.type_list_append mt_append (pv 1) (pa_cons (pe_tup (pa_cons (pv 2) (pa_cons (pv 3) pa_nil))) pa_nil)))) pss_nil)))))
      (pss_one (ps_ret (pv 1)))), ?_⟩
    obtain ⟨N, hN⟩ : ∃ N : Nat, L = (N : Int) := ⟨L.toNat, by omega⟩
    subst hN
    refine ⟨by show 0 ≤ sizeLine; decide, fun p G s0 n0 _ l0 => ?_⟩
    refine ⟨_, rfl, (N : Int), 1, rfl, rfl, (N : Int) + 1, rfl, by omega, by omega, for_range (lo := 0) (n := ((N : Int) + 1).toNat) (fun i σ H' => (∃ y2 y3, σ = [some (V.int N), some (V.ref p), y2, y3]) ∧ Same H H' ∧ ∃ xs : List V, H' p = some (.lst xs) ∧ xs.length = ahead N i 0)
      ⟨⟨none, none, rfl⟩, s0, [], l0, by simp [ahead]⟩ ?_ ?_⟩
    · rintro i σ H1 hi ⟨⟨y2, y3, rfl⟩, s1, xs, l1, e1⟩
      refine ⟨_, rfl, (N : Int), 1, rfl, rfl, (N : Int) + 1, rfl, by omega, by omega, for_range (lo := 0) (n := ((N : Int) + 1).toNat) (fun j σ H' => (∃ y3, σ = [some (V.int N), some (V.ref p), some (V.int (0 + i)), y3]) ∧ Same H H' ∧ ∃ xs : List V, H' p = some (.lst xs) ∧ xs.length = ahead N i j)
        ⟨⟨y3, rfl⟩, s1, xs, l1, e1⟩ ?_ ?_⟩
      · rintro j σ H2 hj ⟨⟨y3, rfl⟩, s2, ys, l2, e2⟩
        have app : (i < N ∨ j < N) → ∀ (q : Addr), H2 q = none → (upd H2 q (.tup [.int (0 + i), .int (0 + j)])) p = some (.lst ys) ∧ ys.length < sizeLine ∧ Same H (upd (upd H2 q (.tup [.int (0 + i), .int (0 + j)])) p (.lst (ys ++ [.ref q]))) ∧ (ys ++ [V.ref q]).length = ahead N i (j + 1) := fun h q hq => by
          refine ⟨same_new hq _ _ l2, ?_, fun b o z => ?_, ?_⟩
          · rw [e2]
            refine Nat.lt_of_le_of_lt (show _ ≤ 100 from ?_) (by decide)
            unfold ahead
            have : i * (N + 1) ≤ 4 * 4 := Nat.mul_le_mul (by omega) (by omega)
            omega
          · rw [upd_ne (ne_of_none z n0), upd_ne (ne_of_none (s2 _ _ z) hq)]
            exact s2 _ _ z
          · rw [List.length_append, e2, List.length_singleton]
            unfold ahead
            rw [if_neg (by omega), if_neg (by omega)]
            omega
        refine ⟨_, rfl, _, rfl, 0 + (i : Int), (N : Int), rfl, rfl, _, rfl, ite2 (fun h1 => ?_) (fun h1 => ?_)⟩
        · have h1 := of_decide_eq_true h1
          refine ⟨_, rfl, .inl ⟨rfl, _, SqL.of l2⟩, _, rfl, _, rfl, by show 2 ≤ sizeLine; decide, fun q hq => ?_⟩
          obtain ⟨a1, a2, a3, a4⟩ := app (by omega) q hq
          exact ⟨p, ys, .ref q, rfl, rfl, a1, a2, ⟨_, rfl⟩, a3, _, upd_same, a4⟩
        · have h1 : ¬ (0 + (i : Int) < N) := fun z => h1 (decide_eq_true z)
          refine ⟨_, rfl, _, rfl, 0 + (j : Int), (N : Int), rfl, rfl, _, rfl, ite2 (fun h2 => ?_) (fun h2 => ?_)⟩
          · have h2 := of_decide_eq_true h2
            refine ⟨_, rfl, .inl ⟨rfl, _, SqL.of l2⟩, _, rfl, _, rfl, by show 2 ≤ sizeLine; decide, fun q hq => ?_⟩
            obtain ⟨a1, a2, a3, a4⟩ := app (by omega) q hq
            exact ⟨p, ys, .ref q, rfl, rfl, a1, a2, ⟨_, rfl⟩, a3, _, upd_same, a4⟩
          · have h2 : ¬ (0 + (j : Int) < N) := fun z => h2 (decide_eq_true z)
            refine ⟨⟨_, rfl⟩, s2, ys, l2, ?_⟩
            rw [e2]
            unfold ahead
            rw [if_neg (by omega), if_pos (by omega)]
            omega
      · rintro σ H2 ⟨⟨y3, rfl⟩, s2, ys, l2, e2⟩
        refine ⟨⟨_, _, rfl⟩, s2, ys, l2, ?_⟩
        rw [e2]
        unfold ahead
        rw [show ((N : Int) + 1).toNat = N + 1 by omega, Nat.add_mul, Nat.one_mul]
        by_cases h : i = N
        · rw [if_pos (.inl ⟨h, rfl⟩), if_pos (.inr (by omega))]
          omega
        · rw [if_neg (by omega), if_neg (by omega)]
          omega
    · rintro σ H1 ⟨⟨y2, y3, rfl⟩, s1, xs, l1, e1⟩
      refine ⟨_, rfl, k H1 p xs s1 n0 l1 ?_⟩
      rw [e1]
      unfold ahead wide
      rw [show ((N : Int) + 1).toNat = N + 1 by omega, if_pos (.inr rfl)]
      have : ((N : Int) + 1) * ((N : Int) + 1) = (((N + 1) * (N + 1) : Nat) : Int) := by push_cast; rfl
      rw [this]
      omega
end
/-! ### what is wrong with a value as a comparison -/
def crowD (L n : Int) (d : PyData) : Bool := match d with
  | .tuple xs => decide (xs.length = wide L) && xs.all fun x => numD x 0 (n - 1)
  | _ => false
def ival (d : PyData) : Int := match d with
  | .int i => i
  | _ => 0
def vd1 (d : PyData) : Bool := numD d (-1) 1
def mends (n : Nat) (e : PyData) : Option Str := match e with
  | .tuple es => if es.length = n then (if es.all vd1 = true then none else some "verdicts") else some "verdicts"
  | _ => some "verdicts"
def merr5 (L : Int) (rs : List PyData) (e : PyData) : Option Str :=
  if 1 ≤ rs.length ∧ rs.length ≤ 60 then (if rs.all (crowD L rs.length) = true then mends rs.length e else some "rows") else some "rows"
def merr4 (L : Int) (r e : PyData) : Option Str := match r with
  | .tuple rs => merr5 L rs e
  | _ => some "rows"
def merr3 (l r e : PyData) : Option Str := if numD l 1 3 = true then merr4 (ival l) r e else some "letters"
theorem merr3_no {l r e : PyData} (h : numD l 1 3 = false) : merr3 l r e = some "letters" := by
  unfold merr3
  rw [h]
  rfl
theorem merr3_yes {L : Int} {r e : PyData} (h : numD (.int L) 1 3 = true) : merr3 (.int L) r e = merr4 L r e := by
  unfold merr3
  rw [h]
  rfl
def merr (d : PyData) : Option Str := match d with
  | .tuple [l, r, e] => merr3 l r e
  | _ => some "comp"
def optV : Option Str → V
  | none => .non
  | some x => .str x
def BInv (f : PyData → Bool) (ds : List PyData) (H : Hp) (D : Addr) (i : Nat) (H' : Hp) : Prop := Same H H' ∧ H' D = some (.lst ((ds.take i).map fun d => V.bl (f d)))
theorem bturn {B : Addr → Prop} {K : PySem.W.Frag} {H H' : Hp} {D : Addr} {xs : List V} {ds : List PyData} {f : PyData → Bool} {i : Nat} {y : V} (ha : DtAll B K H xs ds) (hz : ds.length < sizeLine) (hD : H D = none) (hy : xs[i]? = some y) (p : BInv f ds H D i H') :
    ∃ d, d ∈ ds ∧ Dt B K H' y d ∧ ∀ H'', Same H' H'' → ∀ b, b = f d → ∃ acc, H'' D = some (.lst acc) ∧ acc.length < sizeLine ∧ BInv f ds H D (i + 1) (upd H'' D (.lst (acc ++ [V.bl b]))) := by
  obtain ⟨sm, hD'⟩ := p
  obtain ⟨d, hd1, hd2⟩ := ha.getV hy
  refine ⟨d, List.mem_of_getElem? hd1, same_dt sm hd2, fun H'' s2 b eb => ⟨_, s2 _ _ hD', ?_, fun p o z => ?_, ?_⟩⟩
  · rw [List.length_map, List.length_take]
    omega
  · rw [upd_ne (ne_of_none z hD)]
    exact s2 _ _ (sm _ _ z)
  · rw [upd_same, List.take_add_one, hd1, List.map_append, eb]
    rfl
theorem bend {K : PySem.W.Frag} {H H' : Hp} {D : Addr} {n : Nat} {ds : List PyData} {f : PyData → Bool} (e : n = ds.length) (p : BInv f ds H D n H') : Same H H' ∧ SqL K H' D ((ds.map f).map V.bl) := by
  obtain ⟨sm, hD'⟩ := p
  rw [e, List.take_length] at hD'
  refine ⟨sm, SqL.of ?_⟩
  rw [hD', List.map_map]
  rfl
def rLen (K : PySem.W.Frag) : List V → Hp → VK → Prop := fun xs H Q => ∃ p ys, xs = [.ref p] ∧ (SqL K H p ys ∨ SqT K H p ys) ∧ Q (.int ys.length) H
theorem three_of {ds : List PyData} (h : ds.length = 3) : ∃ l r e, ds = [l, r, e] := by
  match ds, h with
  | [l, r, e], _ => exact ⟨l, r, e, rfl⟩
theorem dt_three {B : Addr → Prop} {K : PySem.W.Frag} {H : Hp} {xs : List V} {l r e : PyData} (h : DtAll B K H xs [l, r, e]) : ∃ vl vr ve, xs = [vl, vr, ve] ∧ Dt B K H vl l ∧ Dt B K H vr r ∧ Dt B K H ve e := by
  cases h with
  | cons h1 h =>
    cases h with
    | cons h2 h =>
      cases h with
      | cons h3 h =>
        cases h
        exact ⟨_, _, _, rfl, h1, h2, h3⟩
/-- what a comprehension holds that picks the items that fail -/
def FInv (f : PyData → Bool) (ds : List PyData) (H : Hp) (D : Addr) (i : Nat) (H' : Hp) : Prop :=
  Same H H' ∧ ∃ acc : List V, H' D = some (.lst acc) ∧ acc.length ≤ i ∧ (acc = [] ↔ (ds.take i).all f = true)
theorem fstart {f : PyData → Bool} {ds : List PyData} {H : Hp} {D : Addr} (hD : H D = none) : FInv f ds H D 0 (upd H D (.lst [])) :=
  ⟨same_new hD, [], upd_same, Nat.le_refl _, by simp⟩
theorem fturn {B : Addr → Prop} {K : PySem.W.Frag} {H H' : Hp} {D : Addr} {xs : List V} {ds : List PyData} {f : PyData → Bool} {i : Nat} {y : V} (ha : DtAll B K H xs ds) (hz : ds.length < sizeLine) (hD : H D = none) (hy : xs[i]? = some y) (p : FInv f ds H D i H') :
    ∃ d, d ∈ ds ∧ Dt B K H' y d ∧ (∀ H'', Same H' H'' → f d = true → FInv f ds H D (i + 1) H'') ∧
      ∀ H'', Same H' H'' → f d = false → ∃ acc, H'' D = some (.lst acc) ∧ acc.length < sizeLine ∧ FInv f ds H D (i + 1) (upd H'' D (.lst (acc ++ [y]))) := by
  obtain ⟨sm, acc, hD', hl, hi⟩ := p
  obtain ⟨d, hd1, hd2⟩ := ha.getV hy
  have hlt := (List.getElem?_eq_some_iff.mp hd1).1
  have ht : (ds.take (i + 1)).all f = ((ds.take i).all f && f d) := by
    rw [List.take_add_one, hd1, List.all_append]
    simp
  refine ⟨d, List.mem_of_getElem? hd1, same_dt sm hd2, fun H'' s2 fd => ⟨fun b o z => s2 b o (sm b o z), acc, s2 _ _ hD', by omega, ?_⟩, fun H'' s2 fd => ⟨acc, s2 _ _ hD', by omega, fun b o z => ?_, _, upd_same, ?_, ?_⟩⟩
  · rw [ht, fd, Bool.and_true]
    exact hi
  · rw [upd_ne (ne_of_none z hD)]
    exact s2 _ _ (sm _ _ z)
  · rw [List.length_append, List.length_singleton]
    omega
  · rw [ht, fd, Bool.and_false]
    exact ⟨fun z => absurd z (by simp), fun z => absurd z Bool.false_ne_true⟩
theorem fend {K : PySem.W.Frag} {H H' : Hp} {D : Addr} {n : Nat} {ds : List PyData} {f : PyData → Bool} (e : n = ds.length) (p : FInv f ds H D n H') : Same H H' ∧ ∃ acc, SqL K H' D acc ∧ decide (acc = []) = ds.all f := by
  obtain ⟨sm, acc, hD', hl, hi⟩ := p
  rw [e, List.take_length] at hi
  refine ⟨sm, acc, SqL.of hD', ?_⟩
  cases z : ds.all f
  · exact decide_eq_false (fun q => by rw [hi.mp q] at z; cases z)
  · exact decide_eq_true (hi.mpr z)
theorem not_cases {b : Bool} (h : (!b) = true) : b = false := by
  cases b
  · rfl
  · cases h
theorem not_cases' {b : Bool} (h : ¬ (!b) = true) : b = true := by
  cases b
  · exact absurd rfl h
  · rfl
section
variable {P : Program} {w : World} {K : PySem.W.Frag} {mg : Str → Option Value} {base : Heap}
def spCRow (K : PySem.W.Frag) : Sp := fun vs H Q _ => ∃ (B : Addr → Prop) (x : V) (d : PyData) (L n : Int), vs = [x, .int L, .int n] ∧ Dt B K H x d ∧ 1 ≤ L ∧ L ≤ 3 ∧ (∀ xs, d = .tuple xs → xs.length < sizeLine) ∧ ∀ H', Same H H' → Q (.bl (crowD L n d)) H'
theorem scCRow : FnScope ["value", "letters", "many", "item"] ["value", "letters", "many"] (defScope sCRow) := ⟨rfl, rfl, rfl, by decide +kernel, rfl, by decide +kernel, by decide +kernel⟩
theorem ok_cRow {f fN fC : Addr} {fd fdN fdC : FuncData} (F : Fun K "is_comp_row" "is_comp_row" sCRow f fd) (N : FnOk P w K mg base CX0 2 fN fdN ["value", "least", "most"] (spNum K)) (FN : Fun K "is_number" "is_number" sNumber fN fdN) (bN : Binds K fdN ["value", "least", "most"] []) (gN : mg "is_number" = some (.ref fN))
    (C : FnOk P w K mg base CX0 1 fC fdC ["letters"] spCols) (FC : Fun K "columns" "columns" sCols fC fdC) (bC : Binds K fdC ["letters"] []) (gC : mg "columns" = some (.ref fC)) (T : Mg mg) :
    FnOk P w K mg base CX0 3 f fd ["value", "letters", "many"] (spCRow K) := by
  refine F.ok scCRow (fun vs H Q E h => ?_) (fun cdv A outer s H vs Q E hr h => ?_)
  · obtain ⟨B, x, d, L, n, rfl, _⟩ := h
    rfl
  · obtain ⟨B, x, d, L, n, rfl, hd, L1, L3, hsz, k⟩ := h
    refine ⟨_, pss_cons (ps_if (PW.pt (pw_or (pt_not (pt_val (pe_callB call_isi (by rfl) T.isi PyProof.Rows.boot_isinstance (pa_cons (pv 0) (pa_cons (pe_bltn (v := .ty "tuple") (by rfl) T.tuple PyProof.Rows.boot_tuple rfl) pa_nil)))))
        (pw_or1 (pt_cmpR op_ne (pe_callB call_len_seq (by rfl) T.len PySem.boot_len (pa_cons (pv 0) pa_nil)) (pe_callB call_len_seq (by rfl) T.len PySem.boot_len (pa_cons (pe_call C (hr.mono (by decide)) (by rfl) gC FC.kp bC .nil pass0 (pa_cons (pv 1) pa_nil)) pa_nil)) (nomark _)))))
      (pss_one (ps_ret pe_bl)) pss_nil)
      (pss_one (ps_ret (pe_callB (cr_all rfl) (by rfl) T.all (by decide +kernel) (pa_cons (pe_lc (own := [("item", 3)]) (g := gName 3) (tt := tYes) rfl scCRow.nd (pi_tup (pv 0)) (blkOk_by (N := ["value", "letters", "many", "item"]) (sc := defScope sCRow) (by decide +kernel)) (fun _ _ _ _ _ => pg_name (i := 3) scCRow.nd rfl (Or.inl rfl)) (fun _ _ _ _ _ => pts_nil)
        (fun _ _ _ _ _ => pe_call N hr (by rfl) gN FN.kp bN .nil pass0 (pa_cons (pv 3) (pa_cons pe_int (pa_cons (pe_op op_sub (pv 2) pe_int) pa_nil))))) pa_nil)))), ?_⟩
    refine ⟨x, rfl, x, .ty "tuple", _, _, _, rfl, .ty _, tyD hd, kitT d, _, rfl, ?_⟩
    cases d with
    | none => exact k H (Same.refl H)
    | bool _ => exact k H (Same.refl H)
    | int _ => exact k H (Same.refl H)
    | str _ => exact k H (Same.refl H)
    | list _ => exact k H (Same.refl H)
    | dict _ => exact k H (Same.refl H)
    | tuple ds =>
      obtain ⟨a, xs, rfl, nb, hs, ha, hl⟩ := hd.tup_ref
      have hz := hsz ds rfl
      refine ⟨.ref a, rfl, a, xs, rfl, .inr hs, .int L, rfl, L, rfl, L1, L3, fun Hc pc xc sc nc lc ec => ⟨pc, xc, rfl, .inl (SqL.of lc), rfl, _, rfl, ite2 (fun h1 => ?_) (fun h1 => ?_)⟩⟩
      · have e : crowD L n (.tuple ds) = false := by
          show (decide (ds.length = wide L) && ds.all fun x => numD x 0 (n - 1)) = false
          have h2 : ¬ (ds.length = wide L) := by
            intro z
            rw [hl, z, ec] at h1
            simp at h1
          rw [decide_eq_false h2]
          rfl
        rw [e] at k
        exact k Hc sc
      · have h2 : ds.length = wide L := by
          rw [← hl, ← ec]
          by_cases z : xs.length = xc.length
          · exact z
          · exfalso
            apply h1
            have z2 : ¬ (V.int (xs.length : Int) = V.int (xc.length : Int)) := fun q => z (by have := V.int.inj q; omega)
            rw [decide_eq_false z2]
            rfl
        have e : crowD L n (.tuple ds) = ds.all fun x => numD x 0 (n - 1) := by
          show (decide (ds.length = wide L) && ds.all fun x => numD x 0 (n - 1)) = _
          rw [decide_eq_true h2]
          rfl
        rw [e] at k
        have hs' := same_seqT sc hs
        have ha' := same_all sc ha
        refine ⟨.ref a, rfl, a, rfl, ⟨xs, hs'⟩, fun D hD => ?_⟩
        refine lc_tup (K := K) (a := a) (xs := xs) (BInv (fun x => numD x 0 (n - 1)) ds Hc D) ⟨same_new hD, upd_same⟩ (fun i H' _ q => same_seqT q.1 hs') ?_ ?_
        · rintro i y H' hy p
          obtain ⟨d, hm, hd', fin⟩ := bturn ha' hz hD hy p
          exact ⟨rfl, y, rfl, .int n, rfl, n, 1, rfl, rfl, B, y, d, 0, n - 1, rfl, hd', fin H' (Same.refl H') _ rfl⟩
        · rintro H' p
          obtain ⟨sm, hS⟩ := bend (K := K) hl p
          refine ⟨D, _, rfl, hS, ?_⟩
          rw [all_take]
          exact k H' (sc.trans sm)
def spErr (K : PySem.W.Frag) : Sp := fun vs H Q _ => ∃ (B : Addr → Prop) (x : V) (d : PyData), vs = [x] ∧ Dt B K H x d ∧ nodes d ≤ 100000 ∧ ∀ H', Same H H' → Q (optV (merr d)) H'
theorem scCErr : FnScope ["value", "letters", "rows", "verdicts", "row", "verdict"] ["value"] (defScope sCErr) := ⟨rfl, rfl, rfl, by decide +kernel, rfl, by decide +kernel, by decide +kernel⟩
theorem ok_cErr {f fN fR : Addr} {fd fdN fdR : FuncData} (F : Fun K "comp_error" "comp_error" sCErr f fd) (N : FnOk P w K mg base CX0 2 fN fdN ["value", "least", "most"] (spNum K)) (FN : Fun K "is_number" "is_number" sNumber fN fdN) (bN : Binds K fdN ["value", "least", "most"] []) (gN : mg "is_number" = some (.ref fN))
    (R : FnOk P w K mg base CX0 3 fR fdR ["value", "letters", "many"] (spCRow K)) (FR : Fun K "is_comp_row" "is_comp_row" sCRow fR fdR) (bR : Binds K fdR ["value", "letters", "many"] []) (gR : mg "is_comp_row" = some (.ref fR)) (T : Mg mg) :
    FnOk P w K mg base CX0 4 f fd ["value"] (spErr K) := by
  refine F.ok scCErr (fun vs H Q E h => ?_) (fun cdv A outer s H vs Q E hr h => ?_)
  · obtain ⟨B, x, d, rfl, _⟩ := h
    rfl
  · obtain ⟨B, x, d, rfl, hd, hsz, k⟩ := h
    obtain ⟨t3, mL⟩ := T.ml
    obtain ⟨t4, mR⟩ := T.ms
    refine ⟨_, pss_cons (ps_if (PW.pt (pw_or (pt_not (pt_val (pe_callB call_isi (by rfl) T.isi PyProof.Rows.boot_isinstance (pa_cons (pv 0) (pa_cons (pe_bltn (v := .ty "tuple") (by rfl) T.tuple PyProof.Rows.boot_tuple rfl) pa_nil)))))
        (pw_or1 (pt_cmpR op_ne (pe_callB call_len_seq (by rfl) T.len PySem.boot_len (pa_cons (pv 0) pa_nil)) pe_int (nomark _)))))
      (pss_one (ps_ret pe_str)) pss_nil)
      (pss_cons (ps_asg (pv 0) (pg_tup rfl (pgs_cons (pg_name (i := 1) scCErr.nd rfl (.inr rfl)) (pgs_cons (pg_name (i := 2) scCErr.nd rfl (.inr rfl)) (pgs_cons (pg_name (i := 3) scCErr.nd rfl (.inl rfl)) pgs_nil)))))
      (pss_cons (ps_if (pt_not (pt_val (pe_call N (hr.mono (by decide)) (by rfl) gN FN.kp bN .nil pass0 (pa_cons (pv 1) (pa_cons pe_int (pa_cons (pe_glob (v := .int 3) (by rfl) mL ⟨_, rfl⟩) pa_nil)))))) (pss_one (ps_ret pe_str)) pss_nil)
      (pss_cons (ps_if (PW.pt (pw_or (pt_not (pt_val (pe_callB call_isi (by rfl) T.isi PyProof.Rows.boot_isinstance (pa_cons (pv 2) (pa_cons (pe_bltn (v := .ty "tuple") (by rfl) T.tuple PyProof.Rows.boot_tuple rfl) pa_nil)))))
        (pw_or1 (pt_not (pt_chain op_le op_le pe_int (pe_callB call_len_seq (by rfl) T.len PySem.boot_len (pa_cons (pv 2) pa_nil)) (pe_glob (v := .int 60) (by rfl) mR ⟨_, rfl⟩))))))
      (pss_one (ps_ret pe_str)) pss_nil)
      (pss_cons (ps_if (pt_not (pt_val (pe_callB (cr_all rfl) (by rfl) T.all (by decide +kernel) (pa_cons (pe_lc (own := [("row", 4)]) (g := gName 4) (tt := tYes) rfl scCErr.nd (pi_tup (pv 2)) (blkOk_by (N := ["value", "letters", "rows", "verdicts", "row", "verdict"]) (sc := defScope sCErr) (by decide +kernel)) (fun _ _ _ _ _ => pg_name (i := 4) scCErr.nd rfl (Or.inl rfl)) (fun _ _ _ _ _ => pts_nil)
          (fun _ _ _ _ _ => pe_call R hr (by rfl) gR FR.kp bR .nil pass0 (pa_cons (pv 4) (pa_cons (pv 1) (pa_cons (pe_callB (r := rLen K) call_len_seq (by rfl) T.len PySem.boot_len (pa_cons (pv 2) pa_nil)) pa_nil))))) pa_nil)))) (pss_one (ps_ret pe_str)) pss_nil)
      (pss_cons (ps_if (PW.pt (pw_or (pt_not (pt_val (pe_callB call_isi (by rfl) T.isi PyProof.Rows.boot_isinstance (pa_cons (pv 3) (pa_cons (pe_bltn (v := .ty "tuple") (by rfl) T.tuple PyProof.Rows.boot_tuple rfl) pa_nil)))))
        (pw_or1 (pt_cmpR op_ne (pe_callB call_len_seq (by rfl) T.len PySem.boot_len (pa_cons (pv 3) pa_nil)) (pe_callB call_len_seq (by rfl) T.len PySem.boot_len (pa_cons (pv 2) pa_nil)) (nomark _)))))
      (pss_one (ps_ret pe_str)) pss_nil)
      (pss_cons (ps_if (pt_not (pt_val (pe_callB (cr_all rfl) (by rfl) T.all (by decide +kernel) (pa_cons (pe_lc (own := [("verdict", 5)]) (g := gName 5) (tt := tYes) rfl scCErr.nd (pi_tup (pv 3)) (blkOk_by (N := ["value", "letters", "rows", "verdicts", "row", "verdict"]) (sc := defScope sCErr) (by decide +kernel)) (fun _ _ _ _ _ => pg_name (i := 5) scCErr.nd rfl (Or.inl rfl)) (fun _ _ _ _ _ => pts_nil)
          (fun _ _ _ _ _ => pe_call N (hr.mono (by decide)) (by rfl) gN FN.kp bN .nil pass0 (pa_cons (pv 5) (pa_cons (pe_un un_neg pe_int) (pa_cons pe_int pa_nil))))) pa_nil)))) (pss_one (ps_ret pe_str)) pss_nil)
      (pss_one (ps_ret pe_non)))))))), ?_⟩
    refine ⟨x, rfl, x, .ty "tuple", _, _, _, rfl, .ty _, tyD hd, kitT d, _, rfl, ?_⟩
    have km : merr d = some "comp" → Q (.str "comp") H := fun e => by
      have z := k H (Same.refl H)
      rw [e] at z
      exact z
    cases d with
    | none => exact km rfl
    | bool _ => exact km rfl
    | int _ => exact km rfl
    | str _ => exact km rfl
    | list _ => exact km rfl
    | dict _ => exact km rfl
    | tuple ds =>
      obtain ⟨a, xs, rfl, nb, hs, ha, hl⟩ := hd.tup_ref
      refine ⟨.ref a, rfl, a, xs, rfl, .inr hs, rfl, _, rfl, ite2 (fun h1 => ?_) (fun h1 => ?_)⟩
      · refine km ?_
        have h2 : ds.length ≠ 3 := by
          intro z
          rw [hl, z] at h1
          exact absurd h1 (by decide)
        match ds, h2 with
        | [], _ => rfl
        | [_], _ => rfl
        | [_, _], _ => rfl
        | [_, _, _], h2 => exact absurd rfl h2
        | _ :: _ :: _ :: _ :: _, _ => rfl
      · have h2 : ds.length = 3 := by
          rw [← hl]
          by_cases z : xs.length = 3
          · exact z
          · exfalso
            apply h1
            have z2 : ¬ (V.int (xs.length : Int) = V.int 3) := fun q => z (by have := V.int.inj q; omega)
            rw [decide_eq_false z2]
            rfl
        obtain ⟨l, r, e, rfl⟩ := three_of h2
        obtain ⟨vl, vr, ve, rfl, hdl, hdr, hde⟩ := dt_three ha
        · skip
          clear km
          have kk : ∀ (H' : Hp) (z : Option Str), Same H H' → merr3 l r e = z → Q (optV z) H' := fun H' z sm e => by
            rw [← e]
            exact k H' sm
          rw [nodes_tup, nodesAll_cons, nodesAll_cons, nodesAll_cons] at hsz
          refine ⟨.ref a, rfl, a, _, rfl, hs, rfl, vl, _, rfl, vr, _, rfl, ve, _, rfl, rfl, ?_⟩
          refine ⟨vl, rfl, B, vl, l, 1, 3, rfl, hdl, _, rfl, ite2 (fun h3 => ?_) (fun h3 => ?_)⟩
          · refine kk H (some "letters") (Same.refl H) ?_
            refine merr3_no ?_
            cases z : numD l 1 3
            · rfl
            · rw [z] at h3
              cases h3
          · have h4 : numD l 1 3 = true := by
              cases z : numD l 1 3
              · rw [z] at h3
                exact absurd rfl h3
              · rfl
            obtain ⟨L, rfl⟩ : ∃ L, l = .int L := by
              cases l with
              | int L => exact ⟨L, rfl⟩
              | _ => cases h4
            have hL : 1 ≤ L ∧ L ≤ 3 := by
              have z : (decide (1 ≤ L) && decide (L ≤ 3)) = true := h4
              rw [Bool.and_eq_true, decide_eq_true_eq, decide_eq_true_eq] at z
              exact z
            cases hdl
            refine ⟨vr, rfl, vr, .ty "tuple", _, _, _, rfl, .ty _, tyD hdr, kitT r, _, rfl, ?_⟩
            rw [merr3_yes h4] at kk
            cases r with
            | none => exact kk H (some "rows") (Same.refl H) rfl
            | bool _ => exact kk H (some "rows") (Same.refl H) rfl
            | int _ => exact kk H (some "rows") (Same.refl H) rfl
            | str _ => exact kk H (some "rows") (Same.refl H) rfl
            | list _ => exact kk H (some "rows") (Same.refl H) rfl
            | dict _ => exact kk H (some "rows") (Same.refl H) rfl
            | tuple rs =>
              have kk : ∀ (H' : Hp) (z : Option Str), Same H H' → merr5 L rs e = z → Q (optV z) H' := kk
              obtain ⟨b, ys, rfl, nb2, hs2, ha2, hl2⟩ := hdr.tup_ref
              rw [nodes_tup] at hsz
              have lrs := len_nodes rs
              have bad : ¬ (1 ≤ rs.length ∧ rs.length ≤ 60) → Q (.str "rows") H := fun z => by
                refine kk H (some "rows") (Same.refl H) ?_
                unfold merr5
                rw [if_neg z]
              refine ⟨.ref b, rfl, b, ys, rfl, .inr hs2, 1, _, rfl, rfl, _, rfl, ite2 (fun h5 => ?_) (fun h5 => ?_)⟩
              rotate_left
              · refine ⟨_, rfl, bad fun q => h5 (decide_eq_true ?_)⟩
                omega
              · have h5 := of_decide_eq_true h5
                refine ⟨_, 60, rfl, rfl, _, rfl, ite2 (fun h6 => ?_) (fun h6 => ?_)⟩
                · refine bad fun q => ?_
                  have h7 : decide ((ys.length : Int) ≤ 60) = true := decide_eq_true (by omega)
                  rw [h7] at h6
                  cases h6
                · have h7 : (ys.length : Int) ≤ 60 := by
                    cases z : decide ((ys.length : Int) ≤ 60)
                    · rw [z] at h6
                      exact absurd rfl h6
                    · exact of_decide_eq_true z
                  have h8 : 1 ≤ rs.length ∧ rs.length ≤ 60 := by omega
                  have kk2 : ∀ (H' : Hp) (z : Option Str), Same H H' → (if rs.all (crowD L rs.length) = true then mends rs.length e else some "rows") = z → Q (optV z) H' := fun H' z sm q => by
                    refine kk H' z sm ?_
                    unfold merr5
                    rw [if_pos h8]
                    exact q
                  have hz : rs.length < sizeLine := small1000 (by omega)
                  refine ⟨.ref b, rfl, b, rfl, ⟨ys, hs2⟩, fun D hD => ?_⟩
                  refine lc_tup (K := K) (a := b) (xs := ys) (BInv (crowD L rs.length) rs H D) ⟨same_new hD, upd_same⟩ (fun i H' _ q => same_seqT q.1 hs2) ?_ ?_
                  · rintro i y H' hy p
                    obtain ⟨d, hm, hd', fin⟩ := bturn ha2 hz hD hy p
                    have hmn := mem_nodes hm
                    refine ⟨rfl, y, rfl, .int L, rfl, .ref b, rfl, b, ys, rfl, .inr (same_seqT p.1 hs2), B, y, d, L, _, rfl, hd', hL.1, hL.2, fun zs ez => ?_, fun H'' sm => fin H'' sm _ (by rw [hl2])⟩
                    subst ez
                    rw [nodes_tup] at hmn
                    have := len_nodes zs
                    exact Nat.lt_of_le_of_lt (show zs.length ≤ 100000 by omega) (by decide)
                  · rintro H1 p
                    obtain ⟨sm, hS⟩ := bend (K := K) hl2 p
                    refine ⟨D, _, rfl, hS, _, rfl, ?_⟩
                    rw [all_take]
                    refine ite2 (fun h9 => ?_) (fun h9 => ?_)
                    · refine kk2 H1 (some "rows") sm ?_
                      rw [if_neg]
                      intro q
                      rw [q] at h9
                      cases h9
                    · have h10 : rs.all (crowD L rs.length) = true := by
                        cases z : rs.all (crowD L rs.length)
                        · rw [z] at h9
                          exact absurd rfl h9
                        · rfl
                      have kk3 : ∀ (H' : Hp) (z : Option Str), Same H H' → mends rs.length e = z → Q (optV z) H' := fun H' z sm q => by
                        refine kk2 H' z sm ?_
                        rw [if_pos h10]
                        exact q
                      have hde1 := same_dt sm hde
                      refine ⟨ve, rfl, ve, .ty "tuple", _, _, _, rfl, .ty _, tyD hde1, kitT e, _, rfl, ?_⟩
                      cases e with
                      | none => exact kk3 H1 (some "verdicts") sm rfl
                      | bool _ => exact kk3 H1 (some "verdicts") sm rfl
                      | int _ => exact kk3 H1 (some "verdicts") sm rfl
                      | str _ => exact kk3 H1 (some "verdicts") sm rfl
                      | list _ => exact kk3 H1 (some "verdicts") sm rfl
                      | dict _ => exact kk3 H1 (some "verdicts") sm rfl
                      | tuple es =>
                        obtain ⟨c, us, rfl, nb3, hs3, ha3, hl3⟩ := hde1.tup_ref
                        refine ⟨.ref c, rfl, c, us, rfl, .inr hs3, .ref b, rfl, b, ys, rfl, .inr (same_seqT sm hs2), rfl, _, rfl, ite2 (fun h11 => ?_) (fun h11 => ?_)⟩
                        · refine kk3 H1 (some "verdicts") sm ?_
                          unfold mends
                          show (if es.length = rs.length then _ else _) = _
                          rw [if_neg]
                          intro q
                          rw [hl3, hl2, q, decide_eq_true rfl] at h11
                          cases h11
                        · have h12 : es.length = rs.length := by
                            rw [← hl3, ← hl2]
                            by_cases z : us.length = ys.length
                            · exact z
                            · exfalso
                              apply h11
                              have z2 : ¬ (V.int (us.length : Int) = V.int (ys.length : Int)) := fun q => z (by have := V.int.inj q; omega)
                              rw [decide_eq_false z2]
                              rfl
                          have m5 : mends rs.length (.tuple es) = (if es.all vd1 = true then (none : Option Str) else some ("verdicts" : Str)) := by
                            show (if es.length = rs.length then (if es.all vd1 = true then none else some ("verdicts" : Str)) else some "verdicts") = _
                            exact if_pos h12
                          refine ⟨.ref c, rfl, c, rfl, ⟨us, hs3⟩, fun D2 hD2 => ?_⟩
                          refine lc_tup (K := K) (a := c) (xs := us) (BInv vd1 es H1 D2) ⟨same_new hD2, upd_same⟩ (fun i H' _ q => same_seqT q.1 hs3) ?_ ?_
                          · rintro i y H' hy p
                            obtain ⟨d, hm, hd', fin⟩ := bturn ha3 (by omega) hD2 hy p
                            exact ⟨rfl, y, rfl, 1, rfl, B, y, d, -1, 1, rfl, hd', fin H' (Same.refl H') _ rfl⟩
                          · rintro H2 p
                            obtain ⟨sm2, hS2⟩ := bend (K := K) hl3 p
                            refine ⟨D2, _, rfl, hS2, _, rfl, ?_⟩
                            rw [all_take]
                            have sm3 : Same H H2 := fun b o z => sm2 b o (sm b o z)
                            refine ite2 (fun h13 => ?_) (fun h13 => ?_)
                            · have h14 : es.all vd1 = false := by
                                cases z : es.all vd1
                                · rfl
                                · rw [z] at h13
                                  cases h13
                              refine kk3 H2 (some "verdicts") sm3 (m5.trans ?_)
                              rw [h14]
                              rfl
                            · have h14 : es.all vd1 = true := by
                                cases z : es.all vd1
                                · rw [z] at h13
                                  exact absurd rfl h13
                                · rfl
                              refine kk3 H2 none sm3 (m5.trans ?_)
                              rw [h14]
                              rfl
end
/-! ### the law's columns -/
def chr1 (c : Nat) : Str := ⟨#[c]⟩
def sgS (L : Int) : Str := cutS "abc" none (some L) ++ "."
def sgs (L : Int) : List Nat := (sgS L).cps.toList
def colsAll (L : Int) : List Str := (sgs L).flatMap fun c => (sgs L).map fun e => chr1 c ++ chr1 e
def colsS (L : Int) : List Str := (colsAll L).dropLast
theorem L123 {L : Int} (h : 1 ≤ L) (h2 : L ≤ 3) : L = 1 ∨ L = 2 ∨ L = 3 := by omega
theorem sg_size {L : Int} (h : 1 ≤ L) (h2 : L ≤ 3) : (sgS L).cps.size ≤ 4 := by
  rcases L123 h h2 with rfl | rfl | rfl <;> decide +kernel
theorem cols_cut {L : Int} (h : 1 ≤ L) (h2 : L ≤ 3) : cutV ((colsAll L).map V.str) none (some (-1)) = (colsS L).map V.str := by
  rcases L123 h h2 with rfl | rfl | rfl <;> rfl
theorem cols_len {L : Int} (h : 1 ≤ L) (h2 : L ≤ 3) : (colsS L).length = wide L := by
  rcases L123 h h2 with rfl | rfl | rfl <;> decide +kernel
theorem chr_len (c e : Nat) : (chr1 c).length + (chr1 e).length ≤ sizeLine := by
  show 1 + 1 ≤ sizeLine
  decide
section
variable {P : Program} {w : World} {K : PySem.W.Frag} {mg : Str → Option Value} {base : Heap}
theorem scColsL : FnScope ["_law_letters", "_law_signs", "_law_found", "_law_one_here", "_law_other"] ["_law_letters"] (defScope sColsL) := ⟨rfl, rfl, rfl, by decide +kernel, rfl, by decide +kernel, by decide +kernel⟩
def spColsL : Sp := fun vs H Q _ => ∃ L : Int, vs = [.int L] ∧ 1 ≤ L ∧ L ≤ 3 ∧ ∀ (H' : Hp) (p : Addr), Same H H' → H p = none → H' p = some (.lst ((colsS L).map V.str)) → Q (.ref p) H'
theorem ok_colsL {f : Addr} {fd : FuncData} (F : Fun K "_law_columns" "_law_columns" sColsL f fd) (T : Mg mg) : FnOk P w K mg base CX0 1 f fd ["_law_letters"] spColsL := by
  refine F.ok scColsL (fun vs H Q E h => ?_) (fun cdv A outer s H vs Q E hr h => ?_)
  · obtain ⟨L, rfl, _⟩ := h
    rfl
  · obtain ⟨L, rfl, L1, L3, k⟩ := h
    have hsz := sg_size L1 L3
    refine ⟨_, pss_cons (ps_par (i := 1) (j := 2) rfl scColsL.nd rfl rfl (by decide) rfl rfl (pa_cons (pe_op op_add_str (pe_slice sl_str pe_str po_none (po_some (pv 0))) pe_str) (pa_cons (pe_lstA pa_nil) pa_nil)) (by rfl))
      (pss_cons (ps_for PassesOwn.never rfl (pi_str (pv 1)) (pg_name (i := 3) scColsL.nd rfl (.inr rfl))
        (pss_one (ps_expr (pe_bm PySem.F.plainAttrs_list PySem.F.slot_list_extend PySem.F.type_list_extend mt_extend (pv 2) (pa_cons (pe_lc (own := [("_law_other", 4)]) (g := gName 4) (tt := tYes) rfl scColsL.nd (pi_str (pv 1)) (blkOk_by (N := ["_law_letters", "_law_signs", "_law_found", "_law_one_here", "_law_other"]) (sc := defScope sColsL) (by decide +kernel)) (fun _ _ _ _ _ => pg_name (i := 4) scColsL.nd rfl (Or.inl rfl)) (fun _ _ _ _ _ => pts_nil)
          (fun _ _ _ _ _ => pe_op op_add_str (pv 3) (pv 4))) pa_nil)))))
      (pss_one (ps_ret (pe_slice sl_list (pv 2) po_none (po_some (pe_un un_neg pe_int)))))), ?_⟩
    refine ⟨_, rfl, L, rfl, "abc", rfl, by show 3 ≤ sizeLine; decide, _, _, rfl, rfl, ?_, by show 0 ≤ sizeLine; decide, fun p G s0 n0 _ l0 => ?_⟩
    · rcases L123 L1 L3 with rfl | rfl | rfl <;> decide +kernel
    refine ⟨_, _, rfl, ?_⟩
    refine ⟨_, rfl, sgS L, rfl, for_it walk_str (fun i σ H' => (∃ y3, σ = [some (.int L), some (.str (sgS L)), some (.ref p), y3, none]) ∧ Same H H' ∧ H' p = some (.lst ((((sgs L).take i).flatMap fun c => (sgs L).map fun e => chr1 c ++ chr1 e).map V.str)))
      ⟨⟨none, rfl⟩, s0, l0⟩ (fun _ _ _ _ _ => True.intro) ?_ ?_⟩
    · rintro i x σ H0 H1 hi ⟨⟨y3, rfl⟩, s2, l2⟩ ⟨rfl, c, hc, rfl⟩
      refine ⟨_, rfl, .inl ⟨rfl, _, SqL.of l2⟩, _, rfl, sgS L, rfl, fun D hD => ?_⟩
      have npD : p ≠ D := ne_of_none l2 hD
      refine lc_it walk_str (fun j H' => Same H1 H' ∧ H' D = some (.lst (((sgs L).take j).map fun e => V.str (chr1 c ++ chr1 e)))) ⟨same_new hD, upd_same⟩ (fun _ _ _ _ => True.intro) ?_ ?_
      · rintro j x H0 H3 hj ⟨s3, l3⟩ ⟨rfl, e, he, rfl⟩
        have he' : (sgs L)[j]? = some e := by
          rw [sgs, Array.getElem?_toList]
          exact he
        refine ⟨rfl, _, rfl, _, rfl, _, _, rfl, rfl, chr_len c e, _, l3, ?_, fun b o z => ?_, ?_⟩
        · rw [List.length_map, List.length_take]
          exact small1000 (by omega)
        · rw [upd_ne (ne_of_none z hD)]
          exact s3 _ _ z
        · rw [upd_same, List.take_add_one, he', List.map_append]
          rfl
      · rintro H3 ⟨s3, l3⟩
        have hc' : (sgs L)[i]? = some c := by
          rw [sgs, Array.getElem?_toList]
          exact hc
        have et : (sgs L).take (sgS L).cps.size = sgs L := List.take_of_length_le (by rw [sgs, Array.length_toList]; exact Nat.le_refl _)
        rw [et] at l3
        refine ⟨p, D, _, _, rfl, rfl, s3 _ _ l2, l3, ?_, ⟨_, rfl⟩, fun b o z => ?_, ?_⟩
        · have a1 : (sgs L).length ≤ 4 := by rw [sgs, Array.length_toList]; exact hsz
          have a2 : (((sgs L).take i).flatMap fun c => (sgs L).map fun e => chr1 c ++ chr1 e).length ≤ 100 := by
            rw [List.length_flatMap]
            have : ∀ l : List Nat, (l.map fun c => ((sgs L).map fun e => chr1 c ++ chr1 e).length).sum = l.length * (sgs L).length := by
              intro l
              induction l with
              | nil => simp
              | cons a l ih =>
                rw [List.map_cons, List.sum_cons, ih, List.length_map, List.length_cons, Nat.succ_mul]
                omega
            rw [this, List.length_take]
            have := Nat.mul_le_mul (show min i (sgs L).length ≤ 4 by omega) a1
            omega
          rw [List.length_map, List.length_map]
          exact Nat.le_trans (show _ ≤ 200 by omega) (by decide)
        · rw [upd_ne (fun q => by rw [q] at z; exact absurd z (by rw [n0]; exact fun y => nomatch y))]
          exact s3 _ _ (s2 _ _ z)
        · rw [upd_same, List.take_add_one, hc']
          simp [List.flatMap_append, Function.comp_def]
    · rintro σ H1 ⟨⟨y3, rfl⟩, s2, l2⟩
      have et : (sgs L).take (sgS L).cps.size = sgs L := List.take_of_length_le (by rw [sgs, Array.length_toList]; exact Nat.le_refl _)
      rw [et] at l2
      refine ⟨_, rfl, 1, rfl, -1, rfl, p, _, rfl, SqL.of l2, fun q hq => ?_⟩
      have e9 : cutV (((sgs L).flatMap fun c => (sgs L).map fun e => chr1 c ++ chr1 e).map V.str) none (some (-1)) = (colsS L).map V.str := cols_cut L1 L3
      refine k _ q (s2.trans (same_new hq)) (s2.free hq) ?_
      rw [upd_same]
      exact congrArg (fun z => some (HO.lst z)) e9
end
section
variable {P : Program} {w : World} {K : PySem.W.Frag} {mg : Str → Option Value} {base : Heap}
theorem scDue : FnScope ["_law_value", "_law_wide", "_law_rows", "_law_row", "_law_item"] ["_law_value"] (defScope sDue) := ⟨rfl, rfl, rfl, by decide +kernel, rfl, by decide +kernel, by decide +kernel⟩
theorem ok_due {f fN fC : Addr} {fd fdN fdC : FuncData} (F : Fun K "_law_due" "_law_due" sDue f fd) (W : FnOk P w K mg base CX0 1 fN fdN ["_law_value", "_law_least", "_law_most"] (spNum K)) (FW : Fun K "_law_whole" "_law_whole" sWhole fN fdN) (bW : Binds K fdN ["_law_value", "_law_least", "_law_most"] []) (gW : mg "_law_whole" = some (.ref fN))
    (CL : FnOk P w K mg base CX0 1 fC fdC ["_law_letters"] spColsL) (FC : Fun K "_law_columns" "_law_columns" sColsL fC fdC) (bC : Binds K fdC ["_law_letters"] []) (gC : mg "_law_columns" = some (.ref fC)) (T : Mg mg) :
    FnOk P w K mg base CX0 3 f fd ["_law_value"] (spErr K) := by
  refine F.ok scDue (fun vs H Q E h => ?_) (fun cdv A outer s H vs Q E hr h => ?_)
  · obtain ⟨B, x, d, rfl, _⟩ := h
    rfl
  · obtain ⟨B, x, d, rfl, hd, hsz, k⟩ := h
    have hu0 := hr.units0
    refine ⟨_, pss_cons (ps_if (PW.pt (pw_or (pt_not (pt_val (pe_callB (r := rIsi K) call_isi (by rfl) T.isi PyProof.Rows.boot_isinstance (pa_cons (pv 0) (pa_cons (pe_bltn (v := .ty "tuple") (by rfl) T.tuple PyProof.Rows.boot_tuple rfl) pa_nil))))) (pw_or1 (pt_cmpR op_ne (pe_callB (r := rLen K) call_len_seq (by rfl) T.len PySem.boot_len (pa_cons (pv 0) pa_nil)) pe_int (nomark _))))) (pss_one (ps_ret pe_str)) pss_nil)
      (pss_cons (ps_if (pt_not (pt_val (pe_call W (hr.mono (by decide)) (by rfl) gW FW.kp bW .nil pass0 (pa_cons (pe_ix (r := rIxT K) ix_tup (pv 0) pe_int (fun _ _ => rfl)) (pa_cons pe_int (pa_cons pe_int pa_nil)))))) (pss_one (ps_ret pe_str)) pss_nil)
      (pss_cons (ps_if (PW.pt (pw_or (pt_not (pt_val (pe_callB (r := rIsi K) call_isi (by rfl) T.isi PyProof.Rows.boot_isinstance (pa_cons (pe_ix (r := rIxT K) ix_tup (pv 0) pe_int (fun _ _ => rfl)) (pa_cons (pe_bltn (v := .ty "tuple") (by rfl) T.tuple PyProof.Rows.boot_tuple rfl) pa_nil))))) (pw_or1 (pt_not (pt_chain op_le op_le pe_int (pe_callB (r := rLen K) call_len_seq (by rfl) T.len PySem.boot_len (pa_cons (pe_ix (r := rIxT K) ix_tup (pv 0) pe_int (fun _ _ => rfl)) pa_nil)) pe_int))))) (pss_one (ps_ret pe_str)) pss_nil)
      (pss_cons (ps_asg (pe_tup (pa_cons (pe_callB (r := rLen K) call_len_seq (by rfl) T.len PySem.boot_len (pa_cons (pe_call CL (hr.mono (by decide)) (by rfl) gC FC.kp bC .nil pass0 (pa_cons (pe_ix (r := rIxT K) ix_tup (pv 0) pe_int (fun _ _ => rfl)) pa_nil)) pa_nil)) (pa_cons (pe_callB (r := rLen K) call_len_seq (by rfl) T.len PySem.boot_len (pa_cons (pe_ix (r := rIxT K) ix_tup (pv 0) pe_int (fun _ _ => rfl)) pa_nil)) pa_nil))) (pg_tup rfl (pgs_cons (pg_name (i := 1) scDue.nd rfl (.inl rfl)) (pgs_cons (pg_name (i := 2) scDue.nd rfl (.inr rfl)) pgs_nil))))
      (pss_cons (ps_for PassesOwn.never rfl (pi_tup (pe_ix (r := rIxT K) ix_tup (pv 0) pe_int (fun _ _ => rfl))) (pg_name (i := 3) scDue.nd rfl (.inl rfl))
        (pss_cons (ps_if (PW.pt (pw_or (pt_not (pt_val (pe_callB (r := rIsi K) call_isi (by rfl) T.isi PyProof.Rows.boot_isinstance (pa_cons (pv 3) (pa_cons (pe_bltn (v := .ty "tuple") (by rfl) T.tuple PyProof.Rows.boot_tuple rfl) pa_nil))))) (pw_or1 (pt_cmpR op_ne (pe_callB (r := rLen K) call_len_seq (by rfl) T.len PySem.boot_len (pa_cons (pv 3) pa_nil)) (pv 1) (nomark _))))) (pss_one (ps_ret pe_str)) pss_nil)
        (pss_one (ps_if (pt_cmpR (op_neNilL hu0) (pe_lc (own := [("_law_item", 4)]) (g := gName 4) rfl scDue.nd (pi_tup (pv 3)) (blkOk_by (N := ["_law_value", "_law_wide", "_law_rows", "_law_row", "_law_item"]) (sc := defScope sDue) (by decide +kernel)) (fun _ _ _ _ _ => pg_name (i := 4) scDue.nd rfl (Or.inl rfl)) (fun _ _ _ _ _ => pts_one (pt_not (pt_val (pe_call W (hr.mono (by decide)) (by rfl) gW FW.kp bW .nil pass0 (pa_cons (pv 4) (pa_cons pe_int (pa_cons (pe_op op_sub (pv 2) pe_int) pa_nil))))))) (fun _ _ _ _ _ => pv 4)) (pe_lst pa_nil) (nomark _)) (pss_one (ps_ret pe_str)) pss_nil))))
      (pss_cons (ps_if (PW.pt (pw_or (pt_not (pt_val (pe_callB (r := rIsi K) call_isi (by rfl) T.isi PyProof.Rows.boot_isinstance (pa_cons (pe_ix (r := rIxT K) ix_tup (pv 0) pe_int (fun _ _ => rfl)) (pa_cons (pe_bltn (v := .ty "tuple") (by rfl) T.tuple PyProof.Rows.boot_tuple rfl) pa_nil))))) (pw_or1 (pt_cmpR op_ne (pe_callB (r := rLen K) call_len_seq (by rfl) T.len PySem.boot_len (pa_cons (pe_ix (r := rIxT K) ix_tup (pv 0) pe_int (fun _ _ => rfl)) pa_nil)) (pv 2) (nomark _))))) (pss_one (ps_ret pe_str)) pss_nil)
      (pss_one (ps_ret (pe_ifExp (pt_cmpR (op_eqNilL hu0) (pe_lc (own := [("_law_item", 4)]) (g := gName 4) rfl scDue.nd (pi_tup (pe_ix (r := rIxT K) ix_tup (pv 0) pe_int (fun _ _ => rfl))) (blkOk_by (N := ["_law_value", "_law_wide", "_law_rows", "_law_row", "_law_item"]) (sc := defScope sDue) (by decide +kernel)) (fun _ _ _ _ _ => pg_name (i := 4) scDue.nd rfl (Or.inl rfl)) (fun _ _ _ _ _ => pts_one (pt_not (pt_val (pe_call W (hr.mono (by decide)) (by rfl) gW FW.kp bW .nil pass0 (pa_cons (pv 4) (pa_cons (pe_un un_neg pe_int) (pa_cons pe_int pa_nil))))))) (fun _ _ _ _ _ => pv 4)) (pe_lst pa_nil) (nomark _)) pe_non pe_str)))))))), ?_⟩
    refine ⟨x, rfl, x, .ty "tuple", _, _, _, rfl, .ty _, tyD hd, kitT d, _, rfl, ?_⟩
    have km : merr d = some "comp" → Q (.str "comp") H := fun e => by
      have z := k H (Same.refl H)
      rw [e] at z
      exact z
    cases d with
    | none => exact km rfl
    | bool _ => exact km rfl
    | int _ => exact km rfl
    | str _ => exact km rfl
    | list _ => exact km rfl
    | dict _ => exact km rfl
    | tuple ds =>
      obtain ⟨a, xs, rfl, nb, hs, ha, hl⟩ := hd.tup_ref
      refine ⟨.ref a, rfl, a, xs, rfl, .inr hs, rfl, _, rfl, ite2 (fun h1 => ?_) (fun h1 => ?_)⟩
      · refine km ?_
        have h2 : ds.length ≠ 3 := by
          intro z
          rw [hl, z] at h1
          exact absurd h1 (by decide)
        match ds, h2 with
        | [], _ => rfl
        | [_], _ => rfl
        | [_, _], _ => rfl
        | [_, _, _], h2 => exact absurd rfl h2
        | _ :: _ :: _ :: _ :: _, _ => rfl
      · have h2 : ds.length = 3 := by
          rw [← hl]
          by_cases z : xs.length = 3
          · exact z
          · exfalso
            apply h1
            have z2 : ¬ (V.int (xs.length : Int) = V.int 3) := fun q => z (by have := V.int.inj q; omega)
            rw [decide_eq_false z2]
            rfl
        obtain ⟨l, r, e, rfl⟩ := three_of h2
        obtain ⟨vl, vr, ve, rfl, hdl, hdr, hde⟩ := dt_three ha
        · skip
          clear km
          have kk : ∀ (H' : Hp) (z : Option Str), Same H H' → merr3 l r e = z → Q (optV z) H' := fun H' z sm e => by
            rw [← e]
            exact k H' sm
          rw [nodes_tup, nodesAll_cons, nodesAll_cons, nodesAll_cons] at hsz
          have gl : atI [vl, vr, ve] 0 = some vl := atI_nat (j := 0) rfl
          have gr : atI [vl, vr, ve] 1 = some vr := atI_nat (j := 1) rfl
          have ge : atI [vl, vr, ve] 2 = some ve := atI_nat (j := 2) rfl
          refine ⟨.ref a, rfl, a, _, 0, vl, rfl, rfl, hs, gl, B, vl, l, 1, 3, rfl, hdl, _, rfl, ite2 (fun h3 => ?_) (fun h3 => ?_)⟩
          · refine kk H (some "letters") (Same.refl H) ?_
            refine merr3_no ?_
            cases z : numD l 1 3
            · rfl
            · rw [z] at h3
              cases h3
          · have h4 : numD l 1 3 = true := by
              cases z : numD l 1 3
              · rw [z] at h3
                exact absurd rfl h3
              · rfl
            obtain ⟨L, rfl⟩ : ∃ L, l = .int L := by
              cases l with
              | int L => exact ⟨L, rfl⟩
              | _ => cases h4
            have hL : 1 ≤ L ∧ L ≤ 3 := by
              have z : (decide (1 ≤ L) && decide (L ≤ 3)) = true := h4
              rw [Bool.and_eq_true, decide_eq_true_eq, decide_eq_true_eq] at z
              exact z
            cases hdl
            refine ⟨.ref a, rfl, a, _, 1, vr, rfl, rfl, hs, gr, vr, .ty "tuple", _, _, _, rfl, .ty _, tyD hdr, kitT r, _, rfl, ?_⟩
            rw [merr3_yes h4] at kk
            cases r with
            | none => exact kk H (some "rows") (Same.refl H) rfl
            | bool _ => exact kk H (some "rows") (Same.refl H) rfl
            | int _ => exact kk H (some "rows") (Same.refl H) rfl
            | str _ => exact kk H (some "rows") (Same.refl H) rfl
            | list _ => exact kk H (some "rows") (Same.refl H) rfl
            | dict _ => exact kk H (some "rows") (Same.refl H) rfl
            | tuple rs =>
              have kk : ∀ (H' : Hp) (z : Option Str), Same H H' → merr5 L rs e = z → Q (optV z) H' := kk
              obtain ⟨b, ys, rfl, nb2, hs2, ha2, hl2⟩ := hdr.tup_ref
              rw [nodes_tup] at hsz
              have lrs := len_nodes rs
              have bad : ¬ (1 ≤ rs.length ∧ rs.length ≤ 60) → Q (.str "rows") H := fun z => by
                refine kk H (some "rows") (Same.refl H) ?_
                unfold merr5
                rw [if_neg z]
              refine ⟨.ref a, rfl, a, _, 1, _, rfl, rfl, hs, gr, b, ys, rfl, .inr hs2, 1, _, rfl, rfl, _, rfl, ite2 (fun h5 => ?_) (fun h5 => ?_)⟩
              rotate_left
              · refine ⟨_, rfl, bad fun q => h5 (decide_eq_true ?_)⟩
                omega
              · have h5 := of_decide_eq_true h5
                refine ⟨_, 60, rfl, rfl, _, rfl, ite2 (fun h6 => ?_) (fun h6 => ?_)⟩
                · refine bad fun q => ?_
                  have h7 : decide ((ys.length : Int) ≤ 60) = true := decide_eq_true (by omega)
                  rw [h7] at h6
                  cases h6
                · have h7 : (ys.length : Int) ≤ 60 := by
                    cases z : decide ((ys.length : Int) ≤ 60)
                    · rw [z] at h6
                      exact absurd rfl h6
                    · exact of_decide_eq_true z
                  have h8 : 1 ≤ rs.length ∧ rs.length ≤ 60 := by omega
                  have kk2 : ∀ (H' : Hp) (z : Option Str), Same H H' → (if rs.all (crowD L rs.length) = true then mends rs.length e else some "rows") = z → Q (optV z) H' := fun H' z sm q => by
                    refine kk H' z sm ?_
                    unfold merr5
                    rw [if_pos h8]
                    exact q
                  have kr : ∀ (H' : Hp) (d : PyData), Same H H' → d ∈ rs → crowD L rs.length d = false → Q (.str "rows") H' := fun H' d sm hm q => by
                    refine kk2 H' (some "rows") sm ?_
                    rw [if_neg]
                    intro z
                    rw [List.all_eq_true] at z
                    rw [z d hm] at q
                    cases q
                  refine ⟨.ref a, rfl, a, _, 0, _, rfl, rfl, hs, gl, L, rfl, hL.1, hL.2, fun Hc pc sc nc lc => ?_⟩
                  refine ⟨pc, _, rfl, .inl (SqL.of lc), .ref a, rfl, a, _, 1, _, rfl, rfl, same_seqT sc hs, gr, b, ys, rfl, .inr (same_seqT sc hs2), by show 2 ≤ sizeLine; decide, fun T1 hT1 => ?_⟩
                  have s1 := sc.trans (same_new (o := .tup [.int (((colsS L).map V.str).length : Int), .int (ys.length : Int)]) hT1)
                  have lT : upd Hc T1 (.tup [.int (((colsS L).map V.str).length : Int), .int (ys.length : Int)]) T1 = some (.tup [.int (((colsS L).map V.str).length : Int), .int (ys.length : Int)]) := upd_same
                  refine ⟨T1, _, rfl, SqT.of lT, rfl, .int (((colsS L).map V.str).length : Int), [.int (ys.length : Int)], rfl, .int (ys.length : Int), [], rfl, rfl, ?_⟩
                  clear lT
                  generalize upd Hc T1 (.tup [.int (((colsS L).map V.str).length : Int), .int (ys.length : Int)]) = G1 at *
                  have ew : ((colsS L).map V.str).length = wide L := by rw [List.length_map, cols_len hL.1 hL.2]
                  refine ⟨.ref a, rfl, a, _, 1, _, rfl, rfl, same_seqT s1 hs, gr, b, rfl, ⟨ys, same_seqT s1 hs2⟩, ?_⟩
                  refine for_tup (K := K) (a := b) (xs := ys) (fun i σ H' => Same H H' ∧ (∃ z, σ = [some (.ref a), some (.int (((colsS L).map V.str).length : Int)), some (.int (ys.length : Int)), z, none]) ∧ ∀ d ∈ rs.take i, crowD L rs.length d = true) ⟨s1, ⟨none, rfl⟩, fun d z => absurd z List.not_mem_nil⟩ (fun i σ H' _ q => same_seqT q.1 hs2) ?_ ?_
                  · rintro i y σ H' hy ⟨sm, ⟨z, rfl⟩, hall⟩
                    obtain ⟨d, hd1, hd2⟩ := ha2.getV hy
                    have hm := List.mem_of_getElem? hd1
                    have hmn := mem_nodes hm
                    have hd' := same_dt sm hd2
                    have hsA := same_seqT sm hs
                    have hsB := same_seqT sm hs2
                    have nxt : ∀ H'', Same H' H'' → crowD L rs.length d = true → (Same H H'' ∧ (∃ z, [some (V.ref a), some (V.int (((colsS L).map V.str).length : Int)), some (V.int (ys.length : Int)), some y, none] = [some (V.ref a), some (V.int (((colsS L).map V.str).length : Int)), some (V.int (ys.length : Int)), z, none]) ∧ ∀ d ∈ rs.take (i + 1), crowD L rs.length d = true) := fun H'' s2 q => by
                      refine ⟨fun b o z => s2 b o (sm b o z), ⟨_, rfl⟩, fun d2 m2 => ?_⟩
                      rw [List.take_add_one, hd1] at m2
                      rcases List.mem_append.mp m2 with m2 | m2
                      · exact hall d2 m2
                      · rw [show d2 = d by simpa using m2]
                        exact q
                    refine ⟨y, rfl, y, .ty "tuple", _, _, _, rfl, .ty _, tyD hd', kitT d, _, rfl, ?_⟩
                    cases d with
                    | none => exact kr H' _ sm hm rfl
                    | bool _ => exact kr H' _ sm hm rfl
                    | int _ => exact kr H' _ sm hm rfl
                    | str _ => exact kr H' _ sm hm rfl
                    | list _ => exact kr H' _ sm hm rfl
                    | dict _ => exact kr H' _ sm hm rfl
                    | tuple zs =>
                      obtain ⟨c, us, rfl, nb4, hs4, ha4, hl4⟩ := hd'.tup_ref
                      rw [nodes_tup] at hmn
                      have lzs := len_nodes zs
                      have hz4 : zs.length < sizeLine := Nat.lt_of_le_of_lt (show zs.length ≤ 100000 by omega) (by decide)
                      have er : crowD L rs.length (.tuple zs) = (decide (zs.length = wide L) && zs.all fun x => numD x 0 ((rs.length : Int) - 1)) := rfl
                      refine ⟨.ref c, rfl, c, us, rfl, .inr hs4, _, rfl, rfl, _, rfl, ite2 (fun h11 => ?_) (fun h11 => ?_)⟩
                      · refine kr H' _ sm hm ?_
                        rw [er, decide_eq_false, Bool.false_and]
                        intro q
                        rw [hl4, q, ew, decide_eq_true rfl] at h11
                        cases h11
                      · have h12 : zs.length = wide L := by
                          rw [← hl4, ← ew]
                          by_cases z : us.length = ((colsS L).map V.str).length
                          · exact z
                          · exfalso
                            apply h11
                            have z2 : ¬ (V.int (us.length : Int) = V.int (((colsS L).map V.str).length : Int)) := fun q => z (by have := V.int.inj q; omega)
                            rw [decide_eq_false z2]
                            rfl
                        rw [decide_eq_true h12, Bool.true_and] at er
                        have ey : (ys.length : Int) = rs.length := by omega
                        refine ⟨.ref c, rfl, c, rfl, ⟨us, hs4⟩, fun D hD => ?_⟩
                        refine lc_tup (K := K) (a := c) (xs := us) (FInv (fun x => numD x 0 ((rs.length : Int) - 1)) zs H' D) (fstart hD) (fun i H2 _ q => same_seqT q.1 hs4) ?_ ?_
                        · rintro i y H2 hy p
                          obtain ⟨d, hm2, hd3, f1, f2⟩ := fturn ha4 hz4 hD hy p
                          refine ⟨rfl, y, rfl, _, rfl, _, 1, rfl, rfl, B, y, d, 0, _, rfl, hd3, _, rfl, ?_⟩
                          rw [ey]
                          refine ite2 (fun h13 => ?_) (fun h13 => ?_)
                          · exact ⟨y, rfl, f2 H2 (Same.refl H2) (not_cases h13)⟩
                          · exact f1 H2 (Same.refl H2) (not_cases' h13)
                        · rintro H3 p
                          obtain ⟨sm3, acc, hS3, hdec⟩ := fend (K := K) hl4 p
                          refine ⟨Nat.zero_le _, fun E1 hE1 => ?_⟩
                          refine ⟨D, E1, acc, rfl, rfl, L2.Same.seq (same_new hE1) hS3, SqL.of upd_same, _, rfl, ?_⟩
                          rw [hdec]
                          have sm4 : Same H' (upd H3 E1 (.lst [])) := L2.Same.trans sm3 (same_new hE1)
                          refine ite2 (fun h13 => ?_) (fun h13 => ?_)
                          · exact kr _ _ (L2.Same.trans sm sm4) hm (er.trans (not_cases h13))
                          · exact nxt _ sm4 (er.trans (not_cases' h13))
                  · rintro σ H1 ⟨sm, ⟨z, rfl⟩, hall⟩
                    rw [hl2, List.take_length] at hall
                    have h10 : rs.all (crowD L rs.length) = true := List.all_eq_true.mpr hall
                    have kk3 : ∀ (H' : Hp) (z : Option Str), Same H H' → mends rs.length e = z → Q (optV z) H' := fun H' z sm q => by
                      refine kk2 H' z sm ?_
                      rw [if_pos h10]
                      exact q
                    have hsA := same_seqT sm hs
                    have hsB := same_seqT sm hs2
                    have hde1 := same_dt sm hde
                    refine ⟨.ref a, rfl, a, _, 2, ve, rfl, rfl, hsA, ge, ve, .ty "tuple", _, _, _, rfl, .ty _, tyD hde1, kitT e, _, rfl, ?_⟩
                    cases e with
                    | none => exact kk3 H1 (some "verdicts") sm rfl
                    | bool _ => exact kk3 H1 (some "verdicts") sm rfl
                    | int _ => exact kk3 H1 (some "verdicts") sm rfl
                    | str _ => exact kk3 H1 (some "verdicts") sm rfl
                    | list _ => exact kk3 H1 (some "verdicts") sm rfl
                    | dict _ => exact kk3 H1 (some "verdicts") sm rfl
                    | tuple es =>
                      obtain ⟨c, us, rfl, nb3, hs3, ha3, hl3⟩ := hde1.tup_ref
                      rw [nodes_tup] at hsz
                      have les := len_nodes es
                      refine ⟨.ref a, rfl, a, _, 2, _, rfl, rfl, hsA, ge, c, us, rfl, .inr hs3, _, rfl, rfl, _, rfl, ite2 (fun h11 => ?_) (fun h11 => ?_)⟩
                      · refine kk3 H1 (some "verdicts") sm ?_
                        unfold mends
                        show (if es.length = rs.length then _ else _) = _
                        rw [if_neg]
                        intro q
                        rw [hl3, hl2, q, decide_eq_true rfl] at h11
                        cases h11
                      · have h12 : es.length = rs.length := by
                          rw [← hl3, ← hl2]
                          by_cases z : us.length = ys.length
                          · exact z
                          · exfalso
                            apply h11
                            have z2 : ¬ (V.int (us.length : Int) = V.int (ys.length : Int)) := fun q => z (by have := V.int.inj q; omega)
                            rw [decide_eq_false z2]
                            rfl
                        have m5 : mends rs.length (.tuple es) = (if es.all vd1 = true then (none : Option Str) else some ("verdicts" : Str)) := by
                          show (if es.length = rs.length then (if es.all vd1 = true then none else some ("verdicts" : Str)) else some "verdicts") = _
                          exact if_pos h12
                        have hz5 : es.length < sizeLine := small1000 (by omega)
                        refine ⟨.ref a, rfl, a, _, 2, _, rfl, rfl, hsA, ge, c, rfl, ⟨us, hs3⟩, fun D2 hD2 => ?_⟩
                        refine lc_tup (K := K) (a := c) (xs := us) (FInv vd1 es H1 D2) (fstart hD2) (fun i H' _ q => same_seqT q.1 hs3) ?_ ?_
                        · rintro i y H' hy p
                          obtain ⟨d, hm2, hd3, f1, f2⟩ := fturn ha3 hz5 hD2 hy p
                          refine ⟨rfl, y, rfl, 1, rfl, B, y, d, -1, 1, rfl, hd3, _, rfl, ite2 (fun h13 => ?_) (fun h13 => ?_)⟩
                          · exact ⟨y, rfl, f2 H' (Same.refl H') (not_cases h13)⟩
                          · exact f1 H' (Same.refl H') (not_cases' h13)
                        · rintro H3 p
                          obtain ⟨sm3, acc, hS3, hdec⟩ := fend (K := K) hl3 p
                          refine ⟨Nat.zero_le _, fun E1 hE1 => ?_⟩
                          refine ⟨D2, E1, acc, rfl, rfl, L2.Same.seq (same_new hE1) hS3, SqL.of upd_same, _, rfl, ?_⟩
                          rw [hdec]
                          have sm4 : Same H (upd H3 E1 (.lst [])) := L2.Same.trans sm (L2.Same.trans sm3 (same_new hE1))
                          refine ite2 (fun h13 => ?_) (fun h13 => ?_)
                          · have h13 : es.all vd1 = true := h13
                            refine kk3 _ none sm4 (m5.trans ?_)
                            rw [h13]
                            rfl
                          · have h13 : es.all vd1 = false := by
                              cases z : es.all vd1
                              · rfl
                              · exact absurd z h13
                            refine kk3 _ (some "verdicts") sm4 (m5.trans ?_)
                            rw [h13]
                            rfl
end
/-! ### words -/
def abcS (L : Int) : Str := cutS "abc" none (some L)
def LetS (L : Int) (z : Str) : Prop := ∀ c ∈ z.cps.toList, c ∈ (abcS L).cps.toList
theorem let_nil {L : Int} : LetS L "" := fun c h => by cases h
theorem let_add {L : Int} {z : Str} {c : Nat} (h : LetS L z) (hc : c ∈ (abcS L).cps.toList) : LetS L (z ++ chr1 c) := fun e he => by
  have e1 : (z ++ chr1 c).cps.toList = z.cps.toList ++ [c] := by
    show (z.cps ++ #[c]).toList = _
    simp
  rw [e1] at he
  rcases List.mem_append.mp he with he | he
  · exact h e he
  · rw [List.mem_singleton.mp he]
    exact hc
theorem len_add (z : Str) (c : Nat) : (z ++ chr1 c).length = z.length + 1 := strLen_append z (chr1 c)
theorem abc_size {L : Int} (h : 1 ≤ L) (h2 : L ≤ 3) : (abcS L).cps.size = L.toNat := by
  rcases L123 h h2 with rfl | rfl | rfl <;> decide +kernel
/-- how long the words of all letters may be that are listed -/
def WM (L : Int) (m : Nat) : Prop := (L = 1 ∧ m = 9) ∨ (L = 2 ∧ m = 5) ∨ (L = 3 ∧ m = 3)
theorem WM.pow {L : Int} {m i : Nat} (h : WM L m) (hi : i ≤ m) : L.toNat ^ i ≤ 32 := by
  rcases h with ⟨rfl, rfl⟩ | ⟨rfl, rfl⟩ | ⟨rfl, rfl⟩
  · show 1 ^ i ≤ 32
    rw [Nat.one_pow]
    decide
  · exact Nat.le_trans (Nat.pow_le_pow_right (by decide) hi) (by decide)
  · exact Nat.le_trans (Nat.pow_le_pow_right (by decide) hi) (by decide)
theorem WM.L {L : Int} {m : Nat} (h : WM L m) : 1 ≤ L ∧ L ≤ 3 := by
  rcases h with ⟨rfl, rfl⟩ | ⟨rfl, rfl⟩ | ⟨rfl, rfl⟩ <;> decide
theorem WM.m {L : Int} {m : Nat} (h : WM L m) : m ≤ 9 := by
  rcases h with ⟨rfl, rfl⟩ | ⟨rfl, rfl⟩ | ⟨rfl, rfl⟩ <;> decide
def GoodW (L : Int) (n : Nat) (ws : List Str) : Prop := ∀ z ∈ ws, LetS L z ∧ z.length ≤ n
section
variable {P : Program} {w : World} {K : PySem.W.Frag} {mg : Str → Option Value} {base : Heap}
theorem scWords : FnScope ["_law_letters", "_law_most", "_law_found", "_law_layer", "_law_extent", "_law_further", "_law_word", "_law_letter"] ["_law_letters", "_law_most"] (defScope sWords) := ⟨rfl, rfl, rfl, by decide +kernel, rfl, by decide +kernel, by decide +kernel⟩
def spWords : Sp := fun vs H Q _ => ∃ (L : Int) (m : Nat), vs = [.int L, .int m] ∧ WM L m ∧ ∀ (H' : Hp) (p : Addr) (ws : List Str), Same H H' → H p = none → H' p = some (.lst (ws.map V.str)) → ws ≠ [] → ws.length ≤ 500 → GoodW L 9 ws → Q (.ref p) H'
theorem ok_words {f : Addr} {fd : FuncData} (F : Fun K "_law_words" "_law_words" sWords f fd) (T : Mg mg) : FnOk P w K mg base CX0 1 f fd ["_law_letters", "_law_most"] spWords := by
  refine F.ok scWords (fun vs H Q E h => ?_) (fun cdv A outer s H vs Q E hr h => ?_)
  · obtain ⟨L, m, rfl, _⟩ := h
    rfl
  · obtain ⟨L, m, rfl, wm, k⟩ := h
    obtain ⟨L1, L3⟩ := wm.L
    have m9 := wm.m
    have asz := abc_size L1 L3
    refine ⟨_, pss_cons (ps_par (i := 2) (j := 3) rfl scWords.nd rfl rfl (by decide) rfl rfl (pa_cons (pe_lstA (pa_cons pe_str pa_nil)) (pa_cons (pe_lstA (pa_cons pe_str pa_nil)) pa_nil)) (by rfl))
      (pss_cons (ps_for PassesOwn.never rfl (pi_range1 (by rfl) T.range (pa_cons (pv 1) pa_nil)) (pg_name (i := 4) scWords.nd rfl (.inl rfl))
        (pss_cons (ps_set (i := 5) scWords.nd rfl (.inl rfl) (pe_lstA pa_nil))
        (pss_cons (ps_for PassesOwn.never rfl (pi_list (pv 3)) (pg_name (i := 6) scWords.nd rfl (.inr rfl))
          (pss_one (ps_expr (pe_bm PySem.F.plainAttrs_list PySem.F.slot_list_extend PySem.F.type_list_extend mt_extend (pv 5) (pa_cons (pe_lc (own := [("_law_letter", 7)]) (g := gName 7) (tt := tYes) rfl scWords.nd (pi_str (pe_slice sl_str pe_str po_none (po_some (pv 0)))) (blkOk_by (N := ["_law_letters", "_law_most", "_law_found", "_law_layer", "_law_extent", "_law_further", "_law_word", "_law_letter"]) (sc := defScope sWords) (by decide +kernel)) (fun _ _ _ _ _ => pg_name (i := 7) scWords.nd rfl (Or.inl rfl)) (fun _ _ _ _ _ => pts_nil)
            (fun _ _ _ _ _ => pe_op op_add_str (pv 6) (pv 7))) pa_nil)))))
        (pss_cons (ps_set (i := 3) scWords.nd rfl (.inl rfl) (pv 5))
        (pss_one (ps_set (i := 2) scWords.nd rfl (.inl rfl) (pe_op op_catA' (pv 2) (pv 3))))))))
      (pss_one (ps_ret (pv 2)))), ?_⟩
    refine ⟨by show 1 ≤ sizeLine; decide, fun p1 G1 s1 n1 _ l1 => ⟨by show 1 ≤ sizeLine; decide, fun p2 G2 s2 n2 _ l2 => ⟨_, _, rfl, ?_⟩⟩⟩
    refine ⟨_, rfl, (m : Int), rfl, by omega, by omega, for_range (lo := 0) (n := (m : Int).toNat) (fun i σ H' => ∃ (pf pl : Addr) (y4 y5 y6 : Option V) (fs ls : List Str), σ = [some (.int L), some (.int m), some (.ref pf), some (.ref pl), y4, y5, y6, none] ∧ Same H H' ∧ H pf = none ∧ H' pf = some (.lst (fs.map V.str)) ∧ H' pl = some (.lst (ls.map V.str)) ∧
        fs ≠ [] ∧ fs.length ≤ 1 + 32 * i ∧ ls.length = L.toNat ^ i ∧ GoodW L 9 fs ∧ GoodW L i ls)
      ⟨p1, p2, none, none, none, [""], [""], rfl, s1.trans s2, n1, s2 _ _ l1, l2, List.cons_ne_nil _ _, by decide, by rw [Nat.pow_zero]; rfl, fun z hz => ?_, fun z hz => ?_⟩ ?_ ?_⟩
    · rw [List.mem_singleton.mp hz]
      exact ⟨let_nil, by decide⟩
    · rw [List.mem_singleton.mp hz]
      exact ⟨let_nil, Nat.le_refl _⟩
    · rintro i σ H1 hi ⟨pf, pl, y4, y5, y6, fs, ls, rfl, s3, nf, lf, ll, fne, flen, llen, gf, gl⟩
      refine ⟨by show 0 ≤ sizeLine; decide, fun pu Gu su nu _ lu => ?_⟩
      refine ⟨_, rfl, pl, rfl, ⟨_, SqL.of (su _ _ ll)⟩, ?_⟩
      refine for_list (K := K) (a := pl) (xs := ls.map V.str) (fun j σ H' => ∃ (y6 : Option V) (us : List Str), σ = [some (.int L), some (.int m), some (.ref pf), some (.ref pl), some (.int (0 + i)), some (.ref pu), y6, none] ∧ Same H1 H' ∧ H' pu = some (.lst (us.map V.str)) ∧ us.length = j * L.toNat ∧ GoodW L (i + 1) us)
        ⟨y6, [], rfl, su, lu, by rw [Nat.zero_mul]; rfl, fun z hz => absurd hz List.not_mem_nil⟩ (fun j σ H' _ ⟨_, _, _, q, _⟩ => SqL.of (q _ _ ll)) ?_ ?_
      · rintro j y σ H2 hy ⟨y6, us, rfl, s4, l4, ulen, gu⟩
        obtain ⟨z, hz, rfl⟩ : ∃ z, ls[j]? = some z ∧ y = V.str z := by
          rw [List.getElem?_map] at hy
          obtain ⟨z, h1, h2⟩ := Option.map_eq_some_iff.mp hy
          exact ⟨z, h1, h2.symm⟩
        have hj : j < ls.length := (List.getElem?_eq_some_iff.mp hz).1
        obtain ⟨gz, gzl⟩ := gl z (List.mem_of_getElem? hz)
        have pw := wm.pow (i := i) (by omega)
        refine ⟨_, rfl, .inl ⟨rfl, _, SqL.of l4⟩, _, rfl, L, rfl, "abc", rfl, by show 3 ≤ sizeLine; decide, abcS L, rfl, fun D hD => ?_⟩
        refine lc_it walk_str (fun k H' => Same H2 H' ∧ ∃ vs : List Str, H' D = some (.lst (vs.map V.str)) ∧ vs.length = k ∧ GoodW L (i + 1) vs) ⟨same_new hD, [], upd_same, rfl, fun z hz => absurd hz List.not_mem_nil⟩ (fun _ _ _ _ => True.intro) ?_ ?_
        · rintro k x H0 H3 hk ⟨s5, vs, l5, vlen, gv⟩ ⟨rfl, c, hc, rfl⟩
          have hcm : c ∈ (abcS L).cps.toList := by
            have : (abcS L).cps.toList[k]? = some c := by
              rw [Array.getElem?_toList]
              exact hc
            exact List.mem_of_getElem? this
          refine ⟨rfl, _, rfl, _, rfl, z, chr1 c, rfl, rfl, ?_, _, l5, ?_, fun b o q => ?_, vs ++ [z ++ chr1 c], ?_, ?_, fun u hu => ?_⟩
          · show z.length + 1 ≤ sizeLine
            exact Nat.le_trans (show _ ≤ 100 by omega) (by decide)
          · rw [List.length_map]
            exact small1000 (by omega)
          · rw [upd_ne (ne_of_none q hD)]
            exact s5 _ _ q
          · rw [upd_same, List.map_append]
            rfl
          · rw [List.length_append, vlen]
            rfl
          · rcases List.mem_append.mp hu with hu | hu
            · exact gv u hu
            · rw [List.mem_singleton.mp hu]
              refine ⟨let_add gz hcm, ?_⟩
              rw [len_add]
              omega
        · rintro H3 ⟨s5, vs, l5, vlen, gv⟩
          refine ⟨pu, D, _, _, rfl, rfl, s5 _ _ l4, l5, ?_, some (V.str z), us ++ vs, rfl, fun b o q => ?_, ?_, ?_, fun u hu => ?_⟩
          · have a1 : j * L.toNat ≤ 32 * 3 := Nat.mul_le_mul (by omega) (by omega)
            rw [List.length_map, List.length_map]
            exact Nat.le_trans (show _ ≤ 200 by omega) (by decide)
          · rw [upd_ne (ne_of_none q nu)]
            exact s5 _ _ (s4 _ _ q)
          · rw [upd_same, List.map_append]
          · rw [List.length_append, ulen, vlen, asz, Nat.add_mul, Nat.one_mul]
          · rcases List.mem_append.mp hu with hu | hu
            · exact gu u hu
            · exact gv u hu
      · rintro σ H2 ⟨y6, us, rfl, s4, l4, ulen, gu⟩
        have pw := wm.pow (i := i + 1) (by omega)
        have ul : us.length = L.toNat ^ (i + 1) := by rw [ulen, List.length_map, llen, Nat.pow_succ]
        refine ⟨_, rfl, _, rfl, _, rfl, pf, pu, _, _, rfl, rfl, s4 _ _ lf, l4, ?_, fun q Gq sq nq _ lq => ?_⟩
        · rw [List.length_map, List.length_map]
          exact Nat.le_trans (show _ ≤ 1000 by omega) (by decide)
        · refine ⟨q, pu, some (.int (0 + i)), some (.ref pu), y6, fs ++ us, us, rfl, s3.trans (s4.trans sq), s3.free (s4.free nq), by rw [lq, List.map_append], sq _ _ l4, by simp [fne], ?_, ul, fun z hz => ?_, gu⟩
          · rw [List.length_append]
            omega
          · rcases List.mem_append.mp hz with hz | hz
            · exact gf z hz
            · obtain ⟨h1, h2⟩ := gu z hz
              exact ⟨h1, by omega⟩
    · rintro σ H1 ⟨pf, pl, y4, y5, y6, fs, ls, rfl, s3, nf, lf, ll, fne, flen, llen, gf, gl⟩
      exact ⟨_, rfl, k H1 pf fs s3 nf lf fne (by omega) gf⟩
end
/-! ### comparisons drawn -/
def rTup (K : PySem.W.Frag) : List V → Hp → VK → Prop := fun xs H Q => ∃ p ys, xs = [.ref p] ∧ ((SqL K H p ys ∧ ∀ l, H l = none → Q (.ref l) (upd H l (.tup ys))) ∨ (SqT K H p ys ∧ Q (.ref p) H))
/-- at v a row of numbers -/
def RowAt (B : Addr → Prop) (H : Hp) (v : V) (r : List Int) : Prop := ∃ q, v = .ref q ∧ ¬ B q ∧ Rd H q (.tup (r.map V.int))
theorem RowAt.keep {B : Addr → Prop} {H H' : Hp} {v : V} {r : List Int} (k : Keep B H H') (h : RowAt B H v r) : RowAt B H' v r := by
  obtain ⟨q, e, nb, hr⟩ := h
  exact ⟨q, e, nb, k.rd nb hr⟩
theorem RowAt.weak {B B' : Addr → Prop} {H : Hp} {v : V} {r : List Int} (k : ∀ b, B' b → B b) (h : RowAt B H v r) : RowAt B' H v r := by
  obtain ⟨q, e, nb, hr⟩ := h
  exact ⟨q, e, fun z => nb (k q z), hr⟩
theorem RowAt.off {B : Addr → Prop} {H : Hp} {p : Addr} {v : V} {r : List Int} (n : H p = none) (h : RowAt B H v r) : RowAt (fun b => B b ∨ b = p) H v r := by
  obtain ⟨q, e, nb, hr⟩ := h
  refine ⟨q, e, fun z => ?_, hr⟩
  rcases z with z | z
  · exact nb z
  · rw [z] at hr
    rcases hr with y | ⟨o, y⟩ <;> (rw [n] at y; cases y)
theorem paired_imp {α β : Type} {F G : α → β → Prop} (f : ∀ a b, F a b → G a b) : ∀ {xs : List α} {ys : List β}, Paired F xs ys → Paired G xs ys
  | _, _, .nil => .nil
  | _, _, .cons h t => .cons (f _ _ h) (paired_imp f t)
theorem paired_at {α β : Type} {F : α → β → Prop} : ∀ {xs : List α} {ys : List β} {i : Nat} {y : β}, Paired F xs ys → ys[i]? = some y → ∃ x, xs[i]? = some x ∧ F x y
  | _, _, _, _, .nil, e => by simp at e
  | _, _, 0, _, .cons h _, e => by
    simp at e
    subst e
    exact ⟨_, rfl, h⟩
  | _, _, i + 1, _, .cons _ t, e => by
    obtain ⟨x, h1, h2⟩ := paired_at (i := i) t (by simpa using e)
    exact ⟨x, by simpa using h1, h2⟩
/-- at v a comparison of L letters -/
structure CAt (B : Addr → Prop) (H : Hp) (v : V) (L : Int) (rws : List (List Int)) (vds : List Int) : Prop where
  at_ : ∃ p pr pv rvs, v = .ref p ∧ ¬ B p ∧ ¬ B pr ∧ ¬ B pv ∧ Rd H p (.tup [.int L, .ref pr, .ref pv]) ∧ Rd H pr (.tup rvs) ∧ Rd H pv (.tup (vds.map V.int)) ∧ Paired (RowAt B H) rvs rws
  L1 : 1 ≤ L
  L3 : L ≤ 3
  r1 : 1 ≤ rws.length
  r61 : rws.length ≤ 61
  rw : ∀ r ∈ rws, r.length = wide L ∧ ∀ x ∈ r, 0 ≤ x ∧ x < (rws.length : Int)
  vl : vds.length = rws.length
  vb : ∀ x ∈ vds, -1 ≤ x ∧ x ≤ 1
section
variable {B : Addr → Prop} {H H' : Hp} {v : V} {L : Int} {rws : List (List Int)} {vds : List Int} {K : PySem.W.Frag}
theorem CAt.keep (k : Keep B H H') (h : CAt B H v L rws vds) : CAt B H' v L rws vds := by
  obtain ⟨⟨p, pr, pv, rvs, e, n1, n2, n3, h1, h2, h3, h4⟩, a, b, c, d, e1, f, g⟩ := h
  exact ⟨⟨p, pr, pv, rvs, e, n1, n2, n3, k.rd n1 h1, k.rd n2 h2, k.rd n3 h3, paired_imp (fun _ _ => RowAt.keep k) h4⟩, a, b, c, d, e1, f, g⟩
theorem CAt.off {p : Addr} (n : H p = none) (h : CAt B H v L rws vds) : CAt (fun b => B b ∨ b = p) H v L rws vds := by
  obtain ⟨⟨q, pr, pv, rvs, e, n1, n2, n3, h1, h2, h3, h4⟩, a, b, c, d, e1, f, g⟩ := h
  have no : ∀ {x : Addr} {o : HO}, ¬ B x → Rd H x o → ¬ (B x ∨ x = p) := fun nb hr z => by
    rcases z with z | z
    · exact nb z
    · rw [z] at hr
      rcases hr with y | ⟨o, y⟩ <;> (rw [n] at y; cases y)
  exact ⟨⟨q, pr, pv, rvs, e, no n1 h1, no n2 h2, no n3 h3, h1, h2, h3, paired_imp (fun _ _ => RowAt.off n) h4⟩, a, b, c, d, e1, f, g⟩
theorem dt_row (h : RowAt B H v r) : Dt B K H v (.tuple (r.map PyData.int)) := by
  obtain ⟨q, rfl, nb, hr⟩ := h
  have di : ∀ ks : List Int, DtAll B K H (ks.map V.int) (ks.map PyData.int) := fun ks => by
    induction ks with
    | nil => exact .nil
    | cons k ks ih => exact .cons (.int k) ih
  exact .tup nb hr (di r)
theorem dt_intsB (ks : List Int) : DtAll B K H (ks.map V.int) (ks.map PyData.int) := by
  induction ks with
  | nil => exact .nil
  | cons k ks ih => exact .cons (.int k) ih
def compD (L : Int) (rws : List (List Int)) (vds : List Int) : PyData := .tuple [.int L, .tuple (rws.map fun r => .tuple (r.map PyData.int)), .tuple (vds.map PyData.int)]
theorem CAt.dt (h : CAt B H v L rws vds) : Dt B K H v (compD L rws vds) := by
  obtain ⟨⟨p, pr, pv, rvs, rfl, n1, n2, n3, h1, h2, h3, h4⟩, _⟩ := h
  have dr : ∀ {xs : List V} {rs : List (List Int)}, Paired (RowAt B H) xs rs → DtAll B K H xs (rs.map fun r => PyData.tuple (r.map PyData.int)) := fun h => by
    induction h with
    | nil => exact .nil
    | cons a _ ih => exact .cons (dt_row a) ih
  exact .tup n1 h1 (.cons (.int L) (.cons (.tup n2 h2 (dr h4)) (.cons (.tup n3 h3 (dt_intsB vds)) .nil)))
theorem nodes_ints : ∀ ks : List Int, nodesAll (ks.map PyData.int) = ks.length
  | [] => rfl
  | k :: ks => by rw [List.map_cons, nodesAll_cons, nodes_ints ks, nodes, List.length_cons]; omega
theorem CAt.nodes (h : CAt B H v L rws vds) : nodes (compD L rws vds) ≤ 2000 := by
  have hw : wide L ≤ 15 := by
    rcases L123 h.L1 h.L3 with e | e | e <;> (rw [e]; decide)
  have hr : ∀ rs : List (List Int), (∀ r ∈ rs, r.length = wide L) → nodesAll (rs.map fun r => PyData.tuple (r.map PyData.int)) ≤ 16 * rs.length := by
    intro rs
    induction rs with
    | nil => intro _; exact Nat.le_refl _
    | cons r rs ih =>
      intro hh
      have := ih fun x hx => hh x (List.mem_cons_of_mem _ hx)
      have e := hh r List.mem_cons_self
      rw [List.map_cons, nodesAll_cons, nodes_tup, nodes_ints, List.length_cons]
      omega
  have h1 := hr rws fun r hr => (h.rw r hr).1
  have h2 := h.r61
  have h3 := h.vl
  rw [compD, nodes_tup, nodesAll_cons, nodesAll_cons, nodesAll_cons, nodesAll_nil, nodes_tup, nodes_tup, nodes_ints, Ver.nodes]
  omega
end
/-! ### _law_comp -/
def B3 (a c R : Addr) : Addr → Prop := fun b => Bd a c b ∨ b = R
def Gk (m : Int) (v : V) : Prop := ∃ k : Int, v = .int k ∧ 0 ≤ k ∧ k < m
theorem gk_list {m : Int} : ∀ {acc : List V}, (∀ v ∈ acc, Gk m v) → ∃ r : List Int, acc = r.map V.int ∧ ∀ x ∈ r, 0 ≤ x ∧ x < m
  | [], _ => ⟨[], rfl, fun x z => absurd z List.not_mem_nil⟩
  | v :: acc, h => by
    obtain ⟨r, e, hr⟩ := gk_list (acc := acc) fun u hu => h u (List.mem_cons_of_mem _ hu)
    obtain ⟨k, rfl, k0, k1⟩ := h v List.mem_cons_self
    refine ⟨k :: r, by rw [e]; rfl, fun x hx => ?_⟩
    rcases List.mem_cons.mp hx with hx | hx
    · rw [hx]
      exact ⟨k0, k1⟩
    · exact hr x hx
def RInv (a c D : Addr) (H : Hp) (L m n0 : Int) (i : Nat) (H' : Hp) : Prop :=
  ∃ (cells : List Int) (n' : Int) (rvs : List V) (rws : List (List Int)), DeckAt a c cells n' H' ∧ n0 ≤ n' ∧ n' ≤ n0 + 20 * i ∧ Keep (Bd a c) H H' ∧ H' D = some (.lst rvs) ∧ Paired (RowAt (B3 a c D) H') rvs rws ∧ rws.length = i ∧ ∀ r ∈ rws, r.length = wide L ∧ ∀ x ∈ r, 0 ≤ x ∧ x < m
theorem rturn {a c D q : Addr} {H H1 H2 : Hp} {L m n0 n1 n2 : Int} {i : Nat} {rvs : List V} {r : List Int} {rws : List (List Int)} {cells2 : List Int} (hD0 : H D = none) (nD : ¬ Bd a c D) (hi : i ≤ 100) (h0 : n0 ≤ n1) (h1 : n1 ≤ n0 + 20 * i) (kp : Keep (Bd a c) H H1) (hD : H1 D = some (.lst rvs))
    (hp : Paired (RowAt (B3 a c D) H1) rvs rws) (hl : rws.length = i) (hr : ∀ r ∈ rws, r.length = wide L ∧ ∀ x ∈ r, 0 ≤ x ∧ x < m) (k2 : Keep (Bd a c) H1 H2) (dk : DeckAt a c cells2 n2 H2) (h2 : n1 ≤ n2) (h3 : n2 ≤ n1 + 20) (hw : r.length = wide L) (hx : ∀ x ∈ r, 0 ≤ x ∧ x < m) (hq : H2 q = none) :
    ∃ rvs', (upd H2 q (.tup (r.map V.int))) D = some (.lst rvs') ∧ rvs'.length < sizeLine ∧ RInv a c D H L m n0 (i + 1) (upd (upd H2 q (.tup (r.map V.int))) D (.lst (rvs' ++ [.ref q]))) := by
  have hD2 := k2 _ _ nD hD
  have nq : D ≠ q := ne_of_none hD2 hq
  have k3 : Keep (B3 a c D) H1 (upd (upd H2 q (.tup (r.map V.int))) D (.lst (rvs ++ [.ref q]))) := fun b o nb z => by
    rw [upd_ne (fun z : b = D => nb (.inr z)), upd_ne (ne_of_none (k2 _ _ (fun z => nb (.inl z)) z) hq)]
    exact k2 _ _ (fun z => nb (.inl z)) z
  have hlv := hp.length
  refine ⟨rvs, by rw [upd_ne nq]; exact hD2, small1000 (by omega), cells2, n2, rvs ++ [.ref q], rws ++ [r], deck_upd (deck_new dk hq) nD, by omega, by omega, fun b o nb z => ?_, upd_same, (paired_imp (fun _ _ => RowAt.keep k3) hp).snoc ⟨q, rfl, ?_, .inl ?_⟩, ?_, fun r2 hr2 => ?_⟩
  · rw [upd_ne (ne_of_none z hD0), upd_ne (ne_of_none (k2 _ _ nb (kp _ _ nb z)) hq)]
    exact k2 _ _ nb (kp _ _ nb z)
  · rintro (z | z)
    · exact deck_off dk hq z
    · exact nq z.symm
  · rw [upd_ne nq.symm, upd_same]
  · rw [List.length_append, hl]
    rfl
  · rcases List.mem_append.mp hr2 with hr2 | hr2
    · exact hr r2 hr2
    · rw [List.mem_singleton.mp hr2]
      exact ⟨hw, hx⟩
section
variable {P : Program} {w : World} {K : PySem.W.Frag} {mg : Str → Option Value} {base : Heap}
def lcScope : Expr → Scope
  | .ListComp _ _ sc _ => sc
  | _ => defScope sComp
def asgVal : Stmt → Expr
  | .Assign _ e _ => e
  | _ => .Constant .none 0 ⟨0, 0, 0, 0⟩
abbrev outerSc : Scope := lcScope (asgVal ((defBody sComp).getD 0 (.Pass ⟨0, 0, 0, 0⟩)))
theorem scComp : FnScope ["_law_deck_here", "_law_letters", "_law_many", "_law_rows", "_law_column", "_law_row"] ["_law_deck_here", "_law_letters", "_law_many"] (defScope sComp) := ⟨rfl, rfl, rfl, by decide +kernel, rfl, by decide +kernel, by decide +kernel⟩
def spComp : Sp := fun vs H Q _ => ∃ (a c : Addr) (cells : List Int) (n L m : Int), vs = [.ref a, .int L, .int m] ∧ DeckAt a c cells n H ∧ 0 ≤ n ∧ n ≤ 900000 ∧ 1 ≤ L ∧ L ≤ 3 ∧ 1 ≤ m ∧ m ≤ 61 ∧
  ∀ (H' : Hp) (cells' : List Int) (n' : Int) (v : V) (rws : List (List Int)) (vds : List Int), DeckAt a c cells' n' H' → n ≤ n' → n' ≤ n + 1500 → Keep (Bd a c) H H' → CAt (Bd a c) H' v L rws vds → (rws.length : Int) = m → Q v H'
theorem ok_comp {f fD fO fC : Addr} {fd fdD fdO fdC : FuncData} (F : Fun K "_law_comp" "_law_comp" sComp f fd) (D : FnOk P w K mg base CX0 1 fD fdD ["_law_deck_here", "_law_most"] spDraw) (FD : Fun K "_law_draw" "_law_draw" sDraw fD fdD) (bD : Binds K fdD ["_law_deck_here", "_law_most"] []) (gD : mg "_law_draw" = some (.ref fD))
    (O : FnOk P w K mg base CX0 2 fO fdO ["_law_deck_here", "_law_items"] (spOne K)) (FO : Fun K "_law_one" "_law_one" sOne fO fdO) (bO : Binds K fdO ["_law_deck_here", "_law_items"] []) (gO : mg "_law_one" = some (.ref fO))
    (CL : FnOk P w K mg base CX0 1 fC fdC ["_law_letters"] spColsL) (FC : Fun K "_law_columns" "_law_columns" sColsL fC fdC) (bC : Binds K fdC ["_law_letters"] []) (gC : mg "_law_columns" = some (.ref fC)) (T : Mg mg) : FnOk P w K mg base CX0 3 f fd ["_law_deck_here", "_law_letters", "_law_many"] spComp := by
  refine F.ok scComp (fun vs H Q E h => ?_) (fun cdv A outer s H vs Q E hr h => ?_)
  · obtain ⟨a, c, cells, n, L, m, rfl, _⟩ := h
    rfl
  · obtain ⟨a, c, cells, n, L, m, rfl, dk, n0, n1, L1, L3, m1, m61, k⟩ := h
    have w15 : wide L ≤ 15 := by
      rcases L123 L1 L3 with e | e | e <;> (rw [e]; decide)
    refine ⟨_, pss_cons (ps_setLc (i := 3) (own := [("_law_row", 5)]) (g := gName 5) (tt := tYes) rfl scComp.nd rfl rfl (sw_true rfl rfl rfl (by decide +kernel)) (pi_range1 (by rfl) T.range (pa_cons (pv 2) pa_nil)) (blkOk_by (N := ["_law_deck_here", "_law_letters", "_law_many", "_law_rows", "_law_column", "_law_row"]) (sc := defScope sComp) (by decide +kernel)) (fun _ _ _ _ _ => pg_name (i := 5) scComp.nd rfl (Or.inl rfl)) (fun _ _ _ _ _ => pts_nil)
        (fun _ _ _ _ _ => pe_callTy (r := rTup K) call_tuple_of (by rfl) T.tuple PyProof.Rows.boot_tuple (pa_cons (pe_lc (wi := iList K _) (own := [("_law_column", 4)]) (g := gName 4) (tt := tYes) rfl scComp.nd (pi_list (pe_call CL (hr.mono (by decide)) (by rfl) gC FC.kp bC .nil pass0 (pa_cons (pv 1) pa_nil))) (blkOk_by (by kernel_rfl)) (fun _ _ _ _ _ => pg_name (i := 4) scComp.nd rfl (Or.inl rfl)) (fun _ _ _ _ _ => pts_nil)
          (fun _ _ _ _ _ => pe_call D (hr.mono (by decide)) (by rfl) gD FD.kp bD .nil pass0 (pa_cons (pv 0) (pa_cons (pv 2) pa_nil)))) pa_nil)))
      (pss_one (ps_ret (pe_tup (pa_cons (pv 1) (pa_cons (pe_callTy (r := rTup K) call_tuple_of (by rfl) T.tuple PyProof.Rows.boot_tuple (pa_cons (pv 3) pa_nil)) (pa_cons (pe_op op_catS (pe_tup (pa_cons (pe_call O hr (by rfl) gO FO.kp bO .nil pass0 (pa_cons (pv 0) (pa_cons (pe_lstA (pa_cons pe_int (pa_cons pe_int (pa_cons pe_int pa_nil)))) pa_nil))) pa_nil))
        (pe_callTy (r := rTup K) call_tuple_of (by rfl) T.tuple PyProof.Rows.boot_tuple (pa_cons (pe_lc (own := [("_law_row", 5)]) (g := gName 5) (tt := tYes) rfl scComp.nd (pi_range1 (by rfl) T.range (pa_cons (pe_op op_sub (pv 2) pe_int) pa_nil)) (blkOk_by (N := ["_law_deck_here", "_law_letters", "_law_many", "_law_rows", "_law_column", "_law_row"]) (sc := defScope sComp) (by decide +kernel)) (fun _ _ _ _ _ => pg_name (i := 5) scComp.nd rfl (Or.inl rfl)) (fun _ _ _ _ _ => pts_nil)
          (fun _ _ _ _ _ => pe_op op_sub (pe_call D (hr.mono (by decide)) (by rfl) gD FD.kp bD .nil pass0 (pa_cons (pv 0) (pa_cons pe_int pa_nil))) pe_int)) pa_nil))) pa_nil)))))), ?_⟩
    refine ⟨_, rfl, m, rfl, by omega, by omega, fun D1 hD => ?_⟩
    refine lc_range (lo := 0) (n := m.toNat) (fun j H' => RInv a c D1 H L m n j H') ⟨cells, n, [], [], deck_new dk hD, Int.le_refl _, by omega, keep_new hD, upd_same, .nil, rfl, fun r z => absurd z List.not_mem_nil⟩ ?_ ?_
    · rintro j H1 hj ⟨cells1, n1', rvs, rws, dk1, h01, h02, kp, hD1, hpr, hl1, hr1⟩
      refine ⟨rfl, _, rfl, L, rfl, L1, L3, fun Hc pc sc nc lc => ⟨pc, rfl, ⟨_, SqL.of lc⟩, fun D2 hD2 => ?_⟩⟩
      have dkc := deck_same sc dk1
      have ncb := deck_off dk1 nc
      refine lc_list (K := K) (a := pc) (xs := (colsS L).map V.str) (CInv a c D2 Hc (Gk m) n1' 1) (cstart dkc hD2) (fun i H' _ q => ?_) ?_ ?_
      · obtain ⟨_, _, _, _, _, _, q, _⟩ := q
        exact SqL.of (q _ _ ncb lc)
      · rintro i x H2 hx ⟨cells2, n2, acc, dk2, g0, g1, k2, hD2', hl2, hG⟩
        have hi := (List.getElem?_eq_some_iff.mp hx).1
        rw [List.length_map, cols_len L1 L3] at hi
        refine ⟨rfl, _, rfl, _, rfl, a, c, cells2, n2, m, rfl, dk2, m1, by omega, by omega, by omega, fun H3 cells3 r r0 r3 dk3 k3 => ?_⟩
        exact cstep hD2 (deck_off dkc hD2) (by omega) g0 g1 k2 hD2' hl2 hG dk3 (by omega) (by omega) k3 ⟨r, rfl, r0, r3⟩
      · rintro H2 ⟨cells2, n2, acc, dk2, g0, g1, k2, hD2', hl2, hG⟩
        rw [List.length_map, cols_len L1 L3] at g1 hl2
        obtain ⟨r, rfl, hr⟩ := gk_list hG
        rw [List.length_map] at hl2
        exact ⟨D2, _, rfl, .inl ⟨SqL.of hD2', fun q hq => rturn hD (deck_off dk hD) (by omega) h01 h02 kp hD1 hpr hl1 hr1 ((Keep.same sc).trans k2) dk2 (by omega) (by omega) hl2 hr hq⟩⟩
    · rintro H1 ⟨cells1, n1', rvs, rws, dk1, h01, h02, kp, hD1, hpr, hl1, hr1⟩
      refine ⟨_, rfl, _, rfl, D1, rvs, rfl, .inl ⟨SqL.of hD1, fun q1 hq1 => ?_⟩⟩
      have dkA := deck_new (o := .tup rvs) dk1 hq1
      have sA := same_new (o := .tup rvs) hq1
      have rA : Rd (upd H1 q1 (.tup rvs)) q1 (.tup rvs) := .inl upd_same
      have nb1 := deck_off dk1 hq1
      refine ⟨_, rfl, by show 3 ≤ sizeLine; decide, fun p2 G2 s2 np2 ns2 lp2 => ?_⟩
      have dkB := deck_same s2 dkA
      refine ⟨a, c, p2, cells1, n1', _, rfl, dkB, by omega, by omega, SqL.of lp2, deck_off dkA np2, List.cons_ne_nil _ _, by decide, fun H3 cells3 x hx dk3 k3 => ?_⟩
      obtain ⟨x0, rfl, hx0⟩ : ∃ x0 : Int, x = .int x0 ∧ -1 ≤ x0 ∧ x0 ≤ 1 := by
        simp only [List.mem_cons, List.not_mem_nil, or_false] at hx
        rcases hx with hx | hx | hx <;> exact ⟨_, hx, by decide, by decide⟩
      refine ⟨by show 1 ≤ sizeLine; decide, fun q2 hq2 => ?_⟩
      have dkC := deck_new (o := .tup [V.int x0]) dk3 hq2
      have nb2 := deck_off dk3 hq2
      have sC := same_new (o := .tup [V.int x0]) hq2
      have rC : Rd (upd H3 q2 (.tup [V.int x0])) q2 (.tup [V.int x0]) := .inl upd_same
      have kC : Keep (Bd a c) H1 (upd H3 q2 (.tup [V.int x0])) := (Keep.same (L2.Same.trans sA s2)).trans (k3.trans (Keep.same sC))
      have kA : Keep (Bd a c) (upd H1 q1 (.tup rvs)) (upd H3 q2 (.tup [V.int x0])) := (Keep.same s2).trans (k3.trans (Keep.same sC))
      refine ⟨_, rfl, m, 1, rfl, rfl, m - 1, rfl, by omega, by omega, fun D3 hD3 => ?_⟩
      generalize hG4 : upd H3 q2 (.tup [V.int x0]) = G4 at *
      refine lc_range (lo := 0) (n := (m - 1).toNat) (CInv a c D3 G4 (fun v => ∃ k : Int, v = .int k ∧ -1 ≤ k ∧ k ≤ 1) (n1' + 1) 1) (cstart dkC hD3) ?_ ?_
      · rintro i H2 hi ⟨cells2, n2, acc, dk2, g0, g1, k2, hD2', hl2, hG⟩
        refine ⟨rfl, _, rfl, a, c, cells2, n2, 3, rfl, dk2, by decide, by decide, by omega, by omega, fun H5 cells5 r r0 r3 dk5 k5 => ⟨r, 1, rfl, rfl, ?_⟩⟩
        exact cstep hD3 (deck_off dkC hD3) (by omega) g0 g1 k2 hD2' hl2 hG dk5 (by omega) (by omega) k5 ⟨r - 1, rfl, by omega, by omega⟩
      · rintro H2 ⟨cells2, n2, acc, dk2, g0, g1, k2, hD2', hl2, hG⟩
        obtain ⟨ks, rfl, hk⟩ : ∃ ks : List Int, acc = ks.map V.int ∧ ∀ x ∈ ks, -1 ≤ x ∧ x ≤ 1 := by
          clear hl2 hD2'
          induction acc with
          | nil => exact ⟨[], rfl, fun x z => absurd z List.not_mem_nil⟩
          | cons v acc ih =>
            obtain ⟨ks, e, h1⟩ := ih fun u hu => hG u (List.mem_cons_of_mem _ hu)
            obtain ⟨y, e2, h2⟩ := hG v List.mem_cons_self
            refine ⟨y :: ks, by rw [e, e2]; rfl, fun x hx => ?_⟩
            rcases List.mem_cons.mp hx with hx | hx
            · rw [hx]
              exact h2
            · exact h1 x hx
        rw [List.length_map] at hl2
        refine ⟨D3, _, rfl, .inl ⟨SqL.of hD2', fun q3 hq3 => ?_⟩⟩
        have s5 := same_new (o := .tup (ks.map V.int)) hq3
        have nb3 := deck_off dk2 hq3
        refine ⟨q2, q3, _, _, rfl, rfl, (k2.trans (Keep.same s5)).rd nb2 rC, .inl upd_same, ?_, fun q4 H6 s6 hq6 w6 => ?_⟩
        · rw [List.length_map, List.length_singleton, hl2]
          exact sz_of (by omega)
        · have nb4 : ¬ Bd a c q4 := by
            rcases w6 with e | e | e
            · rw [e]
              exact nb2
            · rw [e]
              exact nb3
            · exact deck_off (deck_new dk2 hq3) e
          have dk6 := deck_same s6 (deck_new (o := .tup (ks.map V.int)) dk2 hq3)
          refine ⟨by show 3 ≤ sizeLine; decide, fun qf hqf => ?_⟩
          have s7 := same_new (o := .tup [.int L, .ref q1, .ref q4]) hqf
          have k47 : Keep (Bd a c) G4 (upd H6 qf (.tup [.int L, .ref q1, .ref q4])) := k2.trans (Keep.same (L2.Same.trans s5 (L2.Same.trans s6 s7)))
          refine k _ cells2 n2 (.ref qf) rws (x0 :: ks) (deck_new dk6 hqf) (by omega) (by omega) ((kp.trans kC).trans k47) ⟨⟨qf, q1, q4, rvs, rfl, deck_off dk6 hqf, nb1, nb4, .inl upd_same, (kA.trans k47).rd nb1 rA, same_rd s7 hq6, ?_⟩, L1, L3, by omega, by omega, fun r hr => ?_, ?_, fun y hy => ?_⟩ ?_
          · exact paired_imp (fun _ _ h => RowAt.keep (kC.trans k47) (RowAt.weak (fun b z => .inl z) h)) hpr
          · obtain ⟨e1, e2⟩ := hr1 r hr
            refine ⟨e1, fun x hx => ?_⟩
            have := e2 x hx
            omega
          · rw [List.length_cons, hl2]
            omega
          · rcases List.mem_cons.mp hy with hy | hy
            · rw [hy]
              exact hx0
            · exact hk y hy
          · omega
end
/-! ### words, repeated, sign by sign -/
section
variable {X : Cx}
theorem op_strRep : OpR X (binaryOp .Mult) (fun x y H Q => ∃ z k, x = .str z ∧ y = .int k ∧ MulOk z k ∧ Q (.str (Txt.mul z k)) H) := by
  intro pins s σ H x y v u Q I rx ry h
  obtain ⟨z, k, rfl, rfl, hm, q⟩ := h
  obtain ⟨t, rfl⟩ := rx
  obtain ⟨t', rfl⟩ := ry
  exact SB.mul hm (fun t' tk => ⟨.str (Txt.mul z k), H, I.tok _, ⟨_, rfl⟩, q⟩)
theorem mt_ljustF : MtR X "str.ljust" (fun x xs H Q => ∃ (a : Str), x = .str a ∧ xs = [.int 1, .str "."] ∧ Q (.str (Txt.ljustF a 1 46)) H) := by
  intro pins s σ H x xs v us Q I rx rs h
  obtain ⟨a, rfl, rfl, h⟩ := h
  obtain ⟨t, rfl⟩ := rx
  cases rs with
  | cons r1 rs =>
    cases rs with
    | cons r2 rs =>
      cases rs
      obtain ⟨u, rfl⟩ := r1
      obtain ⟨z, rfl⟩ := r2
      exact ljust_fill rfl rfl fun t' k => ⟨.str _, H, I.tok k, ⟨_, rfl⟩, h⟩
end
/-- the number of the sign at a place of a word; behind the word the number of letters -/
def sgn (L : Int) (z : Str) (k : Nat) : Nat := match z.cps.toList[k]? with
  | some c => c - 97
  | none => L.toNat
def sgAt (L : Int) (i : Nat) : Nat := (sgs L).getD i 0
theorem abc_mem {L : Int} (h : 1 ≤ L) (h2 : L ≤ 3) : ∀ c ∈ (abcS L).cps.toList, 97 ≤ c ∧ c < 97 + L.toNat ∧ sgAt L (c - 97) = c := by
  rcases L123 h h2 with rfl | rfl | rfl <;> decide +kernel
theorem sg_end {L : Int} (h : 1 ≤ L) (h2 : L ≤ 3) : sgAt L L.toNat = 46 := by
  rcases L123 h h2 with rfl | rfl | rfl <;> decide +kernel
theorem sgn_lt {L : Int} {z : Str} (h : 1 ≤ L) (h2 : L ≤ 3) (hz : LetS L z) {k : Nat} (hk : k < z.length) : sgn L z k < L.toNat ∧ z.cps.toList[k]? = some (97 + sgn L z k) ∧ sgAt L (sgn L z k) = 97 + sgn L z k := by
  have hk : k < z.cps.toList.length := by
    rw [Array.length_toList]
    exact hk
  have e : z.cps.toList[k]? = some z.cps.toList[k] := List.getElem?_eq_getElem hk
  obtain ⟨a1, a2, a3⟩ := abc_mem h h2 _ (hz _ (List.mem_of_getElem? e))
  unfold sgn
  rw [e]
  refine ⟨by show z.cps.toList[k] - 97 < _; omega, by show some _ = some (97 + (z.cps.toList[k] - 97)); congr 1; omega, ?_⟩
  show sgAt L (z.cps.toList[k] - 97) = 97 + (z.cps.toList[k] - 97)
  rw [a3]
  omega
theorem sgn_end {L : Int} {z : Str} {k : Nat} (hk : z.length ≤ k) : sgn L z k = L.toNat := by
  have e : z.cps.toList[k]? = none := List.getElem?_eq_none (by
    rw [Array.length_toList]
    exact hk)
  unfold sgn
  rw [e]
theorem sgn_le {L : Int} {z : Str} (h : 1 ≤ L) (h2 : L ≤ 3) (hz : LetS L z) (k : Nat) : sgn L z k ≤ L.toNat := by
  by_cases hk : k < z.length
  · exact Nat.le_of_lt (sgn_lt h h2 hz hk).1
  · exact Nat.le_of_eq (sgn_end (by omega))
theorem cut_one (z : Str) (k : Nat) : cutS z (some (k : Int)) (some ((k : Int) + 1)) = ⟨((z.cps.toList.drop k).take 1).toArray⟩ := by
  unfold cutS
  rw [show ((k : Int) + 1) = ((k + 1 : Nat) : Int) from by omega, HT.sIx_nat, HT.sIx_nat]
  have el : z.length = z.cps.toList.length := (Array.length_toList).symm
  by_cases hk : k < z.length
  · rw [Nat.min_eq_left (by omega), Nat.min_eq_left (by omega), show k + 1 - k = 1 from by omega]
  · rw [Nat.min_eq_right (by omega), Nat.min_eq_right (by omega), Nat.sub_self, List.take_zero, List.drop_eq_nil_of_le (by omega), List.take_nil]
theorem piece_at {L : Int} {z : Str} (h : 1 ≤ L) (h2 : L ≤ 3) (hz : LetS L z) (k : Nat) : Txt.ljustF (cutS z (some (k : Int)) (some ((k : Int) + 1))) 1 46 = chr1 (sgAt L (sgn L z k)) := by
  rw [cut_one]
  by_cases hk : k < z.length
  · obtain ⟨_, a2, a3⟩ := sgn_lt h h2 hz hk
    obtain ⟨hl, e⟩ := List.getElem?_eq_some_iff.mp a2
    rw [List.drop_eq_getElem_cons hl, e, a3]
    rfl
  · rw [List.drop_eq_nil_of_le (by rw [Array.length_toList]; exact Nat.le_of_not_lt hk), sgn_end (by omega), sg_end h h2]
    rfl
/-- the column's place -/
def colOk (L : Int) (i j : Nat) : Bool :=
  let y := chr1 (sgAt L i) ++ chr1 (sgAt L j)
  let p := i * (L.toNat + 1) + j
  (match (colsS L)[p]? with | some z => decide (z = y) | none => false) && ((colsS L).take p).all fun z => decide (z ≠ y)
theorem col_ok {L : Int} (h : 1 ≤ L) (h2 : L ≤ 3) : ∀ i ≤ L.toNat, ∀ j ≤ L.toNat, (i < L.toNat ∨ j < L.toNat) → colOk L i j = true := by
  rcases L123 h h2 with rfl | rfl | rfl <;> decide +kernel
theorem col_at {L : Int} (h : 1 ≤ L) (h2 : L ≤ 3) {i j : Nat} (hi : i ≤ L.toNat) (hj : j ≤ L.toNat) (hij : i < L.toNat ∨ j < L.toNat) :
    (colsS L)[i * (L.toNat + 1) + j]? = some (chr1 (sgAt L i) ++ chr1 (sgAt L j)) ∧ ∀ (m : Nat) (z : Str), m < i * (L.toNat + 1) + j → (colsS L)[m]? = some z → z ≠ chr1 (sgAt L i) ++ chr1 (sgAt L j) := by
  have e := col_ok h h2 i hi j hj hij
  unfold colOk at e
  rw [Bool.and_eq_true] at e
  obtain ⟨e1, e2⟩ := e
  refine ⟨?_, fun m z hm hz => ?_⟩
  · cases q : (colsS L)[i * (L.toNat + 1) + j]? with
    | none => rw [q] at e1; cases e1
    | some z =>
      rw [q] at e1
      rw [of_decide_eq_true e1]
  · have q := List.all_eq_true.mp e2 z (List.mem_of_getElem? (i := m) (by rw [List.getElem?_take_of_lt hm]; exact hz))
    exact of_decide_eq_true q
/-! ### what the rows lead to -/
def goRow (L : Int) (rws : List (List Int)) (one other : Str) : Nat → Nat
  | 0 => 0
  | k + 1 => ((rws.getD (goRow L rws one other k) []).getD (sgn L one k * (L.toNat + 1) + sgn L other k) 0).toNat
theorem wide_nat {L : Int} (h : 1 ≤ L) (h2 : L ≤ 3) : wide L = L.toNat * (L.toNat + 1) + L.toNat := by
  rcases L123 h h2 with rfl | rfl | rfl <;> decide
theorem col_lt {n i j : Nat} (hi : i ≤ n) (hj : j ≤ n) (h : i < n ∨ j < n) : i * (n + 1) + j < n * (n + 1) + n := by
  rcases h with h | h
  · have a1 : (i + 1) * (n + 1) ≤ n * (n + 1) := Nat.mul_le_mul_right _ h
    rw [Nat.succ_mul] at a1
    omega
  · have a1 : i * (n + 1) ≤ n * (n + 1) := Nat.mul_le_mul_right _ hi
    omega
theorem go_step {L : Int} {rws : List (List Int)} {one other : Str} (h : 1 ≤ L) (h2 : L ≤ 3) (h3 : 1 ≤ rws.length) (hr : ∀ r ∈ rws, r.length = wide L ∧ ∀ x ∈ r, 0 ≤ x ∧ x < (rws.length : Int)) (ho : LetS L one) (ht : LetS L other) {k : Nat} (hg : goRow L rws one other k < rws.length) (hk : k < one.length ∨ k < other.length) :
    ∃ (r : List Int), rws[goRow L rws one other k]? = some r ∧ r[sgn L one k * (L.toNat + 1) + sgn L other k]? = some (goRow L rws one other (k + 1) : Int) ∧ goRow L rws one other (k + 1) < rws.length ∧ (sgn L one k < L.toNat ∨ sgn L other k < L.toNat) := by
  have hs : sgn L one k < L.toNat ∨ sgn L other k < L.toNat := by
    rcases hk with hk | hk
    · exact .inl (sgn_lt h h2 ho hk).1
    · exact .inr (sgn_lt h h2 ht hk).1
  have hc := col_lt (sgn_le h h2 ho k) (sgn_le h h2 ht k) hs
  rw [← wide_nat h h2] at hc
  have e : rws[goRow L rws one other k]? = some rws[goRow L rws one other k] := List.getElem?_eq_getElem hg
  obtain ⟨rl, rx⟩ := hr _ (List.mem_of_getElem? e)
  have hc' : sgn L one k * (L.toNat + 1) + sgn L other k < (rws[goRow L rws one other k]).length := by
    rw [rl]
    exact hc
  have e2 : (rws[goRow L rws one other k])[sgn L one k * (L.toNat + 1) + sgn L other k]? = some (rws[goRow L rws one other k])[sgn L one k * (L.toNat + 1) + sgn L other k] := List.getElem?_eq_getElem hc'
  obtain ⟨x0, x1⟩ := rx _ (List.mem_of_getElem? e2)
  have e3 : (goRow L rws one other (k + 1) : Int) = (rws[goRow L rws one other k])[sgn L one k * (L.toNat + 1) + sgn L other k] := by
    show (((rws.getD (goRow L rws one other k) []).getD (sgn L one k * (L.toNat + 1) + sgn L other k) 0).toNat : Int) = _
    have q1 : rws.getD (goRow L rws one other k) [] = rws[goRow L rws one other k] := by rw [List.getD_eq_getElem?_getD, e, Option.getD_some]
    rw [q1, List.getD_eq_getElem?_getD, e2, Option.getD_some]
    omega
  refine ⟨_, e, ?_, ?_, hs⟩
  · rw [e2, e3]
  · rw [← Int.ofNat_lt, e3]
    exact x1
section
variable {P : Program} {w : World} {K : PySem.W.Frag} {mg : Str → Option Value} {base : Heap}
theorem scSign : FnScope ["word", "place", "letters"] ["word", "place", "letters"] (defScope sSignAt) := ⟨rfl, rfl, rfl, by decide +kernel, rfl, by decide +kernel, by decide +kernel⟩
def spSign : Sp := fun vs H Q _ => ∃ (z : Str) (k : Nat) (L : Int), vs = [.str z, .int k, .int L] ∧ 1 ≤ L ∧ L ≤ 3 ∧ LetS L z ∧ z.length ≤ 1000 ∧ Q (.int (sgn L z k)) H
theorem occ_abc : ∀ j ≤ 2, Builtin.Str.occurrences "abc" (chr1 (97 + j)) 0 ("abc" : Str).length 1 = [j] := by decide +kernel
theorem ok_sign {f : Addr} {fd : FuncData} (F : Fun K "sign_at" "sign_at" sSignAt f fd) (T : Mg mg) : FnOk P w K mg base CX0 1 f fd ["word", "place", "letters"] spSign := by
  refine F.ok scSign (fun vs H Q E h => ?_) (fun cdv A outer s H vs Q E hr h => ?_)
  · obtain ⟨z, k, L, rfl, _⟩ := h
    rfl
  · obtain ⟨z, k, L, rfl, L1, L3, hz, hl, q⟩ := h
    obtain ⟨tt, le⟩ := T.le
    refine ⟨_, pss_one (ps_ret (pe_ifExp (pt_cmpR op_lt (pv 1) (pe_callB call_len_str (by rfl) T.len PySem.boot_len (pa_cons (pv 0) pa_nil)) (nomark _)) (pe_bm PySem.F.plainAttrs_str PySem.F.slot_str_index PySem.F.type_str_index mt_sindex (pe_glob (v := .str "abc") (by rfl) le ⟨_, rfl⟩) (pa_cons (pe_ix ix_str (pv 0) (pv 1) (fun _ _ => rfl)) pa_nil)) (pv 2))), ?_⟩
    refine ⟨_, rfl, _, rfl, z, rfl, sz_of (by omega), _, _, rfl, rfl, _, rfl, ite2 (fun h1 => ?_) (fun h1 => ?_)⟩
    · have hk : k < z.length := by
        have := of_decide_eq_true h1
        omega
      obtain ⟨s1, s2, _⟩ := sgn_lt L1 L3 hz hk
      have hj : sgn L z k ≤ 2 := by omega
      exact ⟨rfl, _, rfl, _, rfl, z, (k : Int), 97 + sgn L z k, rfl, rfl, sz_of (by omega), atI_nat s2, "abc", _, sgn L z k, [], rfl, rfl, occ_abc _ hj, q⟩
    · have hk : z.length ≤ k := by
        have : ¬ ((k : Int) < (z.length : Int)) := fun q => h1 (decide_eq_true q)
        omega
      refine ⟨_, rfl, ?_⟩
      rw [sgn_end hk] at q
      rw [show L = ((L.toNat : Nat) : Int) by omega]
      exact q
end
section
variable {P : Program} {w : World} {K : PySem.W.Frag} {mg : Str → Option Value} {base : Heap}
def spTells (K : PySem.W.Frag) : Sp := fun vs H Q _ => ∃ (B : Addr → Prop) (v : V) (one other : Str) (L : Int) (rws : List (List Int)) (vds : List Int), vs = [v, .str one, .str other] ∧ CAt B H v L rws vds ∧ LetS L one ∧ LetS L other ∧ one.length ≤ 1000 ∧ other.length ≤ 1000 ∧
  ∀ H', Same H H' → Q (.int (vds.getD (goRow L rws one other (max one.length other.length)) 0)) H'
theorem scTells : FnScope ["comp", "one", "other", "letters", "rows", "verdicts", "row", "place"] ["comp", "one", "other"] (defScope sTells) := ⟨rfl, rfl, rfl, by decide +kernel, rfl, by decide +kernel, by decide +kernel⟩
theorem max_int (a b : Nat) : (if (b : Int) > (a : Int) then (b : Int) else (a : Int)) = ((max a b : Nat) : Int) := by
  by_cases h : (b : Int) > (a : Int)
  · rw [if_pos h, Nat.max_eq_right (by omega)]
  · rw [if_neg h, Nat.max_eq_left (by omega)]
theorem ok_tells {f fS : Addr} {fd fdS : FuncData} (F : Fun K "tells" "tells" sTells f fd) (S : FnOk P w K mg base CX0 1 fS fdS ["word", "place", "letters"] spSign) (FS : Fun K "sign_at" "sign_at" sSignAt fS fdS) (bS : Binds K fdS ["word", "place", "letters"] []) (gS : mg "sign_at" = some (.ref fS)) (T : Mg mg) :
    FnOk P w K mg base CX0 2 f fd ["comp", "one", "other"] (spTells K) := by
  refine F.ok scTells (fun vs H Q E h => ?_) (fun cdv A outer s H vs Q E hr h => ?_)
  · obtain ⟨B, v, one, other, L, rws, vds, rfl, _⟩ := h
    rfl
  · obtain ⟨B, v, one, other, L, rws, vds, rfl, hc, ho, ht, l1, l2, q⟩ := h
    obtain ⟨p, pr, pd, rvs, rfl, n1, n2, n3, h1, h2, h3, h4⟩ := hc.at_
    obtain ⟨_, L1, L3, r1, r61, hw, vl⟩ := hc
    refine ⟨_, pss_cons (ps_asg (pv 0) (pg_tup rfl (pgs_cons (pg_name (i := 3) scTells.nd rfl (.inl rfl)) (pgs_cons (pg_name (i := 4) scTells.nd rfl (.inl rfl)) (pgs_cons (pg_name (i := 5) scTells.nd rfl (.inl rfl)) pgs_nil)))))
      (pss_cons (ps_set (i := 6) scTells.nd rfl (.inl rfl) pe_int)
      (pss_cons (ps_for PassesOwn.never rfl (pi_range1 (by rfl) T.range (pa_cons (pe_callB (call_max2 rfl) (by rfl) T.max (by decide +kernel) (pa_cons (pe_callB call_len_str (by rfl) T.len PySem.boot_len (pa_cons (pv 1) pa_nil)) (pa_cons (pe_callB call_len_str (by rfl) T.len PySem.boot_len (pa_cons (pv 2) pa_nil)) pa_nil))) pa_nil)) (pg_name (i := 7) scTells.nd rfl (.inl rfl))
        (pss_one (ps_set (i := 6) scTells.nd rfl (.inl rfl) (pe_ix ix_tup (pe_ix ix_tup (pv 4) (pv 6) (fun _ _ => rfl)) (pe_op op_add (pe_op op_mul (pe_call S hr (by rfl) gS FS.kp bS .nil pass0 (pa_cons (pv 1) (pa_cons (pv 7) (pa_cons (pv 3) pa_nil)))) (pe_op op_add (pv 3) pe_int)) (pe_call S hr (by rfl) gS FS.kp bS .nil pass0 (pa_cons (pv 2) (pa_cons (pv 7) (pa_cons (pv 3) pa_nil))))) (fun _ _ => rfl)))))
      (pss_one (ps_ret (pe_ix ix_tup (pv 5) (pv 6) (fun _ _ => rfl)))))), ?_⟩
    refine ⟨_, rfl, p, _, rfl, .inl h1, rfl, _, _, rfl, _, _, rfl, _, _, rfl, rfl, ?_⟩
    refine ⟨_, rfl, one, rfl, sz_of (by omega), _, rfl, other, rfl, sz_of (by omega), _, _, rfl, ?_⟩
    have go0 : ∀ k, k ≤ max one.length other.length → goRow L rws one other k < rws.length := fun k => by
      induction k with
      | zero => exact fun _ => r1
      | succ k ih =>
        intro hk
        obtain ⟨_, _, _, q2, _⟩ := go_step L1 L3 r1 hw ho ht (ih (by omega)) (by omega)
        exact q2
    refine ⟨((max one.length other.length : Nat) : Int), by rw [max_int], by omega, by omega, for_range (lo := 0) (n := ((max one.length other.length : Nat) : Int).toNat) (fun k σ H' => H' = H ∧ ∃ y7, σ = [some (.ref p), some (.str one), some (.str other), some (.int L), some (.ref pr), some (.ref pd), some (.int (goRow L rws one other k)), y7]) ⟨rfl, none, rfl⟩ ?_ ?_⟩
    · rintro k σ H' hk ⟨rfl, y7, rfl⟩
      have hk' : k < max one.length other.length := by omega
      obtain ⟨r, e1, e2, e3, e4⟩ := go_step L1 L3 r1 hw ho ht (go0 k (by omega)) (by omega)
      obtain ⟨x, e5, qr, rfl, nq, hq⟩ := paired_at h4 e1
      refine ⟨_, rfl, _, rfl, pr, rvs, (goRow L rws one other k : Int), .ref qr, rfl, rfl, .inl h2, atI_nat e5, ?_⟩
      have a1 := sgn_le L1 L3 ho k
      have a2 := sgn_le L1 L3 ht k
      refine ⟨_, rfl, _, rfl, _, rfl, one, k, L, (by rw [Int.zero_add]; rfl), L1, L3, ho, l1, _, rfl, L, 1, rfl, rfl, _, _, rfl, rfl, .inl ⟨by omega, by omega⟩, ?_⟩
      refine ⟨_, rfl, _, rfl, _, rfl, other, k, L, (by rw [Int.zero_add]; rfl), L1, L3, ht, l2, _, _, rfl, rfl, ?_⟩
      refine ⟨qr, r.map V.int, _, .int (goRow L rws one other (k + 1) : Int), rfl, rfl, .inl hq, ?_, ?_⟩
      · have e6 : (sgn L one k : Int) * (L + 1) + (sgn L other k : Int) = ((sgn L one k * (L.toNat + 1) + sgn L other k : Nat) : Int) := by
          rw [Int.natCast_add, Int.natCast_mul, Int.natCast_add, Int.toNat_of_nonneg (by omega)]
          rfl
        rw [e6]
        exact atI_nat (by rw [List.getElem?_map, e2]; rfl)
      · exact ⟨rfl, _, rfl⟩
    · rintro σ H' ⟨rfl, y7, rfl⟩
      have hm := go0 _ (Nat.le_refl _)
      have ev : vds[goRow L rws one other (max one.length other.length)]? = some (vds.getD (goRow L rws one other (max one.length other.length)) 0) := by
        rw [List.getD_eq_getElem?_getD, List.getElem?_eq_getElem (by omega)]
        rfl
      refine ⟨_, rfl, _, rfl, pd, vds.map V.int, _, _, rfl, rfl, .inl h3, atI_nat (by rw [List.getElem?_map]; exact congrArg (Option.map V.int) ev), q H' (Same.refl H')⟩
end
section
variable {P : Program} {w : World} {K : PySem.W.Frag} {mg : Str → Option Value} {base : Heap}
theorem scTellsL : FnScope ["_law_comp_here", "_law_one_here", "_law_other", "_law_cols", "_law_row", "_law_k"] ["_law_comp_here", "_law_one_here", "_law_other"] (defScope sTellsL) := ⟨rfl, rfl, rfl, by decide +kernel, rfl, by decide +kernel, by decide +kernel⟩
theorem flat_strs (xs : List Str) : (xs.map V.str).all flatV = true := by
  rw [List.all_map]
  exact List.all_eq_true.mpr fun x _ => rfl
theorem ok_tellsL {f fC : Addr} {fd fdC : FuncData} (F : Fun K "_law_tells" "_law_tells" sTellsL f fd) (CL : FnOk P w K mg base CX0 1 fC fdC ["_law_letters"] spColsL) (FC : Fun K "_law_columns" "_law_columns" sColsL fC fdC) (bC : Binds K fdC ["_law_letters"] []) (gC : mg "_law_columns" = some (.ref fC)) (T : Mg mg) :
    FnOk P w K mg base CX0 2 f fd ["_law_comp_here", "_law_one_here", "_law_other"] (spTells K) := by
  refine F.ok scTellsL (fun vs H Q E h => ?_) (fun cdv A outer s H vs Q E hr h => ?_)
  · obtain ⟨B, v, one, other, L, rws, vds, rfl, _⟩ := h
    rfl
  · obtain ⟨B, v, one, other, L, rws, vds, rfl, hc, ho, ht, l1, l2, q⟩ := h
    obtain ⟨p, pr, pd, rvs, rfl, n1, n2, n3, h1, h2, h3, h4⟩ := hc.at_
    obtain ⟨_, L1, L3, r1, r61, hw, vl, vb⟩ := hc
    refine ⟨_, pss_cons (ps_par (i := 3) (j := 4) rfl scTellsL.nd rfl rfl (by decide) rfl rfl (pa_cons (pe_call CL hr (by rfl) gC FC.kp bC .nil pass0 (pa_cons (pe_ix ix_tup (pv 0) pe_int (fun _ _ => rfl)) pa_nil)) (pa_cons pe_int pa_nil)) (by rfl))
      (pss_cons (ps_for PassesOwn.never rfl (pi_range1 (by rfl) T.range (pa_cons (pe_callB (call_max2 rfl) (by rfl) T.max (by decide +kernel) (pa_cons (pe_callB call_len_str (by rfl) T.len PySem.boot_len (pa_cons (pv 1) pa_nil)) (pa_cons (pe_callB call_len_str (by rfl) T.len PySem.boot_len (pa_cons (pv 2) pa_nil)) pa_nil))) pa_nil)) (pg_name (i := 5) scTellsL.nd rfl (.inl rfl))
        (pss_one (ps_set (i := 4) scTellsL.nd rfl (.inl rfl) (pe_ix ix_tup (pe_ix ix_tup (pe_ix ix_tup (pv 0) pe_int (fun _ _ => rfl)) (pv 4) (fun _ _ => rfl)) (pe_bm PySem.F.plainAttrs_list PySem.F.slot_list_index PySem.F.type_list_index mt_index (pv 3) (pa_cons (pe_op op_add_str (pe_bm PySem.F.plainAttrs_str PySem.F.slot_str_ljust PySem.F.type_str_ljust mt_ljustF (pe_slice sl_str (pv 1) (po_some (pv 5)) (po_some (pe_op op_add (pv 5) pe_int))) (pa_cons pe_int (pa_cons pe_str pa_nil)))
          (pe_bm PySem.F.plainAttrs_str PySem.F.slot_str_ljust PySem.F.type_str_ljust mt_ljustF (pe_slice sl_str (pv 2) (po_some (pv 5)) (po_some (pe_op op_add (pv 5) pe_int))) (pa_cons pe_int (pa_cons pe_str pa_nil)))) pa_nil)) (fun _ _ => rfl)))))
      (pss_one (ps_ret (pe_ix ix_tup (pe_ix ix_tup (pv 0) pe_int (fun _ _ => rfl)) (pv 4) (fun _ _ => rfl))))), ?_⟩
    refine ⟨_, rfl, p, _, 0, .int L, rfl, rfl, .inl h1, atI_nat (j := 0) rfl, L, rfl, L1, L3, fun Hc pc sc nc lc => ?_⟩
    refine ⟨_, _, rfl, ?_⟩
    have go0 : ∀ k, k ≤ max one.length other.length → goRow L rws one other k < rws.length := fun k => by
      induction k with
      | zero => exact fun _ => r1
      | succ k ih =>
        intro hk
        obtain ⟨_, _, _, q2, _⟩ := go_step L1 L3 r1 hw ho ht (ih (by omega)) (by omega)
        exact q2
    refine ⟨_, rfl, one, rfl, sz_of (by omega), _, rfl, other, rfl, sz_of (by omega), _, _, rfl, ?_⟩
    refine ⟨((max one.length other.length : Nat) : Int), by rw [max_int], by omega, by omega, for_range (lo := 0) (n := ((max one.length other.length : Nat) : Int).toNat) (fun k σ H' => H' = Hc ∧ ∃ y5, σ = [some (.ref p), some (.str one), some (.str other), some (.ref pc), some (.int (goRow L rws one other k)), y5]) ⟨rfl, none, rfl⟩ ?_ ?_⟩
    · rintro k σ H' hk ⟨rfl, y5, rfl⟩
      have hk' : k < max one.length other.length := by omega
      obtain ⟨r, e1, e2, e3, e4⟩ := go_step L1 L3 r1 hw ho ht (go0 k (by omega)) (by omega)
      obtain ⟨x, e5, qr, rfl, nq, hq⟩ := paired_at h4 e1
      have a1 := sgn_le L1 L3 ho k
      have a2 := sgn_le L1 L3 ht k
      obtain ⟨c1, c2⟩ := col_at L1 L3 a1 a2 e4
      rw [Int.zero_add]
      refine ⟨_, rfl, p, _, 1, .ref pr, rfl, rfl, .inl (same_rd sc h1), atI_nat (j := 1) rfl, _, rfl, pr, rvs, (goRow L rws one other k : Int), .ref qr, rfl, rfl, .inl (same_rd sc h2), atI_nat e5, ?_⟩
      refine ⟨_, rfl, .inl ⟨rfl, _, SqL.of lc⟩, ?_⟩
      refine ⟨_, rfl, _, rfl, (k : Int), rfl, _, rfl, k, 1, rfl, rfl, (k : Int) + 1, rfl, one, rfl, sz_of (by omega), rfl, ?_⟩
      refine ⟨_, rfl, rfl, _, rfl, _, rfl, (k : Int), rfl, _, rfl, k, 1, rfl, rfl, (k : Int) + 1, rfl, other, rfl, sz_of (by omega), rfl, _, rfl, rfl, ?_⟩
      have eo := piece_at L1 L3 ho k
      have et := piece_at L1 L3 ht k
      refine ⟨_, _, rfl, rfl, ?_, ?_⟩
      · rw [eo, et]
        exact Nat.le_trans (show 1 + 1 ≤ 2 by decide) (by decide)
      · rw [eo, et]
        refine ⟨pc, _, _, _, .str (chr1 (sgAt L (sgn L one k)) ++ chr1 (sgAt L (sgn L other k))), rfl, rfl, SqL.of lc, rfl, flat_strs _, by rw [List.getElem?_map, c1]; rfl, decide_eq_true rfl, fun m z hm hz => ?_, qr, r.map V.int, _, .int (goRow L rws one other (k + 1) : Int), rfl, rfl, .inl (same_rd sc hq), atI_nat (by rw [List.getElem?_map, e2]; rfl), ⟨rfl, _, rfl⟩⟩
        rw [List.getElem?_map] at hz
        obtain ⟨z', h1, rfl⟩ := Option.map_eq_some_iff.mp hz
        exact decide_eq_false (c2 m z' hm h1)
    · rintro σ H' ⟨rfl, y5, rfl⟩
      have hm := go0 _ (Nat.le_refl _)
      have ev : vds[goRow L rws one other (max one.length other.length)]? = some (vds.getD (goRow L rws one other (max one.length other.length)) 0) := by
        rw [List.getD_eq_getElem?_getD, List.getElem?_eq_getElem (by omega)]
        rfl
      refine ⟨_, rfl, p, _, 2, .ref pd, rfl, rfl, .inl (same_rd sc h1), atI_nat (j := 2) rfl, _, rfl, pd, vds.map V.int, _, _, rfl, rfl, .inl (same_rd sc h3), atI_nat (by rw [List.getElem?_map]; exact congrArg (Option.map V.int) ev), q _ sc⟩
end
/-! ### what stands while the law goes on -/
structure Sta (K : PySem.W.Frag) (B : Addr → Prop) (a c : Addr) (cells : List Int) (n : Int) (v : V) (L : Int) (rws : List (List Int)) (vds : List Int) (vals : List V) (H : Hp) : Prop where
  tb : TB B H
  hB : ∀ b, Bd a c b → B b
  dk : DeckAt a c cells n H
  cm : CAt B H v L rws vds
  vs : ∀ u ∈ vals, ∃ d, Dt B K H u d ∧ nodes d ≤ 40000
section
variable {K : PySem.W.Frag} {B : Addr → Prop} {a c p : Addr} {cells : List Int} {n L : Int} {v : V} {rws : List (List Int)} {vds : List Int} {vals : List V} {H H' : Hp} {o : HO}
theorem Sta.keepB {cells' : List Int} {n' : Int} (b : Sta K B a c cells n v L rws vds vals H) (k : Keep B H H') (tb : TB B H') (dk : DeckAt a c cells' n' H') : Sta K B a c cells' n' v L rws vds vals H' :=
  ⟨tb, b.hB, dk, b.cm.keep k, fun u hu => by
    obtain ⟨d, h1, h2⟩ := b.vs u hu
    exact ⟨d, Dt.keep k _ _ h1, h2⟩⟩
theorem Sta.same (b : Sta K B a c cells n v L rws vds vals H) (s : Same H H') : Sta K B a c cells n v L rws vds vals H' := b.keepB (Keep.same s) (tb_same s b.tb) (deck_same s b.dk)
theorem Sta.new (o : HO) (b : Sta K B a c cells n v L rws vds vals H) (h : H p = none) : Sta K B a c cells n v L rws vds vals (upd H p o) := b.same (same_new h)
theorem Sta.drawn {cells' : List Int} {n' : Int} (b : Sta K B a c cells n v L rws vds vals H) (dk : DeckAt a c cells' n' H') (k : Keep (Bd a c) H H') : Sta K B a c cells' n' v L rws vds vals H' := b.keepB (k.wide b.hB) (tb_keep b.tb dk k) dk
theorem Sta.add {u : V} {d : PyData} (b : Sta K B a c cells n v L rws vds vals H) (h : Dt B K H u d) (h1 : nodes d ≤ 40000) : Sta K B a c cells n v L rws vds (vals ++ [u]) H :=
  ⟨b.tb, b.hB, b.dk, b.cm, fun x hx => by
    rcases List.mem_append.mp hx with hx | hx
    · exact b.vs x hx
    · rw [List.mem_singleton.mp hx]
      exact ⟨d, h, h1⟩⟩
/-- a new object that is to be kept apart -/
theorem Sta.off (o : HO) (b : Sta K B a c cells n v L rws vds vals H) (h : H p = none) : Sta K (fun b => B b ∨ b = p) a c cells n v L rws vds vals (upd H p o) := by
  have tb0 : TB (fun b => B b ∨ b = p) (upd H p o) := fun x z e => by
    rcases z with z | z
    · exact tb_upd b.tb x z e
    · rw [z, upd_same] at e
      cases e
  have s := same_new (o := o) h
  refine ⟨tb0, fun x z => .inl (b.hB x z), deck_same s b.dk, (CAt.off h b.cm).keep (Keep.same s), fun u hu => ?_⟩
  obtain ⟨d, h1, h2⟩ := b.vs u hu
  exact ⟨d, same_dt s (Dt.off h _ _ h1), h2⟩
theorem Sta.store (o : HO) (b : Sta K B a c cells n v L rws vds vals H) (hp : B p) (np : ¬ Bd a c p) : Sta K B a c cells n v L rws vds vals (upd H p o) :=
  b.keepB (fun x u nb e => by
    rw [upd_ne (fun z : x = p => nb (z.symm ▸ hp))]
    exact e) (tb_upd b.tb) (deck_upd b.dk np)
theorem Sta.none (b : Sta K B a c cells n v L rws vds vals H) : Sta K B a c cells n v L rws vds [] H := ⟨b.tb, b.hB, b.dk, b.cm, fun u hu => absurd hu List.not_mem_nil⟩
/-- the comparison's own values: itself, as a list, cut, longer -/
theorem Sta.parts (b : Sta K B a c cells n v L rws vds vals H) : ∃ q pr pv, v = .ref q ∧ ¬ B q ∧ Rd H q (.tup [.int L, .ref pr, .ref pv]) ∧ ∃ ds, DtAll B K H [.int L, .ref pr, .ref pv] ds ∧ nodesAll ds ≤ 2000 ∧ Dt B K H v (.tuple ds) := by
  have hn := b.cm.nodes
  have hd := b.cm.dt (K := K)
  obtain ⟨q, pr, pv, rvs, e, n1, n2, n3, h1, h2, h3, h4⟩ := b.cm.at_
  subst e
  refine ⟨q, pr, pv, rfl, n1, h1, _, ?_, ?_, hd⟩
  · unfold compD at hd
    cases hd with
    | tup nb hs ha =>
      rename_i xs
      have : xs = [.int L, .ref pr, .ref pv] := by
        rcases h1 with h1 | ⟨o, h1⟩ <;> rcases hs with r | ⟨u, r⟩ <;> (rw [h1] at r; cases r <;> rfl)
      subst this
      exact ha
  · unfold compD at hn
    rw [nodes_tup] at hn
    omega
end
def optD : Option Str → PyData
  | none => .none
  | some x => .str x
theorem optD_dt {B : Addr → Prop} {K : PySem.W.Frag} {H : Hp} (o : Option Str) : Dt B K H (optV o) (optD o) := by
  cases o with
  | none => exact .non
  | some x => exact .str x
theorem merr_in (d : PyData) : merr d = none ∨ merr d = some "comp" ∨ merr d = some "letters" ∨ merr d = some "rows" ∨ merr d = some "verdicts" := by
  unfold merr
  split
  · unfold merr3
    split
    · unfold merr4
      split
      · unfold merr5
        split
        · split
          · unfold mends
            split
            · split
              · split
                · exact .inl rfl
                · exact .inr (.inr (.inr (.inr rfl)))
              · exact .inr (.inr (.inr (.inr rfl)))
            · exact .inr (.inr (.inr (.inr rfl)))
          · exact .inr (.inr (.inr (.inl rfl)))
        · exact .inr (.inr (.inr (.inl rfl)))
      · exact .inr (.inr (.inr (.inl rfl)))
    · exact .inr (.inr (.inl rfl))
  · exact .inr (.inl rfl)
theorem optD_ok (d : PyData) : (optD (merr d)).showable = true ∧ (optD (merr d)).depth ≤ 60 ∧ (optD (merr d)).shown.length ≤ sizeLine := by
  rcases merr_in d with e | e | e | e | e <;> (rw [e]; decide +kernel)
theorem ver_ok {x y : Int} (h1 : -1 ≤ x ∧ x ≤ 1) (h2 : -1 ≤ y ∧ y ≤ 1) : (PyData.list [.int x, .int y]).showable = true ∧ (PyData.list [.int x, .int y]).depth ≤ 60 ∧ (PyData.list [.int x, .int y]).shown.length ≤ sizeLine := by
  have e1 : x = -1 ∨ x = 0 ∨ x = 1 := by omega
  have e2 : y = -1 ∨ y = 0 ∨ y = 1 := by omega
  rcases e1 with rfl | rfl | rfl <;> rcases e2 with rfl | rfl | rfl <;> decide +kernel
theorem str_ne_false (x : Str) : ¬ (!decide (V.str x = V.str x)) = true := by
  rw [decide_eq_true rfl]
  exact Bool.false_ne_true
theorem keep_store {B : Addr → Prop} {H : Hp} {p : Addr} {o : HO} (hp : B p) : Keep B H (upd H p o) := fun x u nb e => by
  rw [upd_ne (fun z : x = p => nb (z.symm ▸ hp))]
  exact e
def bn (j : Nat) : Nat := if j % 4 = 0 then 32064 else if j % 4 = 1 then 4008 else if j % 4 = 2 then 8016 else 16032
theorem bn_le (j : Nat) : bn j ≤ 32064 := by
  unfold bn
  split
  · omega
  · split
    · omega
    · split <;> omega
theorem bn_step {j : Nat} (h : j % 4 ≠ 0) : bn (j + 1) = 2 * bn j := by
  have e : j % 4 = 1 ∨ j % 4 = 2 ∨ j % 4 = 3 := by omega
  unfold bn
  rcases e with e | e | e
  · rw [e, show (j + 1) % 4 = 2 by omega]
    rfl
  · rw [e, show (j + 1) % 4 = 3 by omega]
    rfl
  · rw [e, show (j + 1) % 4 = 0 by omega]
    rfl
theorem bn_one {j : Nat} (h : j % 4 = 0) : bn (j + 1) = 4008 := by
  unfold bn
  rw [show (j + 1) % 4 = 1 by omega]
  rfl
theorem verd_in {vds : List Int} (h : ∀ x ∈ vds, -1 ≤ x ∧ x ≤ 1) (i : Nat) : -1 ≤ vds.getD i 0 ∧ vds.getD i 0 ≤ 1 := by
  rw [List.getD_eq_getElem?_getD]
  cases e : vds[i]? with
  | none => exact ⟨by decide, by decide⟩
  | some x => exact h x (List.mem_of_getElem? e)
theorem mem_reps {c : Nat} {z : Array Nat} : ∀ (k : Nat) (acc : Array Nat), c ∈ ((List.replicate k z).foldl (· ++ ·) acc).toList → c ∈ acc.toList ∨ c ∈ z.toList
  | 0, acc, h => .inl h
  | k + 1, acc, h => by
    rw [List.replicate_succ, List.foldl_cons] at h
    rcases mem_reps k _ h with h | h
    · rw [Array.toList_append] at h
      exact List.mem_append.mp h
    · exact .inr h
theorem let_mul {L : Int} {z : Str} (h : LetS L z) (k : Int) : LetS L (Txt.mul z k) := fun c hc => by
  unfold Txt.mul at hc
  split at hc
  · cases hc
  · split at hc
    · exact h c hc
    · rcases mem_reps _ _ hc with hc | hc
      · cases hc
      · exact h c hc
theorem mul_len {z : Str} {k : Int} (hz : z.length ≤ 9) (h0 : 1 ≤ k) (h1 : k ≤ 30) : (Txt.mul z k).length ≤ 270 := by
  have e := len_mul z k
  rw [if_neg (by rw [decide_eq_true_eq]; omega)] at e
  have a1 : (z.length : Int) * k ≤ 9 * 30 := by
    have b1 : (z.length : Int) * k ≤ 9 * k := Int.mul_le_mul_of_nonneg_right (by omega) (by omega)
    omega
  omega
theorem at_words {r : Int} (h0 : 0 ≤ r) (h1 : r < 3) : ∃ wm : Nat, atI [V.int 0, V.int 9, V.int 5, V.int 3] (1 + r) = some (V.int wm) ∧ WM (1 + r) wm := by
  have e : r = 0 ∨ r = 1 ∨ r = 2 := by omega
  rcases e with rfl | rfl | rfl
  · exact ⟨9, rfl, .inl ⟨rfl, rfl⟩⟩
  · exact ⟨5, rfl, .inr (.inl ⟨rfl, rfl⟩)⟩
  · exact ⟨3, rfl, .inr (.inr ⟨rfl, rfl⟩)⟩
section
variable {P : Program} {w : World} {K : PySem.W.Frag} {mg : Str → Option Value} {base : Heap}
theorem scLaw : FnScope ["_law_script", "_law_deck_here", "_law_turn", "_law_letters", "_law_comp_here", "_law_values", "_law_value", "_law_k", "_law_words_here", "_law_one_here", "_law_other", "_law_due_here"] ["_law_script"] (defScope sLaw) := ⟨rfl, rfl, rfl, by decide +kernel, rfl, by decide +kernel, by decide +kernel⟩
def spLaw (K : PySem.W.Frag) : Sp := fun vs H Q _ => ∃ (l : Addr) (ns : List Int), vs = [.ref l] ∧ SqL K H l (ns.map V.int) ∧ ns.length ≤ 63 ∧ ∀ H', Q (.bl true) H'
theorem ok_law {f fD fO fC fB fX fE fW fU fS fK : Addr} {fd fdD fdO fdC fdB fdX fdE fdW fdU fdS fdK : FuncData} (F : Fun K "law" "law" sLaw f fd)
    (DK : FnOk P w K mg base CX0 1 fK fdK ["_law_script"] (spDeck K)) (FK : Fun K "_law_deck" "_law_deck" sDeck fK fdK) (bK : Binds K fdK ["_law_script"] []) (gK : mg "_law_deck" = some (.ref fK))
    (D : FnOk P w K mg base CX0 1 fD fdD ["_law_deck_here", "_law_most"] spDraw) (FD : Fun K "_law_draw" "_law_draw" sDraw fD fdD) (bD : Binds K fdD ["_law_deck_here", "_law_most"] []) (gD : mg "_law_draw" = some (.ref fD))
    (O : FnOk P w K mg base CX0 2 fO fdO ["_law_deck_here", "_law_items"] (spOne K)) (FO : Fun K "_law_one" "_law_one" sOne fO fdO) (bO : Binds K fdO ["_law_deck_here", "_law_items"] []) (gO : mg "_law_one" = some (.ref fO))
    (C : FnOk P w K mg base CX0 3 fC fdC ["_law_deck_here", "_law_letters", "_law_many"] spComp) (FC : Fun K "_law_comp" "_law_comp" sComp fC fdC) (bC : Binds K fdC ["_law_deck_here", "_law_letters", "_law_many"] []) (gC : mg "_law_comp" = some (.ref fC))
    (BT : FnOk P w K mg base CX0 6 fB fdB ["_law_deck_here", "_law_value", "_law_deep"] (spOther K 3)) (FB : Fun K "_law_otherwise" "_law_otherwise" sOther fB fdB) (bB : Binds K fdB ["_law_deck_here", "_law_value", "_law_deep"] []) (gB : mg "_law_otherwise" = some (.ref fB))
    (ME : FnOk P w K mg base CX0 4 fX fdX ["value"] (spErr K)) (FX : Fun K "comp_error" "comp_error" sCErr fX fdX) (bX : Binds K fdX ["value"] []) (gX : mg "comp_error" = some (.ref fX))
    (DU : FnOk P w K mg base CX0 3 fE fdE ["_law_value"] (spErr K)) (FE : Fun K "_law_due" "_law_due" sDue fE fdE) (bE : Binds K fdE ["_law_value"] []) (gE : mg "_law_due" = some (.ref fE))
    (W : FnOk P w K mg base CX0 1 fW fdW ["_law_letters", "_law_most"] spWords) (FW : Fun K "_law_words" "_law_words" sWords fW fdW) (bW : Binds K fdW ["_law_letters", "_law_most"] []) (gW : mg "_law_words" = some (.ref fW))
    (TL : FnOk P w K mg base CX0 2 fU fdU ["_law_comp_here", "_law_one_here", "_law_other"] (spTells K)) (FTL : Fun K "_law_tells" "_law_tells" sTellsL fU fdU) (bTL : Binds K fdU ["_law_comp_here", "_law_one_here", "_law_other"] []) (gTL : mg "_law_tells" = some (.ref fU))
    (TS : FnOk P w K mg base CX0 2 fS fdS ["comp", "one", "other"] (spTells K)) (FTS : Fun K "tells" "tells" sTells fS fdS) (bTS : Binds K fdS ["comp", "one", "other"] []) (gTS : mg "tells" = some (.ref fS)) (T : Mg mg) :
    GRun P w K mg base 7 f fd ["_law_script"] (spLaw K) := by
  refine grun F scLaw (fun cdv A outer s H vs Q hG0 hr h => ?_)
  obtain ⟨l, ns, rfl, hS, hlen, k⟩ := h
  have hG : (A.deeper (envOfC "law" (defScope sLaw) s.heap.objs.size f cdv)).guards = some [] := hG0
  have hu := hr.units
  refine ⟨_, pss_cons (ps_set (i := 1) scLaw.nd rfl (.inl rfl) (pe_call DK (hr.mono (by decide)) (by rfl) gK FK.kp bK .nil pass0 (pa_cons (pv 0) pa_nil)))
      (pss_cons (ps_for PassesOwn.never rfl (pi_range1 (by rfl) T.range (pa_cons pe_int pa_nil)) (pg_name (i := 2) scLaw.nd rfl (.inl rfl)) (pss_cons (ps_set (i := 3) scLaw.nd rfl (.inl rfl) (pe_op op_add pe_int (pe_call D (hr.mono (by decide)) (by rfl) gD FD.kp bD .nil pass0 (pa_cons (pv 1) (pa_cons pe_int pa_nil)))))
        (pss_cons (ps_set (i := 4) scLaw.nd rfl (.inl rfl) (pe_call C (hr.mono (by decide)) (by rfl) gC FC.kp bC .nil pass0 (pa_cons (pv 1) (pa_cons (pv 3) (pa_cons (pe_op op_add pe_int (pe_call D (hr.mono (by decide)) (by rfl) gD FD.kp bD .nil pass0 (pa_cons (pv 1) (pa_cons (pe_call O (hr.mono (by decide)) (by rfl) gO FO.kp bO .nil pass0 (pa_cons (pv 1) (pa_cons (pe_lstA (pa_cons pe_int (pa_cons pe_int (pa_cons pe_int pa_nil)))) pa_nil))) pa_nil)))) pa_nil)))))
        (pss_cons (ps_par (i := 5) (j := 6) rfl scLaw.nd rfl rfl (by decide) rfl rfl (pa_cons (pe_lst (pa_cons (pv 4) (pa_cons (pe_callTy call_listN (by rfl) T.list (by decide +kernel) (pa_cons (pv 4) pa_nil)) (pa_cons (pe_slice sl_tupS (pv 4) po_none (po_some pe_int)) (pa_cons (pe_op op_catS (pv 4) (pe_tup (pa_cons pe_int pa_nil))) (pa_cons pe_non (pa_cons pe_int (pa_cons pe_str (pa_cons pe_dnewK (pa_cons (pe_tup pa_nil) (pa_cons (pe_tup (pa_cons pe_int (pa_cons (pe_tup pa_nil) (pa_cons (pe_tup pa_nil) pa_nil)))) pa_nil))))))))))) (pa_cons (pv 4) pa_nil)) (by rfl))
        (pss_cons (ps_for PassesOwn.never rfl (pi_range1 (by rfl) T.range (pa_cons pe_int pa_nil)) (pg_name (i := 7) scLaw.nd rfl (.inl rfl)) (pss_cons (ps_set (i := 6) scLaw.nd rfl (.inl rfl) (pe_call BT (hr.mono (by decide)) (by rfl) gB FB.kp bB .nil pass0 (pa_cons (pv 1) (pa_cons (pe_ifExp (pt_cmpR op_gt (pe_op op_mod (pv 7) pe_int) pe_int (nomark _)) (pv 6) (pv 4)) (pa_cons pe_int pa_nil)))))
        (pss_one (ps_expr (pe_bm PySem.F.plainAttrs_list PySem.F.slot_list_append PySem.F.type_list_append mt_append (pv 5) (pa_cons (pv 6) pa_nil))))))
        (pss_cons (ps_for PassesOwn.never rfl (pi_list (pv 5)) (pg_name (i := 6) scLaw.nd rfl (.inl rfl)) (pss_one (ps_if (pt_cmpR op_ne (pe_callB (call_reprD hG hu) (by rfl) T.repr (by decide +kernel) (pa_cons (pe_call ME (hr.mono (by decide)) (by rfl) gX FX.kp bX .nil pass0 (pa_cons (pv 6) pa_nil)) pa_nil)) (pe_callB (call_reprD hG hu) (by rfl) T.repr (by decide +kernel) (pa_cons (pe_call DU (hr.mono (by decide)) (by rfl) gE FE.kp bE .nil pass0 (pa_cons (pv 6) pa_nil)) pa_nil)) (nomark _)) (pss_one (ps_ret pe_bl)) pss_nil)))
        (pss_one (ps_for PassesOwn.never rfl (pi_range1 (by rfl) T.range (pa_cons (pe_ifExp (pt_cmpR op_lt (pe_callB (r := rLen K) call_len_seq (by rfl) T.len PySem.boot_len (pa_cons (pe_ix ix_tup (pv 4) pe_int (fun _ _ => rfl)) pa_nil)) pe_int (nomark _)) pe_int pe_int) pa_nil)) (pg_name (i := 7) scLaw.nd rfl (.inl rfl)) (pss_cons (ps_set (i := 8) scLaw.nd rfl (.inl rfl) (pe_call W (hr.mono (by decide)) (by rfl) gW FW.kp bW .nil pass0 (pa_cons (pv 3) (pa_cons (pe_ix ix_list (pe_lstA (pa_cons pe_int (pa_cons pe_int (pa_cons pe_int (pa_cons pe_int pa_nil))))) (pv 3) (fun _ _ => rfl)) pa_nil))))
        (pss_cons (ps_par (i := 9) (j := 10) rfl scLaw.nd rfl rfl (by decide) rfl rfl (pa_cons (pe_op op_strRep (pe_call O (hr.mono (by decide)) (by rfl) gO FO.kp bO .nil pass0 (pa_cons (pv 1) (pa_cons (pv 8) pa_nil))) (pe_call O (hr.mono (by decide)) (by rfl) gO FO.kp bO .nil pass0 (pa_cons (pv 1) (pa_cons (pe_lstA (pa_cons pe_int (pa_cons pe_int (pa_cons pe_int pa_nil)))) pa_nil)))) (pa_cons (pe_call O (hr.mono (by decide)) (by rfl) gO FO.kp bO .nil pass0 (pa_cons (pv 1) (pa_cons (pv 8) pa_nil))) pa_nil)) (by rfl))
        (pss_cons (ps_set (i := 11) scLaw.nd rfl (.inl rfl) (pe_lstA (pa_cons (pe_call TL (hr.mono (by decide)) (by rfl) gTL FTL.kp bTL .nil pass0 (pa_cons (pv 4) (pa_cons (pv 9) (pa_cons (pv 10) pa_nil)))) (pa_cons (pe_call TL (hr.mono (by decide)) (by rfl) gTL FTL.kp bTL .nil pass0 (pa_cons (pv 4) (pa_cons (pv 10) (pa_cons (pv 9) pa_nil)))) pa_nil))))
        (pss_one (ps_if (pt_cmpR op_ne (pe_callB (call_reprD hG hu) (by rfl) T.repr (by decide +kernel) (pa_cons (pe_lstA (pa_cons (pe_call TS (hr.mono (by decide)) (by rfl) gTS FTS.kp bTS .nil pass0 (pa_cons (pv 4) (pa_cons (pv 9) (pa_cons (pv 10) pa_nil)))) (pa_cons (pe_call TS (hr.mono (by decide)) (by rfl) gTS FTS.kp bTS .nil pass0 (pa_cons (pv 4) (pa_cons (pv 10) (pa_cons (pv 9) pa_nil)))) pa_nil))) pa_nil)) (pe_callB (call_reprD hG hu) (by rfl) T.repr (by decide +kernel) (pa_cons (pv 11) pa_nil)) (nomark _)) (pss_one (ps_ret pe_bl)) pss_nil)))))))))))))
      (pss_one (ps_ret pe_bl))), ?_⟩
  refine ⟨_, rfl, l, ns, rfl, hS, hlen, fun H1 a c cells0 s1 na nc dk0 => ?_⟩
  refine ⟨10, rfl, by decide, by decide, for_range (lo := 0) (n := 10) (fun i σ H' => (∃ y2 y3 y4 y5 y6 y7 y8 y9 y10 y11, σ = [some (V.ref l), some (V.ref a), y2, y3, y4, y5, y6, y7, y8, y9, y10, y11]) ∧ ∃ cells n, DeckAt a c cells n H' ∧ 0 ≤ n ∧ n ≤ 2000 * (i : Int)) ⟨⟨none, none, none, none, none, none, none, none, none, none, rfl⟩, cells0, 0, dk0, Int.le_refl _, by omega⟩ ?_ (fun σ H' _ => k H')⟩
  rintro i σ H2 hi ⟨⟨y2, y3, y4, y5, y6, y7, y8, y9, y10, y11, rfl⟩, cells, n, dk, n0, n1⟩
  -- letters, the comparison
  refine ⟨_, rfl, a, c, cells, n, 3, rfl, dk, by decide, by decide, n0, by omega, fun H3 cells3 r r0 r3 dk3 k3 => ?_⟩
  refine ⟨1, r, rfl, rfl, ?_⟩
  refine ⟨_, rfl, _, rfl, _, rfl, _, rfl, by show 3 ≤ sizeLine; decide, fun p3 G3 s3 np3 ns3 lp3 => ?_⟩
  have dkA := deck_same s3 dk3
  refine ⟨a, c, p3, cells3, n + 1, _, rfl, dkA, by omega, by omega, SqL.of lp3, deck_off dk3 np3, List.cons_ne_nil _ _, by decide, fun H4 cells4 x hx dk4 k4 => ?_⟩
  obtain ⟨m0, rfl, m1, m2⟩ : ∃ m0 : Int, x = .int m0 ∧ 1 ≤ m0 ∧ m0 ≤ 61 := by
    simp only [List.mem_cons, List.not_mem_nil, or_false] at hx
    rcases hx with hx | hx | hx <;> exact ⟨_, hx, by decide, by decide⟩
  refine ⟨a, c, cells4, n + 1 + 1, m0, rfl, dk4, m1, by omega, by omega, by omega, fun H5 cells5 r5 r50 r5m dk5 k5 => ⟨1, r5, rfl, rfl, ?_⟩⟩
  refine ⟨a, c, cells5, n + 1 + 1 + 1, 1 + r, 1 + r5, rfl, dk5, by omega, by omega, by omega, by omega, by omega, by omega, fun H6 cells6 n6 v rws vds dk6 n6a n6b k6 cm len6 => ?_⟩
  have st0 : Sta K (Bd a c) a c cells6 n6 v (1 + r) rws vds [] H6 := ⟨fun b z e => deck_off dk6 e z, fun b z => z, dk6, cm, fun u hu => absurd hu List.not_mem_nil⟩
  obtain ⟨q, pr, pd, rfl, nq, hq, ds, hds, nds, hdv⟩ := st0.parts
  have ncm : nodes (.tuple ds) ≤ 2001 := by
    rw [nodes_tup]
    omega
  have lds : ds.length = 3 := (hds.len).symm
  -- the values
  have st1 := st0.add hdv (by omega)
  refine ⟨_, rfl, _, rfl, q, _, rfl, .inl hq, fun l1 hl1 nl1 => ?_⟩
  have e1 := same_new (o := .lst [.int (1 + r), .ref pr, .ref pd]) hl1
  have st2 := (st1.same e1).add (u := .ref l1) (d := .list ds) (.lst (tb_off st1.tb hl1) nl1 (.inl upd_same) (same_all e1 hds)) (by rw [nodes_lst]; omega)
  have hq2 := same_rd e1 hq
  have hds2 := same_all e1 hds
  generalize upd H6 l1 (.lst [.int (1 + r), .ref pr, .ref pd]) = G6 at *
  refine ⟨_, rfl, 2, rfl, q, _, rfl, hq2, fun q2 H7 s7 hc2 w2 => ?_⟩
  have e7 : cutV [.int (1 + r), .ref pr, .ref pd] none (some 2) = [.int (1 + r), V.ref pr] := cut_take _ 2 (by show 2 ≤ 3; decide)
  have st3 := (st2.same s7).add (u := .ref q2) (d := .tuple (ds.take 2)) (.tup (nb_of st2.tb nq w2) (by rw [e7] at hc2; exact hc2) (same_all s7 (hds2.take 2))) (by
    have a1 := nodesAll_append (ds.take 2) (ds.drop 2)
    rw [List.take_append_drop] at a1
    rw [nodes_tup]
    omega)
  have hq3 := same_rd s7 hq2
  have hds3 := same_all s7 hds2
  refine ⟨_, rfl, by show 1 ≤ sizeLine; decide, fun u8 hu8 => ?_⟩
  have e8 := same_new (o := .tup [V.int 0]) hu8
  have st4 := st3.same e8
  have hq4 := same_rd e8 hq3
  have hds4 := same_all e8 hds3
  have hu8' : Rd (upd H7 u8 (.tup [V.int 0])) u8 (.tup [V.int 0]) := .inl upd_same
  have nu8 := tb_off st3.tb hu8
  generalize upd H7 u8 (.tup [V.int 0]) = G7 at *
  refine ⟨q, u8, _, _, rfl, rfl, hq4, hu8', by show 3 + 1 ≤ sizeLine; decide, fun q3 H8 s8 hc3 w3 => ?_⟩
  have st5 := (st4.same s8).add (u := .ref q3) (d := .tuple (ds ++ [.int 0])) (.tup (nb_of2 st4.tb nq nu8 w3) hc3 ((same_all s8 hds4).append (.cons (.int 0) .nil))) (by
    rw [nodes_tup, nodesAll_append, nodesAll_cons, nodesAll_nil, nodes]
    omega)
  have st6 := st5.add (u := .non) (d := .none) .non (by rw [nodes]; decide)
  have st7 := st6.add (u := .int 3) (d := .int 3) (.int 3) (by rw [nodes]; decide)
  have st8 := st7.add (u := .str "comp") (d := .str "comp") (.str "comp") (by rw [nodes]; decide)
  have hq5 := same_rd s8 hq4
  intro d9 hd9
  have e9 := same_new (o := .dK []) hd9
  have st9 := (st8.same e9).add (u := .ref d9) (d := .dict []) (.emp (tb_off st8.tb hd9) upd_same) (by rw [nodes]; decide)
  have hq6 := same_rd e9 hq5
  generalize upd H8 d9 (.dK []) = G8 at *
  refine ⟨Nat.zero_le _, fun u10 hu10 => ?_⟩
  have e10 := same_new (o := .tup []) hu10
  have st10 := (st9.same e10).add (u := .ref u10) (d := .tuple []) (.tup (tb_off st9.tb hu10) (.inl upd_same) .nil) (by rw [nodes_tup, nodesAll_nil]; decide)
  have hq7 := same_rd e10 hq6
  generalize upd G8 u10 (.tup []) = G10 at *
  refine ⟨Nat.zero_le _, fun u11 hu11 => ?_⟩
  have e11 := same_new (o := .tup []) hu11
  have st11 := st10.same e11
  have hd11 : Dt (Bd a c) K (upd G10 u11 (.tup [])) (.ref u11) (.tuple []) := .tup (tb_off st10.tb hu11) (.inl upd_same) .nil
  have hq8 := same_rd e11 hq7
  generalize upd G10 u11 (.tup []) = G11 at *
  refine ⟨Nat.zero_le _, fun u12 hu12 => ?_⟩
  have e12 := same_new (o := .tup []) hu12
  have st12 := st11.same e12
  have hd12 : Dt (Bd a c) K (upd G11 u12 (.tup [])) (.ref u12) (.tuple []) := .tup (tb_off st11.tb hu12) (.inl upd_same) .nil
  have hd11' := same_dt e12 hd11
  have hq9 := same_rd e12 hq8
  generalize upd G11 u12 (.tup []) = G12 at *
  refine ⟨by show 3 ≤ sizeLine; decide, fun u13 hu13 => ?_⟩
  have e13 := same_new (o := .tup [.int 1, .ref u11, .ref u12]) hu13
  have st13 := (st12.same e13).add (u := .ref u13) (d := .tuple [.int 1, .tuple [], .tuple []]) (.tup (tb_off st12.tb hu13) (.inl upd_same) (.cons (.int 1) (.cons (same_dt e13 hd11') (.cons (same_dt e13 hd12) .nil)))) (by decide +kernel)
  have hq10 := same_rd e13 hq9
  generalize upd G12 u13 (.tup [.int 1, .ref u11, .ref u12]) = G13 at *
  refine ⟨by show 10 ≤ sizeLine; decide, fun Lf hLf => ?_⟩
  refine ⟨_, rfl, _, _, rfl, ?_⟩
  have stA := st13.off (.lst [V.ref q, .ref l1, .ref q2, .ref q3, .non, .int 3, .str "comp", .ref d9, .ref u10, .ref u13]) hLf
  have nLf := deck_off st13.dk hLf
  have eL := same_new (o := .lst [V.ref q, .ref l1, .ref q2, .ref q3, .non, .int 3, .str "comp", .ref d9, .ref u10, .ref u13]) hLf
  have hL0 : (upd G13 Lf (.lst [V.ref q, .ref l1, .ref q2, .ref q3, .non, .int 3, .str "comp", .ref d9, .ref u10, .ref u13])) Lf = some (.lst [V.ref q, .ref l1, .ref q2, .ref q3, .non, .int 3, .str "comp", .ref d9, .ref u10, .ref u13]) := upd_same
  have hq11 := same_rd eL hq10
  have n13 : G13 q ≠ none := by
    intro z
    rcases hq10 with y | ⟨o, y⟩ <;> (rw [z] at y; cases y)
  have nqL : ¬ (fun b => Bd a c b ∨ b = Lf) q := by
    rintro (z | z)
    · exact nq z
    · rw [z] at n13
      exact n13 hLf
  obtain ⟨dq, hdq, ndq⟩ : ∃ dq, Dt (fun b => Bd a c b ∨ b = Lf) K (upd G13 Lf (.lst [V.ref q, .ref l1, .ref q2, .ref q3, .non, .int 3, .str "comp", .ref d9, .ref u10, .ref u13])) (.ref q) dq ∧ nodes dq ≤ 2001 := by
    obtain ⟨_, _, _, e, _, _, dss, _, nn, hh⟩ := stA.parts
    exact ⟨_, hh, by rw [nodes_tup]; omega⟩
  have eqv : ∀ u ∈ [V.ref q, .ref l1, .ref q2, .ref q3, .non, .int 3, .str "comp", .ref d9, .ref u10, .ref u13], u ∈ ((((((((([] ++ [V.ref q]) ++ [V.ref l1]) ++ [V.ref q2]) ++ [V.ref q3]) ++ [V.non]) ++ [V.int 3]) ++ [V.str "comp"]) ++ [V.ref d9]) ++ [V.ref u10]) ++ [V.ref u13] := fun u hu => hu
  have stB : Sta K (fun b => Bd a c b ∨ b = Lf) a c cells6 n6 (.ref q) (1 + r) rws vds [V.ref q, .ref l1, .ref q2, .ref q3, .non, .int 3, .str "comp", .ref d9, .ref u10, .ref u13] (upd G13 Lf (.lst [V.ref q, .ref l1, .ref q2, .ref q3, .non, .int 3, .str "comp", .ref d9, .ref u10, .ref u13])) := ⟨stA.tb, stA.hB, stA.dk, stA.cm, fun u hu => stA.vs u (eqv u hu)⟩
  clear stA eqv
  generalize upd G13 Lf (.lst [V.ref q, .ref l1, .ref q2, .ref q3, .non, .int 3, .str "comp", .ref d9, .ref u10, .ref u13]) = G14 at *
  refine ⟨8, rfl, by decide, by decide, for_range (lo := 0) (n := 8) (fun j σ H' => (∃ (vj : V) (dj : PyData) (y7 : Option V), σ = [some (V.ref l), some (V.ref a), some (V.int (0 + i)), some (V.int (1 + r)), some (V.ref q), some (V.ref Lf), some vj, y7, y8, y9, y10, y11] ∧ Dt (fun b => Bd a c b ∨ b = Lf) K H' vj dj ∧ nodes dj + 3 ≤ bn j) ∧ ∃ cells' n' vals, Sta K (fun b => Bd a c b ∨ b = Lf) a c cells' n' (.ref q) (1 + r) rws vds vals H' ∧ n6 ≤ n' ∧ n' ≤ n6 + 16 * (j : Int) ∧ H' Lf = some (.lst vals) ∧ vals.length = 10 + j ∧ Keep (fun b => Bd a c b ∨ b = Lf) G14 H')
    ⟨⟨_, dq, _, rfl, hdq, by show nodes dq + 3 ≤ 32064; omega⟩, cells6, n6, _, stB, Int.le_refl _, by omega, hL0, rfl, Keep.rfl'⟩ ?_ ?_⟩
  · rintro j σ H' hj ⟨⟨vj, dj, y7', rfl, hdj, ndj⟩, cells', n', vals, st, g1, g2, hL, hlv, kk⟩
    have bl := bn_le (j + 1)
    refine ⟨_, rfl, _, rfl, _, 4, rfl, rfl, (by show (0 : Int) < 4; decide), _, 0, rfl, rfl, _, rfl, ite2 (fun h1 => ⟨_, rfl, ?_⟩) (fun h1 => ⟨_, rfl, ?_⟩)⟩
    · have hz : j % 4 ≠ 0 := by
        have := of_decide_eq_true h1
        omega
      have eb := bn_step hz
      refine ⟨(fun b => Bd a c b ∨ b = Lf), a, c, cells', n', vj, dj, rfl, st.hB, st.tb, st.dk, by omega, by omega, by decide, hdj, by omega, fun H3 cells3 n3 v3 d3 dk3 m1' m2' k3 hd3 hn3 => ?_⟩
      have hb : nodes d3 + 3 ≤ bn (j + 1) := by
        rw [eb]
        omega
      have st3 := (st.drawn dk3 k3).add hd3 (by omega)
      have hL3 := k3 _ _ nLf hL
      refine ⟨_, rfl, .inl ⟨rfl, _, SqL.of hL3⟩, _, rfl, Lf, vals, v3, rfl, rfl, hL3, small1000 (by omega), ?_⟩
      have st4 := st3.store (.lst (vals ++ [v3])) (.inr rfl) nLf
      exact ⟨⟨v3, d3, _, rfl, Dt.keep (keep_store (.inr rfl)) _ _ hd3, hb⟩, cells3, n3, _, st4, by omega, by omega, upd_same, by rw [List.length_append, hlv]; rfl, kk.trans ((k3.wide st.hB).trans (keep_store (.inr rfl)))⟩
    · have hz : j % 4 = 0 := by
        have : ¬ ((0 : Int) < (0 + (j : Int)) % 4) := fun z => h1 (decide_eq_true z)
        omega
      have eb := bn_one hz
      refine ⟨(fun b => Bd a c b ∨ b = Lf), a, c, cells', n', (.ref q), dq, rfl, st.hB, st.tb, st.dk, by omega, by omega, by decide, (Dt.keep kk _ _ hdq), by omega, fun H3 cells3 n3 v3 d3 dk3 m1' m2' k3 hd3 hn3 => ?_⟩
      have hb : nodes d3 + 3 ≤ bn (j + 1) := by
        rw [eb]
        omega
      have st3 := (st.drawn dk3 k3).add hd3 (by omega)
      have hL3 := k3 _ _ nLf hL
      refine ⟨_, rfl, .inl ⟨rfl, _, SqL.of hL3⟩, _, rfl, Lf, vals, v3, rfl, rfl, hL3, small1000 (by omega), ?_⟩
      have st4 := st3.store (.lst (vals ++ [v3])) (.inr rfl) nLf
      exact ⟨⟨v3, d3, _, rfl, Dt.keep (keep_store (.inr rfl)) _ _ hd3, hb⟩, cells3, n3, _, st4, by omega, by omega, upd_same, by rw [List.length_append, hlv]; rfl, kk.trans ((k3.wide st.hB).trans (keep_store (.inr rfl)))⟩
  · rintro σ H' ⟨⟨vj, dj, y7', rfl, hdj, ndj⟩, cells', n', vals, st, g1, g2, hL, hlv, kk⟩
    refine ⟨_, rfl, Lf, rfl, ⟨_, SqL.of hL⟩, ?_⟩
    refine for_list (K := K) (a := Lf) (xs := vals) (fun j σ H'' => (∃ y6 y7, σ = [some (V.ref l), some (V.ref a), some (V.int (0 + i)), some (V.int (1 + r)), some (V.ref q), some (V.ref Lf), y6, y7, y8, y9, y10, y11]) ∧ Same H' H'') ⟨⟨_, _, rfl⟩, L2.Same.refl _⟩ (fun j σ H'' _ q' => SqL.of (q'.2 _ _ hL)) ?_ ?_
    · rintro j v σ H'' hv ⟨⟨z6, z7, rfl⟩, sf⟩
      obtain ⟨d, hd0, hn0⟩ := st.vs v (List.mem_of_getElem? hv)
      have hd := same_dt sf hd0
      obtain ⟨o1, o2, o3⟩ := optD_ok d
      refine ⟨_, rfl, _, v, d, rfl, hd, by omega, fun H3 s3 => ⟨_, optD (merr d), fun _ => False, rfl, optD_dt _, o1, o2, o3, ?_⟩⟩
      have hd3 := same_dt s3 hd
      refine ⟨_, rfl, _, v, d, rfl, hd3, by omega, fun H4 s4 => ⟨_, optD (merr d), fun _ => False, rfl, optD_dt _, o1, o2, o3, ?_⟩⟩
      refine ⟨rfl, _, rfl, ite2 (fun h => absurd h (str_ne_false _)) (fun _ => ?_)⟩
      exact ⟨⟨_, _, rfl⟩, L2.Same.trans sf (L2.Same.trans s3 s4)⟩
    · rintro σ H'' ⟨⟨z6, z7, rfl⟩, sf⟩
      have st2 := (st.same sf).none
      obtain ⟨p', pr', pd', rvs', e', _, _, _, h1', h2', _, _⟩ := st2.cm.at_
      cases e'
      obtain ⟨wm, hat, hwm⟩ := at_words r0 r3
      refine ⟨_, rfl, q, _, 1, .ref pr', rfl, rfl, .inl h1', atI_nat (j := 1) rfl, pr', rvs', rfl, .inr (.inl h2'), _, _, rfl, rfl, _, rfl, ite2 (fun _ => ?_) (fun _ => ?_)⟩
      rotate_left
      · refine ⟨0, rfl, by decide, by decide, for_range (lo := 0) (n := 0) (fun j σ H3 => (∃ y6 y7 y8 y9 y10 y11, σ = [some (V.ref l), some (V.ref a), some (V.int (0 + i)), some (V.int (1 + r)), some (V.ref q), some (V.ref Lf), y6, y7, y8, y9, y10, y11]) ∧ ∃ cells' n', Sta K (fun b => Bd a c b ∨ b = Lf) a c cells' n' (.ref q) (1 + r) rws vds [] H3 ∧ n6 ≤ n' ∧ n' ≤ n6 + 128 + 3 * (j : Int)) ⟨⟨_, _, _, _, _, _, rfl⟩, cells', n', st2, by omega, by omega⟩ (fun k σ H' hk => absurd hk (Nat.not_lt_zero _)) ?_⟩
        rintro σ H3 ⟨⟨z6, z7, z8, z9, z10, z11, rfl⟩, cells3, n3, st3, g3, g4⟩
        exact ⟨⟨_, _, _, _, _, _, _, _, _, _, rfl⟩, cells3, n3, st3.dk, by omega, by omega⟩
      · refine ⟨25, rfl, by decide, by decide, for_range (lo := 0) (n := 25) (fun j σ H3 => (∃ y6 y7 y8 y9 y10 y11, σ = [some (V.ref l), some (V.ref a), some (V.int (0 + i)), some (V.int (1 + r)), some (V.ref q), some (V.ref Lf), y6, y7, y8, y9, y10, y11]) ∧ ∃ cells' n', Sta K (fun b => Bd a c b ∨ b = Lf) a c cells' n' (.ref q) (1 + r) rws vds [] H3 ∧ n6 ≤ n' ∧ n' ≤ n6 + 128 + 3 * (j : Int)) ⟨⟨_, _, _, _, _, _, rfl⟩, cells', n', st2, by omega, by omega⟩ ?_ ?_⟩
        rotate_left
        · rintro σ H3 ⟨⟨z6, z7, z8, z9, z10, z11, rfl⟩, cells3, n3, st3, g3, g4⟩
          exact ⟨⟨_, _, _, _, _, _, _, _, _, _, rfl⟩, cells3, n3, st3.dk, by omega, by omega⟩
        · rintro k σ H3 hk ⟨⟨z6, z7, z8, z9, z10, z11, rfl⟩, cells3, n3, st3, g3, g4⟩
          refine ⟨_, rfl, by show 4 ≤ sizeLine; decide, fun p4 G4' s4 np4 ns4 lp4 => ⟨_, rfl, p4, _, 1 + r, .int wm, rfl, rfl, SqL.of lp4, hat, 1 + r, wm, rfl, hwm, fun Hw pw ws sw nw lw wne wlen gw => ?_⟩⟩
          have st5 := (st3.same s4).same sw
          have nbw : ¬ Bd a c pw := deck_off (deck_same s4 st3.dk) nw
          refine ⟨_, rfl, _, rfl, a, c, pw, cells3, n3, ws.map V.str, rfl, st5.dk, by omega, by omega, SqL.of lw, nbw, ?_, ?_, fun H5 cells5 x5 hx5 dk5 k5 => ?_⟩
          · simpa using wne
          · rw [List.length_map]
            omega
          obtain ⟨z, rfl, hz⟩ : ∃ z, x5 = V.str z ∧ z ∈ ws := by
            obtain ⟨z, h1, h2⟩ := List.mem_map.mp hx5
            exact ⟨z, h2.symm, h1⟩
          obtain ⟨lz, zl⟩ := gw z hz
          refine ⟨_, rfl, by show 3 ≤ sizeLine; decide, fun p6 G6' s6 np6 ns6 lp6 => ?_⟩
          have st6 := (st5.drawn dk5 k5).same s6
          refine ⟨a, c, p6, cells5, n3 + 1, _, rfl, st6.dk, by omega, by omega, SqL.of lp6, deck_off dk5 np6, List.cons_ne_nil _ _, by decide, fun H7 cells7 x7 hx7 dk7 k7 => ?_⟩
          obtain ⟨m7, rfl, m71, m72⟩ : ∃ m7 : Int, x7 = .int m7 ∧ 1 ≤ m7 ∧ m7 ≤ 30 := by
            simp only [List.mem_cons, List.not_mem_nil, or_false] at hx7
            rcases hx7 with hx | hx | hx <;> exact ⟨_, hx, by decide, by decide⟩
          refine ⟨z, m7, rfl, rfl, mulOk_of 9 30 zl m72 (by omega) (by decide) (by decide), ?_⟩
          have lw7 := k7 _ _ nbw (s6 _ _ (k5 _ _ nbw lw))
          refine ⟨_, rfl, _, rfl, a, c, pw, cells7, n3 + 1 + 1, ws.map V.str, rfl, dk7, by omega, by omega, SqL.of lw7, nbw, ?_, ?_, fun H8 cells8 x8 hx8 dk8 k8 => ?_⟩
          · simpa using wne
          · rw [List.length_map]
            omega
          obtain ⟨z8, rfl, hz8⟩ : ∃ z, x8 = V.str z ∧ z ∈ ws := by
            obtain ⟨z, h1, h2⟩ := List.mem_map.mp hx8
            exact ⟨z, h2.symm, h1⟩
          obtain ⟨lz8, zl8⟩ := gw z8 hz8
          refine ⟨_, _, rfl, ?_⟩
          have st8 := (st6.drawn dk7 k7).drawn dk8 k8
          have lm := let_mul lz m7
          have ml := mul_len zl m71 m72
          generalize Txt.mul z m7 = zm at *
          refine ⟨_, rfl, _, rfl, _, rfl, _, .ref q, zm, z8, 1 + r, rws, vds, rfl, st8.cm, lm, lz8, by omega, by omega, fun H9 s9 => ?_⟩
          have st9 := st8.same s9
          refine ⟨_, rfl, _, rfl, _, rfl, _, .ref q, z8, zm, 1 + r, rws, vds, rfl, st9.cm, lz8, lm, by omega, by omega, fun H10 s10 => ?_⟩
          have st10 := st9.same s10
          refine ⟨by show 2 ≤ sizeLine; decide, fun p11 G11' s11 np11 ns11 lp11 => ?_⟩
          have st11 := st10.same s11
          refine ⟨_, rfl, _, rfl, _, rfl, _, .ref q, zm, z8, 1 + r, rws, vds, rfl, st11.cm, lm, lz8, by omega, by omega, fun H12 s12 => ?_⟩
          have st12 := st11.same s12
          refine ⟨_, rfl, _, rfl, _, rfl, _, .ref q, z8, zm, 1 + r, rws, vds, rfl, st12.cm, lz8, lm, by omega, by omega, fun H13 s13 => ?_⟩
          have st13' := st12.same s13
          refine ⟨by show 2 ≤ sizeLine; decide, fun p14 G14' s14 np14 ns14 lp14 => ?_⟩
          have st14 := st13'.same s14
          obtain ⟨o1, o2, o3⟩ := ver_ok (verd_in st14.cm.vb (goRow (1 + r) rws zm z8 (max zm.length z8.length))) (verd_in st14.cm.vb (goRow (1 + r) rws z8 zm (max z8.length zm.length)))
          refine ⟨.ref p14, _, fun _ => False, rfl, .lst (fun z => z) ns14 (.inl lp14) (.cons (.int _) (.cons (.int _) .nil)), o1, o2, o3, ?_⟩
          refine ⟨_, rfl, .ref p11, _, fun _ => False, rfl, .lst (fun z => z) ns11 (.inl (s14 _ _ (s13 _ _ (s12 _ _ lp11)))) (.cons (.int _) (.cons (.int _) .nil)), o1, o2, o3, ?_⟩
          refine ⟨rfl, _, rfl, ite2 (fun h => absurd h (str_ne_false _)) (fun _ => ?_)⟩
          exact ⟨⟨_, _, _, _, _, _, rfl⟩, cells8, n3 + 1 + 1 + 1, st14, by omega, by omega⟩
end
theorem all_mk {l : PySem.W.OpenLaw} {w : World} {K : PySem.W.Frag} {h : Heap} {mg : Str → Option Value} {fa f0 f1 f2 f3 f4 f5 f6 f7 f8 f9 f10 f11 f12 f13 f14 f15 f16 f17 : Addr} (inK : K.In h) (atG : h.Ns mainGlobals mg) (hfa : mg "law" = some (.ref fa))
    {odd0 and0 odd1 and1 odd2 and2 odd3 and3 odd4 and4 odd5 and5 odd6 and6 odd7 and7 odd8 and8 odd9 and9 odd10 and10 odd11 and11 odd12 and12 odd13 and13 odd14 and14 odd15 and15 odd16 and16 odd17 and17 : Option Addr} {sld0 sld1 sld2 sld3 sld4 sld5 sld6 sld7 sld8 sld9 sld10 sld11 sld12 sld13 sld14 sld15 sld16 sld17 : Array (Option Value)} {ocd0 kVd0 dcd0 pmd0 cdd0 ctd0 ocd1 kVd1 dcd1 pmd1 cdd1 ctd1 ocd2 kVd2 dcd2 pmd2 cdd2 ctd2 ocd3 kVd3 dcd3 pmd3 cdd3 ctd3 ocd4 kVd4 dcd4 pmd4 cdd4 ctd4 ocd5 kVd5 dcd5 pmd5 cdd5 ctd5 ocd6 kVd6 dcd6 pmd6 cdd6 ctd6 ocd7 kVd7 dcd7 pmd7 cdd7 ctd7 ocd8 kVd8 dcd8 pmd8 cdd8 ctd8 ocd9 kVd9 dcd9 pmd9 cdd9 ctd9 ocd10 kVd10 dcd10 pmd10 cdd10 ctd10 ocd11 kVd11 dcd11 pmd11 cdd11 ctd11 ocd12 kVd12 dcd12 pmd12 cdd12 ctd12 ocd13 kVd13 dcd13 pmd13 cdd13 ctd13 ocd14 kVd14 dcd14 pmd14 cdd14 ctd14 ocd15 kVd15 dcd15 pmd15 cdd15 ctd15 ocd16 kVd16 dcd16 pmd16 cdd16 ctd16 ocd17 kVd17 dcd17 pmd17 cdd17 ctd17 : Value} {t0 t1 t2 : Tok}
    (a0 : PySem.W.nsIn K mainGlobals "is_integer" = some (some (.ref f0)))
    (l0 : K.lookup f0 = some ⟨ocd0, odd0, .func (PySem.W.fnOf "is_integer" "is_integer" (defArgs sInteger) (defBody sInteger) (defScope sInteger) .none kVd0 dcd0 pmd0 and0 cdd0 ctd0), sld0⟩)
    (c0 : PySem.W.codeIn K cdd0 "is_integer" = true)
    (k0 : PySem.W.keepIn K (.ref f0) = true)
    (a1 : PySem.W.nsIn K mainGlobals "is_number" = some (some (.ref f1)))
    (l1 : K.lookup f1 = some ⟨ocd1, odd1, .func (PySem.W.fnOf "is_number" "is_number" (defArgs sNumber) (defBody sNumber) (defScope sNumber) .none kVd1 dcd1 pmd1 and1 cdd1 ctd1), sld1⟩)
    (c1 : PySem.W.codeIn K cdd1 "is_number" = true)
    (k1 : PySem.W.keepIn K (.ref f1) = true)
    (a2 : PySem.W.nsIn K mainGlobals "comp_error" = some (some (.ref f2)))
    (l2 : K.lookup f2 = some ⟨ocd2, odd2, .func (PySem.W.fnOf "comp_error" "comp_error" (defArgs sCErr) (defBody sCErr) (defScope sCErr) .none kVd2 dcd2 pmd2 and2 cdd2 ctd2), sld2⟩)
    (c2 : PySem.W.codeIn K cdd2 "comp_error" = true)
    (k2 : PySem.W.keepIn K (.ref f2) = true)
    (a3 : PySem.W.nsIn K mainGlobals "is_comp_row" = some (some (.ref f3)))
    (l3 : K.lookup f3 = some ⟨ocd3, odd3, .func (PySem.W.fnOf "is_comp_row" "is_comp_row" (defArgs sCRow) (defBody sCRow) (defScope sCRow) .none kVd3 dcd3 pmd3 and3 cdd3 ctd3), sld3⟩)
    (c3 : PySem.W.codeIn K cdd3 "is_comp_row" = true)
    (k3 : PySem.W.keepIn K (.ref f3) = true)
    (a4 : PySem.W.nsIn K mainGlobals "columns" = some (some (.ref f4)))
    (l4 : K.lookup f4 = some ⟨ocd4, odd4, .func (PySem.W.fnOf "columns" "columns" (defArgs sCols) (defBody sCols) (defScope sCols) .none kVd4 dcd4 pmd4 and4 cdd4 ctd4), sld4⟩)
    (c4 : PySem.W.codeIn K cdd4 "columns" = true)
    (k4 : PySem.W.keepIn K (.ref f4) = true)
    (a5 : PySem.W.nsIn K mainGlobals "tells" = some (some (.ref f5)))
    (l5 : K.lookup f5 = some ⟨ocd5, odd5, .func (PySem.W.fnOf "tells" "tells" (defArgs sTells) (defBody sTells) (defScope sTells) .none kVd5 dcd5 pmd5 and5 cdd5 ctd5), sld5⟩)
    (c5 : PySem.W.codeIn K cdd5 "tells" = true)
    (k5 : PySem.W.keepIn K (.ref f5) = true)
    (a6 : PySem.W.nsIn K mainGlobals "sign_at" = some (some (.ref f6)))
    (l6 : K.lookup f6 = some ⟨ocd6, odd6, .func (PySem.W.fnOf "sign_at" "sign_at" (defArgs sSignAt) (defBody sSignAt) (defScope sSignAt) .none kVd6 dcd6 pmd6 and6 cdd6 ctd6), sld6⟩)
    (c6 : PySem.W.codeIn K cdd6 "sign_at" = true)
    (k6 : PySem.W.keepIn K (.ref f6) = true)
    (a7 : PySem.W.nsIn K mainGlobals "_law_deck" = some (some (.ref f7)))
    (l7 : K.lookup f7 = some ⟨ocd7, odd7, .func (PySem.W.fnOf "_law_deck" "_law_deck" (defArgs sDeck) (defBody sDeck) (defScope sDeck) .none kVd7 dcd7 pmd7 and7 cdd7 ctd7), sld7⟩)
    (c7 : PySem.W.codeIn K cdd7 "_law_deck" = true)
    (k7 : PySem.W.keepIn K (.ref f7) = true)
    (a8 : PySem.W.nsIn K mainGlobals "_law_draw" = some (some (.ref f8)))
    (l8 : K.lookup f8 = some ⟨ocd8, odd8, .func (PySem.W.fnOf "_law_draw" "_law_draw" (defArgs sDraw) (defBody sDraw) (defScope sDraw) .none kVd8 dcd8 pmd8 and8 cdd8 ctd8), sld8⟩)
    (c8 : PySem.W.codeIn K cdd8 "_law_draw" = true)
    (k8 : PySem.W.keepIn K (.ref f8) = true)
    (a9 : PySem.W.nsIn K mainGlobals "_law_one" = some (some (.ref f9)))
    (l9 : K.lookup f9 = some ⟨ocd9, odd9, .func (PySem.W.fnOf "_law_one" "_law_one" (defArgs sOne) (defBody sOne) (defScope sOne) .none kVd9 dcd9 pmd9 and9 cdd9 ctd9), sld9⟩)
    (c9 : PySem.W.codeIn K cdd9 "_law_one" = true)
    (k9 : PySem.W.keepIn K (.ref f9) = true)
    (a10 : PySem.W.nsIn K mainGlobals "_law_words" = some (some (.ref f10)))
    (l10 : K.lookup f10 = some ⟨ocd10, odd10, .func (PySem.W.fnOf "_law_words" "_law_words" (defArgs sWords) (defBody sWords) (defScope sWords) .none kVd10 dcd10 pmd10 and10 cdd10 ctd10), sld10⟩)
    (c10 : PySem.W.codeIn K cdd10 "_law_words" = true)
    (k10 : PySem.W.keepIn K (.ref f10) = true)
    (a11 : PySem.W.nsIn K mainGlobals "_law_columns" = some (some (.ref f11)))
    (l11 : K.lookup f11 = some ⟨ocd11, odd11, .func (PySem.W.fnOf "_law_columns" "_law_columns" (defArgs sColsL) (defBody sColsL) (defScope sColsL) .none kVd11 dcd11 pmd11 and11 cdd11 ctd11), sld11⟩)
    (c11 : PySem.W.codeIn K cdd11 "_law_columns" = true)
    (k11 : PySem.W.keepIn K (.ref f11) = true)
    (a12 : PySem.W.nsIn K mainGlobals "_law_comp" = some (some (.ref f12)))
    (l12 : K.lookup f12 = some ⟨ocd12, odd12, .func (PySem.W.fnOf "_law_comp" "_law_comp" (defArgs sComp) (defBody sComp) (defScope sComp) .none kVd12 dcd12 pmd12 and12 cdd12 ctd12), sld12⟩)
    (c12 : PySem.W.codeIn K cdd12 "_law_comp" = true)
    (k12 : PySem.W.keepIn K (.ref f12) = true)
    (a13 : PySem.W.nsIn K mainGlobals "_law_tells" = some (some (.ref f13)))
    (l13 : K.lookup f13 = some ⟨ocd13, odd13, .func (PySem.W.fnOf "_law_tells" "_law_tells" (defArgs sTellsL) (defBody sTellsL) (defScope sTellsL) .none kVd13 dcd13 pmd13 and13 cdd13 ctd13), sld13⟩)
    (c13 : PySem.W.codeIn K cdd13 "_law_tells" = true)
    (k13 : PySem.W.keepIn K (.ref f13) = true)
    (a14 : PySem.W.nsIn K mainGlobals "_law_otherwise" = some (some (.ref f14)))
    (l14 : K.lookup f14 = some ⟨ocd14, odd14, .func (PySem.W.fnOf "_law_otherwise" "_law_otherwise" (defArgs sOther) (defBody sOther) (defScope sOther) .none kVd14 dcd14 pmd14 and14 cdd14 ctd14), sld14⟩)
    (c14 : PySem.W.codeIn K cdd14 "_law_otherwise" = true)
    (k14 : PySem.W.keepIn K (.ref f14) = true)
    (a15 : PySem.W.nsIn K mainGlobals "_law_whole" = some (some (.ref f15)))
    (l15 : K.lookup f15 = some ⟨ocd15, odd15, .func (PySem.W.fnOf "_law_whole" "_law_whole" (defArgs sWhole) (defBody sWhole) (defScope sWhole) .none kVd15 dcd15 pmd15 and15 cdd15 ctd15), sld15⟩)
    (c15 : PySem.W.codeIn K cdd15 "_law_whole" = true)
    (k15 : PySem.W.keepIn K (.ref f15) = true)
    (a16 : PySem.W.nsIn K mainGlobals "_law_due" = some (some (.ref f16)))
    (l16 : K.lookup f16 = some ⟨ocd16, odd16, .func (PySem.W.fnOf "_law_due" "_law_due" (defArgs sDue) (defBody sDue) (defScope sDue) .none kVd16 dcd16 pmd16 and16 cdd16 ctd16), sld16⟩)
    (c16 : PySem.W.codeIn K cdd16 "_law_due" = true)
    (k16 : PySem.W.keepIn K (.ref f16) = true)
    (a17 : PySem.W.nsIn K mainGlobals "law" = some (some (.ref f17)))
    (l17 : K.lookup f17 = some ⟨ocd17, odd17, .func (PySem.W.fnOf "law" "law" (defArgs sLaw) (defBody sLaw) (defScope sLaw) .none kVd17 dcd17 pmd17 and17 cdd17 ctd17), sld17⟩)
    (c17 : PySem.W.codeIn K cdd17 "law" = true)
    (k17 : PySem.W.keepIn K (.ref f17) = true)
    (z0 : PySem.W.nsIn K mainGlobals "len" = some none)
    (z1 : PySem.W.nsIn K mainGlobals "int" = some none)
    (z2 : PySem.W.nsIn K mainGlobals "range" = some none)
    (z3 : PySem.W.nsIn K mainGlobals "tuple" = some none)
    (z4 : PySem.W.nsIn K mainGlobals "list" = some none)
    (z5 : PySem.W.nsIn K mainGlobals "isinstance" = some none)
    (z6 : PySem.W.nsIn K mainGlobals "all" = some none)
    (z7 : PySem.W.nsIn K mainGlobals "abs" = some none)
    (z8 : PySem.W.nsIn K mainGlobals "bool" = some none)
    (z9 : PySem.W.nsIn K mainGlobals "repr" = some none)
    (z10 : PySem.W.nsIn K mainGlobals "max" = some none)
    (m0 : PySem.W.nsIn K mainGlobals "MAX_LETTERS" = some (some (.int 3 t0)))
    (m1 : PySem.W.nsIn K mainGlobals "MAX_STANDS" = some (some (.int 60 t1)))
    (m2 : PySem.W.nsIn K mainGlobals "LETTERS" = some (some (.str "abc" t2))) :
    ∃ fd : FuncData, (∀ (s : Shared) (v : Value), BindsTo s fd ⟨[v], []⟩ [("_law_script", v)]) ∧ ∀ base : Heap, K.In base → base.Ns mainGlobals mg → GRun l.prog w K mg base 7 fa fd ["_law_script"] (spLaw K) := by
  have e := hfa.symm.trans (PySem.W.mg_of inK atG a17)
  cases e
  have T : Mg mg := ⟨PySem.W.mg_none_of inK atG z0, PySem.W.mg_none_of inK atG z1, PySem.W.mg_none_of inK atG z2, PySem.W.mg_none_of inK atG z3, PySem.W.mg_none_of inK atG z4, PySem.W.mg_none_of inK atG z5, PySem.W.mg_none_of inK atG z6, PySem.W.mg_none_of inK atG z7, PySem.W.mg_none_of inK atG z8, PySem.W.mg_none_of inK atG z9, PySem.W.mg_none_of inK atG z10, ⟨_, PySem.W.mg_of inK atG m0⟩, ⟨_, PySem.W.mg_of inK atG m1⟩, ⟨_, PySem.W.mg_of inK atG m2⟩⟩
  have F0 := fun_mk (st := sInteger) l0 c0 k0
  have b0 := F0.binds (ps := ["value"]) fun _ _ _ _ _ _ us hl => match us, hl with | [_], _ => rfl
  have g0 := PySem.W.mg_of inK atG a0
  have F1 := fun_mk (st := sNumber) l1 c1 k1
  have b1 := F1.binds (ps := ["value", "least", "most"]) fun _ _ _ _ _ _ us hl => match us, hl with | [_, _, _], _ => rfl
  have g1 := PySem.W.mg_of inK atG a1
  have F2 := fun_mk (st := sCErr) l2 c2 k2
  have b2 := F2.binds (ps := ["value"]) fun _ _ _ _ _ _ us hl => match us, hl with | [_], _ => rfl
  have g2 := PySem.W.mg_of inK atG a2
  have F3 := fun_mk (st := sCRow) l3 c3 k3
  have b3 := F3.binds (ps := ["value", "letters", "many"]) fun _ _ _ _ _ _ us hl => match us, hl with | [_, _, _], _ => rfl
  have g3 := PySem.W.mg_of inK atG a3
  have F4 := fun_mk (st := sCols) l4 c4 k4
  have b4 := F4.binds (ps := ["letters"]) fun _ _ _ _ _ _ us hl => match us, hl with | [_], _ => rfl
  have g4 := PySem.W.mg_of inK atG a4
  have F5 := fun_mk (st := sTells) l5 c5 k5
  have b5 := F5.binds (ps := ["comp", "one", "other"]) fun _ _ _ _ _ _ us hl => match us, hl with | [_, _, _], _ => rfl
  have g5 := PySem.W.mg_of inK atG a5
  have F6 := fun_mk (st := sSignAt) l6 c6 k6
  have b6 := F6.binds (ps := ["word", "place", "letters"]) fun _ _ _ _ _ _ us hl => match us, hl with | [_, _, _], _ => rfl
  have g6 := PySem.W.mg_of inK atG a6
  have F7 := fun_mk (st := sDeck) l7 c7 k7
  have b7 := F7.binds (ps := ["_law_script"]) fun _ _ _ _ _ _ us hl => match us, hl with | [_], _ => rfl
  have g7 := PySem.W.mg_of inK atG a7
  have F8 := fun_mk (st := sDraw) l8 c8 k8
  have b8 := F8.binds (ps := ["_law_deck_here", "_law_most"]) fun _ _ _ _ _ _ us hl => match us, hl with | [_, _], _ => rfl
  have g8 := PySem.W.mg_of inK atG a8
  have F9 := fun_mk (st := sOne) l9 c9 k9
  have b9 := F9.binds (ps := ["_law_deck_here", "_law_items"]) fun _ _ _ _ _ _ us hl => match us, hl with | [_, _], _ => rfl
  have g9 := PySem.W.mg_of inK atG a9
  have F10 := fun_mk (st := sWords) l10 c10 k10
  have b10 := F10.binds (ps := ["_law_letters", "_law_most"]) fun _ _ _ _ _ _ us hl => match us, hl with | [_, _], _ => rfl
  have g10 := PySem.W.mg_of inK atG a10
  have F11 := fun_mk (st := sColsL) l11 c11 k11
  have b11 := F11.binds (ps := ["_law_letters"]) fun _ _ _ _ _ _ us hl => match us, hl with | [_], _ => rfl
  have g11 := PySem.W.mg_of inK atG a11
  have F12 := fun_mk (st := sComp) l12 c12 k12
  have b12 := F12.binds (ps := ["_law_deck_here", "_law_letters", "_law_many"]) fun _ _ _ _ _ _ us hl => match us, hl with | [_, _, _], _ => rfl
  have g12 := PySem.W.mg_of inK atG a12
  have F13 := fun_mk (st := sTellsL) l13 c13 k13
  have b13 := F13.binds (ps := ["_law_comp_here", "_law_one_here", "_law_other"]) fun _ _ _ _ _ _ us hl => match us, hl with | [_, _, _], _ => rfl
  have g13 := PySem.W.mg_of inK atG a13
  have F14 := fun_mk (st := sOther) l14 c14 k14
  have b14 := F14.binds (ps := ["_law_deck_here", "_law_value", "_law_deep"]) fun _ _ _ _ _ _ us hl => match us, hl with | [_, _, _], _ => rfl
  have g14 := PySem.W.mg_of inK atG a14
  have F15 := fun_mk (st := sWhole) l15 c15 k15
  have b15 := F15.binds (ps := ["_law_value", "_law_least", "_law_most"]) fun _ _ _ _ _ _ us hl => match us, hl with | [_, _, _], _ => rfl
  have g15 := PySem.W.mg_of inK atG a15
  have F16 := fun_mk (st := sDue) l16 c16 k16
  have b16 := F16.binds (ps := ["_law_value"]) fun _ _ _ _ _ _ us hl => match us, hl with | [_], _ => rfl
  have g16 := PySem.W.mg_of inK atG a16
  have F17 := fun_mk (st := sLaw) l17 c17 k17
  refine ⟨PySem.W.fnOf "law" "law" (defArgs sLaw) (defBody sLaw) (defScope sLaw) .none kVd17 dcd17 pmd17 and17 cdd17 ctd17, fun s v => .of_eq rfl, fun base _ _ => ?_⟩
  have I := ok_Integer (P := l.prog) (w := w) (mg := mg) (base := base) F0 T
  have N := ok_Number F1 I F0 b0 g0
  have C := ok_cols (P := l.prog) (w := w) (mg := mg) (base := base) F4 T
  have R := ok_cRow F3 N F1 b1 g1 C F4 b4 g4 T
  have ME := ok_cErr F2 N F1 b1 g1 R F3 b3 g3 T
  have S := ok_sign (P := l.prog) (w := w) (mg := mg) (base := base) F6 T
  have TS := ok_tells F5 S F6 b6 g6 T
  have DK := ok_deck (P := l.prog) (w := w) (mg := mg) (base := base) F7 T.abs
  have D := ok_draw (P := l.prog) (w := w) (mg := mg) (base := base) F8 T.len T.int
  have O := ok_one F9 D F8 b8 g8 T.len
  have W := ok_words (P := l.prog) (w := w) (mg := mg) (base := base) F10 T
  have CL := ok_colsL (P := l.prog) (w := w) (mg := mg) (base := base) F11 T
  have CP := ok_comp F12 D F8 b8 g8 O F9 b9 g9 CL F11 b11 g11 T
  have TL := ok_tellsL F13 CL F11 b11 g11 T
  have BT := ok_other F14 g14 b14 D F8 b8 g8 O F9 b9 g9 T 3
  have WH := ok_Whole (P := l.prog) (w := w) (mg := mg) (base := base) F15 T
  have DU := ok_due F16 WH F15 b15 g15 CL F11 b11 g11 T
  exact ok_law F17 DK F7 b7 g7 D F8 b8 g8 O F9 b9 g9 CP F12 b12 g12 BT F14 b14 g14 ME F2 b2 g2 DU F16 b16 g16 W F10 b10 g10 TL F13 b13 g13 TS F5 b5 g5 T
end Ver
open PySem PySem.W PyProof.Rows in
set_option maxRecDepth 100000 in
set_option maxHeartbeats 0 in
theorem PySem.Challenge.cw_sortedshelves_k36_comparisons_with_error_holds : PySem.Challenge.rw_sortedshelves_k36_comparisons_with_error.Holds := by
  w_on; o_law; k_head; (case hw => w_witness2)
  k_fill
  refine Ver.gwalk (l := PySem.Challenge.rw_sortedshelves_k36_comparisons_with_error) (n := 63) (k := 7) (x := "_law_script") (sp := fun w => Ver.spLaw _) rfl (by decide) rfl ⟨rfl, by decide, by decide⟩ (fun w h Y => PySem.W.kIn_of Y) ?F (fun _ _ a ns hl hS => ⟨a, ns, rfl, hS, hl, fun _ => rfl⟩)
  case F =>
    intro w mg fa h inK atG hmg
    refine' Ver.all_mk inK atG hmg ?a0 ?l0 ?c0 ?k0 ?a1 ?l1 ?c1 ?k1 ?a2 ?l2 ?c2 ?k2 ?a3 ?l3 ?c3 ?k3 ?a4 ?l4 ?c4 ?k4 ?a5 ?l5 ?c5 ?k5 ?a6 ?l6 ?c6 ?k6 ?a7 ?l7 ?c7 ?k7 ?a8 ?l8 ?c8 ?k8 ?a9 ?l9 ?c9 ?k9 ?a10 ?l10 ?c10 ?k10 ?a11 ?l11 ?c11 ?k11 ?a12 ?l12 ?c12 ?k12 ?a13 ?l13 ?c13 ?k13 ?a14 ?l14 ?c14 ?k14 ?a15 ?l15 ?c15 ?k15 ?a16 ?l16 ?c16 ?k16 ?a17 ?l17 ?c17 ?k17 ?z0 ?z1 ?z2 ?z3 ?z4 ?z5 ?z6 ?z7 ?z8 ?z9 ?z10 ?m0 ?m1 ?m2
    (case a0 => k_is)
    (case l0 => k_is)
    (case c0 => k_is)
    (case k0 => k_is)
    (case a1 => k_is)
    (case l1 => k_is)
    (case c1 => k_is)
    (case k1 => k_is)
    (case a2 => k_is)
    (case l2 => k_is)
    (case c2 => k_is)
    (case k2 => k_is)
    (case a3 => k_is)
    (case l3 => k_is)
    (case c3 => k_is)
    (case k3 => k_is)
    (case a4 => k_is)
    (case l4 => k_is)
    (case c4 => k_is)
    (case k4 => k_is)
    (case a5 => k_is)
    (case l5 => k_is)
    (case c5 => k_is)
    (case k5 => k_is)
    (case a6 => k_is)
    (case l6 => k_is)
    (case c6 => k_is)
    (case k6 => k_is)
    (case a7 => k_is)
    (case l7 => k_is)
    (case c7 => k_is)
    (case k7 => k_is)
    (case a8 => k_is)
    (case l8 => k_is)
    (case c8 => k_is)
    (case k8 => k_is)
    (case a9 => k_is)
    (case l9 => k_is)
    (case c9 => k_is)
    (case k9 => k_is)
    (case a10 => k_is)
    (case l10 => k_is)
    (case c10 => k_is)
    (case k10 => k_is)
    (case a11 => k_is)
    (case l11 => k_is)
    (case c11 => k_is)
    (case k11 => k_is)
    (case a12 => k_is)
    (case l12 => k_is)
    (case c12 => k_is)
    (case k12 => k_is)
    (case a13 => k_is)
    (case l13 => k_is)
    (case c13 => k_is)
    (case k13 => k_is)
    (case a14 => k_is)
    (case l14 => k_is)
    (case c14 => k_is)
    (case k14 => k_is)
    (case a15 => k_is)
    (case l15 => k_is)
    (case c15 => k_is)
    (case k15 => k_is)
    (case a16 => k_is)
    (case l16 => k_is)
    (case c16 => k_is)
    (case k16 => k_is)
    (case a17 => k_is)
    (case l17 => k_is)
    (case c17 => k_is)
    (case k17 => k_is)
    (case z0 => k_is)
    (case z1 => k_is)
    (case z2 => k_is)
    (case z3 => k_is)
    (case z4 => k_is)
    (case z5 => k_is)
    (case z6 => k_is)
    (case z7 => k_is)
    (case z8 => k_is)
    (case z9 => k_is)
    (case z10 => k_is)
    (case m0 => k_is)
    (case m1 => k_is)
    (case m2 => k_is)
#print axioms PySem.Challenge.cw_sortedshelves_k36_comparisons_with_error_holds
