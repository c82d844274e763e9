import PyProof.Rows.All
import Wide.All
import OpenK.AllK
import Wide.FinOn
import PyProof.ReprRoads
import HandS.ForMost
import HandS.Conv
import HandS.IsInst
import HandS.TupAny
import HandS.TupMul
import HandS.Wide
import HandS.Style
import HandS.Evl
import PyProof.ReprLen
import PySem.Challenge.RW_sortedshelves_k10_what_are_no_machines
set_option Elab.async false
set_option linter.all false
set_option maxRecDepth 100000
set_option maxHeartbeats 8000000
namespace Ver
open PySem PySem.Spec PyProof.Rows L2

/-! ### data as it lies in the heap, apart from the addresses in B -/
mutual
inductive Dt (B : Addr → Prop) (K : PySem.W.Frag) (H : Hp) : V → PyData → Prop
  | non : Dt B K H .non .none
  | bl (b : Bool) : Dt B K H (.bl b) (.bool b)
  | int (i : Int) : Dt B K H (.int i) (.int i)
  | str (x : Str) : Dt B K H (.str x) (.str x)
  | lst {a : Addr} {xs : List V} {ds : List PyData} (nb : ¬ B a) (ne : a ≠ sysModules) (hs : Rd H a (.lst xs)) (ha : DtAll B K H xs ds) : Dt B K H (.ref a) (.list ds)
  | tup {a : Addr} {xs : List V} {ds : List PyData} (nb : ¬ B a) (hs : Rd H a (.tup xs)) (ha : DtAll B K H xs ds) : Dt B K H (.ref a) (.tuple ds)
  | emp {a : Addr} (nb : ¬ B a) (h : H a = some (.dK [])) : Dt B K H (.ref a) (.dict [])
inductive DtAll (B : Addr → Prop) (K : PySem.W.Frag) (H : Hp) : List V → List PyData → Prop
  | nil : DtAll B K H [] []
  | cons {v : V} {vs : List V} {d : PyData} {ds : List PyData} (hd : Dt B K H v d) (tl : DtAll B K H vs ds) : DtAll B K H (v :: vs) (d :: ds)
end

/-- all that is tracked outside of B stays -/
def Keep (B : Addr → Prop) (H H' : Hp) : Prop := ∀ b o, ¬ B b → H b = some o → H' b = some o
theorem Keep.rfl' {B : Addr → Prop} {H : Hp} : Keep B H H := fun _ _ _ e => e
theorem Keep.trans {B : Addr → Prop} {H H1 H2 : Hp} (x : Keep B H H1) (y : Keep B H1 H2) : Keep B H H2 := fun b o n e => y b o n (x b o n e)
theorem Keep.same {B : Addr → Prop} {H H' : Hp} (x : Same H H') : Keep B H H' := fun b o _ e => x b o e
theorem keep_new {B : Addr → Prop} {H : Hp} {p : Addr} {o : HO} (n : H p = none) : Keep B H (upd H p o) := fun b u _ e => by
  rw [upd_ne (ne_of_none e n)]
  exact e
theorem same_new {H : Hp} {p : Addr} {o : HO} (n : H p = none) : Same H (upd H p o) := fun b u e => by
  rw [upd_ne (ne_of_none e n)]
  exact e
theorem Keep.rd {B : Addr → Prop} {H H' : Hp} {a : Addr} {o : HO} (k : Keep B H H') (nb : ¬ B a) (h : Rd H a o) : Rd H' a o := by
  rcases h with h | ⟨u, h⟩
  · exact .inl (k _ _ nb h)
  · exact .inr ⟨u, k _ _ nb h⟩
theorem Keep.seqL {B : Addr → Prop} {K : PySem.W.Frag} {H H' : Hp} {a : Addr} {xs : List V} (k : Keep B H H') (nb : ¬ B a) (h : SqL K H a xs) : SqL K H' a xs := by
  rcases h with (h | ⟨o, h⟩) | h
  · exact .inl (.inl (k _ _ nb h))
  · exact .inl (.inr ⟨o, k _ _ nb h⟩)
  · exact .inr h
theorem Keep.seqT {B : Addr → Prop} {K : PySem.W.Frag} {H H' : Hp} {a : Addr} {xs : List V} (k : Keep B H H') (nb : ¬ B a) (h : SqT K H a xs) : SqT K H' a xs := by
  rcases h with (h | ⟨o, h⟩) | h
  · exact .inl (.inl (k _ _ nb h))
  · exact .inl (.inr ⟨o, k _ _ nb h⟩)
  · exact .inr h
mutual
theorem Dt.keep {B : Addr → Prop} {K : PySem.W.Frag} {H H' : Hp} (k : Keep B H H') : ∀ (d : PyData) (v : V), Dt B K H v d → Dt B K H' v d
  | .none, _, h => by cases h; exact .non
  | .bool _, _, h => by cases h; exact .bl _
  | .int _, _, h => by cases h; exact .int _
  | .str _, _, h => by cases h; exact .str _
  | .list ds, _, h => by
    cases h with
    | lst nb ne hs ha => exact .lst nb ne (k.rd nb hs) (DtAll.keep k ds _ ha)
  | .tuple ds, _, h => by
    cases h with
    | tup nb hs ha => exact .tup nb (k.rd nb hs) (DtAll.keep k ds _ ha)
  | .dict _, _, h => by
    cases h with
    | emp nb e => exact .emp nb (k _ _ nb e)
theorem DtAll.keep {B : Addr → Prop} {K : PySem.W.Frag} {H H' : Hp} (k : Keep B H H') : ∀ (ds : List PyData) (vs : List V), DtAll B K H vs ds → DtAll B K H' vs ds
  | [], _, h => by cases h; exact .nil
  | d :: ds, _, h => by
    cases h with
    | cons h1 h2 => exact .cons (Dt.keep k d _ h1) (DtAll.keep k ds _ h2)
end
theorem DtAll.len {B : Addr → Prop} {K : PySem.W.Frag} {H : Hp} : ∀ {vs : List V} {ds : List PyData}, DtAll B K H vs ds → vs.length = ds.length
  | _, _, .nil => rfl
  | _, _, .cons _ t => congrArg (· + 1) (DtAll.len t)
theorem DtAll.append {B : Addr → Prop} {K : PySem.W.Frag} {H : Hp} : ∀ {vs ws : List V} {ds es : List PyData}, DtAll B K H vs ds → DtAll B K H ws es → DtAll B K H (vs ++ ws) (ds ++ es)
  | _, _, _, _, .nil, q => q
  | _, _, _, _, .cons r t, q => .cons r (DtAll.append t q)
theorem DtAll.take {B : Addr → Prop} {K : PySem.W.Frag} {H : Hp} : ∀ {vs : List V} {ds : List PyData} (n : Nat), DtAll B K H vs ds → DtAll B K H (vs.take n) (ds.take n)
  | _, _, 0, _ => .nil
  | _, _, _ + 1, .nil => .nil
  | _, _, n + 1, .cons r t => .cons r (DtAll.take n t)
theorem DtAll.drop {B : Addr → Prop} {K : PySem.W.Frag} {H : Hp} : ∀ {vs : List V} {ds : List PyData} (n : Nat), DtAll B K H vs ds → DtAll B K H (vs.drop n) (ds.drop n)
  | _, _, 0, h => h
  | _, _, _ + 1, .nil => .nil
  | _, _, n + 1, .cons _ t => DtAll.drop n t
theorem DtAll.get {B : Addr → Prop} {K : PySem.W.Frag} {H : Hp} : ∀ {vs : List V} {ds : List PyData} {i : Nat} {d : PyData}, DtAll B K H vs ds → ds[i]? = some d → ∃ v, vs[i]? = some v ∧ Dt B K H v d
  | _, _, _, _, .nil, e => by simp at e
  | _, _, 0, _, .cons r _, e => by
    simp at e
    subst e
    exact ⟨_, rfl, r⟩
  | _, _, i + 1, _, .cons _ t, e => by
    obtain ⟨v, h1, h2⟩ := DtAll.get (i := i) t (by simpa using e)
    exact ⟨v, by simpa using h1, h2⟩
theorem DtAll.getV {B : Addr → Prop} {K : PySem.W.Frag} {H : Hp} : ∀ {vs : List V} {ds : List PyData} {i : Nat} {v : V}, DtAll B K H vs ds → vs[i]? = some v → ∃ d, ds[i]? = some d ∧ Dt B K H v d
  | _, _, _, _, .nil, e => by simp at e
  | _, _, 0, _, .cons r _, e => by
    simp at e
    subst e
    exact ⟨_, rfl, r⟩
  | _, _, i + 1, _, .cons _ t, e => by
    obtain ⟨v, h1, h2⟩ := DtAll.getV (i := i) t (by simpa using e)
    exact ⟨v, by simpa using h1, h2⟩
theorem DtAll.rev {B : Addr → Prop} {K : PySem.W.Frag} {H : Hp} : ∀ {vs : List V} {ds : List PyData}, DtAll B K H vs ds → DtAll B K H vs.reverse ds.reverse
  | _, _, .nil => .nil
  | _, _, .cons r t => by
    rw [List.reverse_cons, List.reverse_cons]
    exact (DtAll.rev t).append (.cons r .nil)
theorem DtAll.rep {B : Addr → Prop} {K : PySem.W.Frag} {H : Hp} {v : V} {d : PyData} (h : Dt B K H v d) : ∀ n : Nat, DtAll B K H (List.replicate n v) (List.replicate n d)
  | 0 => .nil
  | n + 1 => .cons h (DtAll.rep h n)

section
variable {X : Cx} {pins : List (Addr × Obj)} {σ : L2.St} {H : Hp} {s : Shared}
theorem no_entries {knd : KeyKind X.prog X.w Key} {es : List DictEntry} (h : PySem.Pairs knd es ([] : List (Key × Value))) : es = [] := by
  cases h
  rfl
mutual
theorem Dt.reads {B : Addr → Prop} (I : Inv X pins σ H s) : ∀ (d : PyData) (v : V) (u : Value), Dt B X.K H v d → RelV v u → ∃ as, Reads s.heap u d as ∧ sysModules ∉ as
  | .none, _, _, h, r => by
    cases h
    cases r
    exact ⟨[], .none, List.not_mem_nil⟩
  | .bool b, _, _, h, r => by
    cases h
    cases r
    exact ⟨[], .bool b, List.not_mem_nil⟩
  | .int i, _, _, h, r => by
    cases h
    obtain ⟨t, rfl⟩ := r
    exact ⟨[], .int i t, List.not_mem_nil⟩
  | .str x, _, _, h, r => by
    cases h
    obtain ⟨t, rfl⟩ := r
    exact ⟨[], .str x t, List.not_mem_nil⟩
  | .list ds, _, _, h, r => by
    cases h with
    | lst nb ne hs ha =>
      cases r
      obtain ⟨its, rv, ⟨ob, n, ho, hc, _, hd⟩, _⟩ := I.list (.inl hs)
      obtain ⟨as, hr, hn⟩ := DtAll.reads I ds _ its ha rv
      refine ⟨_, .list ho hc hd hr, fun z => ?_⟩
      rcases List.mem_cons.mp z with z | z
      · exact ne z.symm
      · exact hn z
  | .tuple ds, _, _, h, r => by
    cases h with
    | tup nb hs ha =>
      cases r
      obtain ⟨its, rv, ⟨ob, ho, hc, n, hd⟩, _⟩ := I.tuple (.inl hs)
      obtain ⟨as, hr, hn⟩ := DtAll.reads I ds _ its ha rv
      exact ⟨_, .tuple ho hc hd hr, hn⟩
  | .dict _, _, _, h, r => by
    cases h with
    | emp nb e =>
      cases r
      obtain ⟨_, hm, vs, rel, ob, es, ep, ho, hx, hd, _, hp, _⟩ := dk_of I.hok e
      cases rel
      have he := no_entries hp
      refine ⟨_, .dict (kvs := []) ho hx.1 hd (by rw [he]; exact .nil) (by rw [he]; exact .nil), fun z => ?_⟩
      rcases List.mem_cons.mp z with z | z
      · rw [← z] at hm
        simp at hm
      · simp at z
theorem DtAll.reads {B : Addr → Prop} (I : Inv X pins σ H s) : ∀ (ds : List PyData) (vs : List V) (us : List Value), DtAll B X.K H vs ds → Vals vs us → ∃ as, ReadsAll s.heap us ds as ∧ sysModules ∉ as
  | [], _, _, h, r => by
    cases h
    cases r
    exact ⟨[], .nil, List.not_mem_nil⟩
  | d :: ds, _, _, h, r => by
    cases h with
    | cons h1 h2 =>
      cases r with
      | cons r1 r2 =>
        obtain ⟨as, q1, n1⟩ := Dt.reads I d _ _ h1 r1
        obtain ⟨bs, q2, n2⟩ := DtAll.reads I ds _ _ h2 r2
        refine ⟨_, .cons q1 q2, fun z => ?_⟩
        rcases List.mem_append.mp z with z | z
        · exact n1 z
        · exact n2 z
end
end

/-! ### repr -/
section
variable {X : Cx}
def rRepr (K : PySem.W.Frag) : List V → Hp → VK → Prop := fun xs H Q => ∃ (x : V) (d : PyData) (B : Addr → Prop), xs = [x] ∧ Dt B K H x d ∧ d.showable = true ∧ d.depth ≤ 60 ∧ d.shown.length ≤ sizeLine ∧ Q (.str d.shown) H
theorem call_reprD (hG : X.A.guards = some []) (hu : X.A.units + 64 < cLine) : CallR X (.builtin "repr") (rRepr X.K) := by
  intro pins s σ H xs us Q I r h
  obtain ⟨x, d, B, rfl, hd, hs, hdp, hz, q⟩ := h
  obtain ⟨u, rfl, rx⟩ := vals1 r
  obtain ⟨as, rd, hn⟩ := Dt.reads I d x u hd rx
  cases hd with
  | non =>
    cases rx
    exact PySem.P.repr_of_none ⟨.str _, H, I.tok _, ⟨_, rfl⟩, q⟩
  | bl b =>
    cases rx
    exact PySem.P.repr_of_bool ⟨.str _, H, I.tok _, ⟨_, rfl⟩, q⟩
  | int i =>
    obtain ⟨t, rfl⟩ := rx
    exact PySem.P.repr_of_int (by simpa [PyData.showable] using hs) ⟨.str _, H, I.tok _, ⟨_, rfl⟩, q⟩
  | str y =>
    obtain ⟨t, rfl⟩ := rx
    exact PySem.P.repr_of_str ⟨.str _, H, I.tok _, ⟨_, rfl⟩, q⟩ (by simpa only [PyData.shown] using hz)
  | lst nb ne hs' ha =>
    cases rx
    exact repr_of_reads' rd hs (fun _ => hn) hG (by omega) (fun _ _ e => e) (fun h' u tk hk => ⟨.str _, H, I.kept hk, ⟨_, rfl⟩, q⟩) hz
  | tup nb hs' ha =>
    cases rx
    exact repr_of_reads' rd hs (fun _ => hn) hG (by omega) (fun _ _ e => e) (fun h' u tk hk => ⟨.str _, H, I.kept hk, ⟨_, rfl⟩, q⟩) hz
  | emp nb e =>
    cases rx
    exact repr_of_reads' rd hs (fun _ => hn) hG (by omega) (fun _ _ e => e) (fun h' u tk hk => ⟨.str _, H, I.kept hk, ⟨_, rfl⟩, q⟩) hz
end
end Ver
namespace Ver
open PySem PySem.Spec PyProof.Rows L2

/-! ### a def called where nothing is being shown (no repr under way) -/
section
variable {P : Program} {w : World} {K : PySem.W.Frag} {mg : Str → Option Value} {base : Heap}
def GRun (P : Program) (w : World) (K : PySem.W.Frag) (mg : Str → Option Value) (base : Heap) (k : Nat) (f : Addr) (fd : FuncData) (ps : List Str) (sp : Sp) : Prop :=
  ∀ (A : Around) (outer : List Env) (s : Shared) (H : Hp) (us : List Value) (vs : List V) (Q : VK),
    A.guards = some [] → Room k A → Env0 P w K mg base A outer s H → BindsTo s fd ⟨us, []⟩ (ps.zip us) → Vals vs us → vs.length = ps.length → sp vs H Q E0 →
    codeAny (model P w) A (.call (.ref f) ⟨us, []⟩) (CR CX0 outer P w H s Q E0) s
theorem grun {x qual : Str} {st : Stmt} {f : Addr} {fd : FuncData} {N ps : List Str} {k : Nat} {sp : Sp} (F : Fun K x qual st f fd) (S : FnScope N ps (defScope st))
    (body : ∀ (cdv : Value) (A : Around) (outer : List Env) (s : Shared) (H : Hp) (vs : List V) (Q : VK), A.guards = some [] → Room k (A.deeper (envOfC qual (defScope st) s.heap.objs.size f cdv)) → sp vs H Q E0 →
      ∃ t, PSs (cxOf CX0 P w K mg base N qual (defScope st) f cdv A outer s H E0).nox (defBody st) t ∧ t { nx := fun _ H' => Q .non H', rt := Q } (start N vs) H) :
    GRun P w K mg base (k + 1) f fd ps sp := by
  obtain ⟨oc, od, kV, doc, pm, an, cdv, ct, osl, rfl, lk, hcd⟩ := F.ex
  intro A outer s H us vs Q hG hr e0 hb r hl hsp
  have inK : K.In s.heap := e0.mod.kin.keeps (fun b o q => (e0.bs b o q).1)
  have noL : s.heap.NoLimit := e0.mod.nolimit.keeps (fun b o q => (e0.bs b o q).1)
  have kinds : ∀ y ∈ ps.zip us, (defScope st).names.lookup y.1 = some .local ∨ ((defScope st).names.lookup y.1 = some .cell ∧ ((cellsFrom (s.heap.objs.size + 1) (defScope st).names []).lookup y.1).isSome = true) := by
    intro y hy
    obtain ⟨n, v⟩ := y
    cases S.par n (List.of_mem_zip hy).1 with
    | inl q => exact Or.inl q
    | inr q => exact Or.inr ⟨q, PySem.W.cellsFrom_some _ _ _ (Or.inl q)⟩
  refine codeAny_call_function hr.depth (inK _ _ lk) rfl S.co S.gen rfl (PySem.W.codeRec_of inK hcd) (hb _ _ _ _ ?_)
  refine wpAny_newFunctionEnv_cells S.kind kinds (fun env he s1 x => ?_)
  cases he
  obtain ⟨t, ht, hq⟩ := body cdv A outer s H vs Q hG (hr.deeper _) hsp
  have J := inv_start (CX := CX0) (mg := mg) (E := E0) S hr.hd e0 hl r x
  refine ⟨noL.keeps x.toInCall.keep, codeAny_func (wpAny_mono (ht.nox.run [] s1 (start N vs) H _ J hq) ?_ (fun e s' z => z))⟩
  intro fl s' z
  cases fl with
  | next =>
    obtain ⟨_, H', J', q⟩ := z
    exact ⟨.non, H', J'.os, J'.bare, J'.base, J'.hok, rfl, q⟩
  | ret u =>
    obtain ⟨v, _, H', J', rv, q⟩ := z
    exact ⟨v, H', J'.os, J'.bare, J'.base, J'.hok, rv, q⟩
  | brk => exact (z.choose_spec.choose_spec.2).elim
  | cont => exact (z.choose_spec.choose_spec.2).elim

/-- called from outside with the object at a, the def at fa answers True and leaves what stood -/
abbrev TrueAt (P : Program) (w : World) (fa a : Addr) (t : Shared) : Prop :=
  codeAny (model P w) callerA (.call (.ref fa) ⟨[.ref a], []⟩)
    (fun r u => r = .ok (.ret (.bool true)) ∧
      OldK t.heap u.heap ∧ u.os = t.os ∧ AllBare u.gens) t
/-- nothing but one list of ints, known, is tracked -/
theorem gcall {k : Nat} {fa a : Addr} {fd : FuncData} {x : Str} {sp : Sp} {s₁ : Shared} {mb : Str → Option Value} {H : Hp}
    (inH : K.In s₁.heap) (atG : s₁.heap.Ns mainGlobals mg) (hb : s₁.heap.Ns builtinsNs mb) (bB : ∀ x : Str, x ≠ "__name__" → mb x = bootBuiltins x) (lim : s₁.heap.NoLimit) (hg : s₁.gens = #[])
    (hr : Room k callerA) (R : ∀ base : Heap, K.In base → base.Ns mainGlobals mg → GRun P w K mg base k fa fd [x] sp) (bind : ∀ (s : Shared) (u : Value), BindsTo s fd ⟨[u], []⟩ [(x, u)])
    (hok : HOk P w H s₁.heap) (only : ∀ b o, H b = some o → b = a ∧ (∃ ob xs, o = .frz ob (.lst xs) ∧ ∀ es ep, ob.data ≠ .dict es ep) ∧ K.lookup a = none)
    (hsp : sp [.ref a] H (fun v _ => v = .bl true) E0) :
    TrueAt P w fa a s₁ := by
  have plain : ∀ {b : Addr} {o : Obj} {es : Array DictEntry} {ep : Nat}, s₁.heap.get? b = some o → o.data = .dict es ep → H b = none := by
    intro b o es ep q d
    cases z : H b with
    | none => rfl
    | some u =>
      obtain ⟨_, ⟨ob, xs, rfl, nd⟩, _⟩ := only b u z
      obtain ⟨q2, _⟩ := hok b _ z
      rw [q] at q2
      cases q2
      exact absurd d (nd es ep)
  have nsB : ∀ {b : Addr} {m : Str → Option Value}, s₁.heap.Ns b m → (hidT s₁.heap H).Ns b m := by
    rintro b m ⟨o, es, ep, q, d, r⟩
    exact ⟨o, es, ep, hidT_get q (plain q d), d, r⟩
  have kB : K.In (hidT s₁.heap H) := by
    intro b o q
    refine hidT_get (inH b o q) ?_
    cases z : H b with
    | none => rfl
    | some u =>
      obtain ⟨e, _, n⟩ := only b u z
      rw [e, n] at q
      cases q
  have md : L2.Mod K mg (hidT s₁.heap H) := by
    obtain ⟨mc, l1, l2⟩ := lim
    exact ⟨kB, nsB atG, ⟨mb, nsB hb, bB⟩, ⟨mc, nsB l1, l2⟩⟩
  have env : Env0 P w K mg (hidT s₁.heap H) callerA [] s₁ H :=
    { frames := rfl, mod := md, bs := fun b o q => of_hidT q, bsz := Nat.le_of_eq (hidT_size _ _), funs := trivial, frf := fun b z => absurd z List.not_mem_nil, hok := hok, bare := .of_eq hg }
  have run := R _ kB (nsB atG) callerA [] s₁ H [.ref a] [.ref a] _ rfl hr env (bind s₁ (.ref a)) (.cons rfl .nil) rfl hsp
  refine codeAny_mono run (fun r s' z => ?_)
  match r, z with
  | .error _, z => exact z.elim
  | .ok .next, z => exact z.elim
  | .ok .brk, z => exact z.elim
  | .ok .cont, z => exact z.elim
  | .ok (.ret u), ⟨v, H', os, bare, un, hok', rv, q⟩ =>
    have q : v = .bl true := q
    cases q
    have rv : u = Value.bool true := rv
    cases rv
    refine ⟨rfl, .of_keep (fun b o e => ?_), os, bare⟩
    cases z : H b with
    | none => exact un.keep b o e z List.not_mem_nil List.not_mem_nil
    | some u =>
      obtain ⟨_, ⟨ob, xs, rfl, _⟩, _⟩ := only b u z
      have g1 := (hok b _ z).1
      have g2 := (hok' b _ (un.frzs b ob _ z)).1
      rw [e] at g1
      cases g1
      exact g2
/-- the law's call, the script tracked or written -/
theorem glaw {k : Nat} {fa a : Addr} {fd : FuncData} {x : Str} {sp : Sp} {s₁ : Shared} {mb : Str → Option Value} {vs : List Value} {ns : List Int}
    (inH : K.In s₁.heap) (atG : s₁.heap.Ns mainGlobals mg) (hb : s₁.heap.Ns builtinsNs mb) (bB : ∀ x : Str, x ≠ "__name__" → mb x = bootBuiltins x) (lim : s₁.heap.NoLimit) (hg : s₁.gens = #[])
    (ha : s₁.heap.get? a = some { cls := .type "list", data := .seq vs.toArray }) (hi : IntsAre vs ns) (hl : ns.length ≤ sizeLine)
    (hr : Room k callerA) (R : ∀ base : Heap, K.In base → base.Ns mainGlobals mg → GRun P w K mg base k fa fd [x] sp) (bind : ∀ (s : Shared) (u : Value), BindsTo s fd ⟨[u], []⟩ [(x, u)])
    (hsp : ∀ H : Hp, SqL K H a (ns.map V.int) → sp [.ref a] H (fun v _ => v = .bl true) E0) :
    TrueAt P w fa a s₁ := by
  have rv := vals_ints hi
  cases q : K.lookup a with
  | some o =>
    have e := (inH a o q).symm.trans ha
    cases e
    refine gcall (H := fun _ => none) inH atG hb bB lim hg hr R bind (fun b u z => by cases z) (fun b u z => by cases z) (hsp _ (.inr ⟨_, vs.toArray, _, q, rfl, rfl, rfl, ?_, by simpa using rv⟩))
    rw [List.size_toArray, hi.length]
    exact hl
  | none =>
    have tr : ∀ b u, upd (fun _ => none) a (.frz { cls := .type "list", data := .seq vs.toArray } (.lst (ns.map V.int))) b = some u → b = a ∧ u = .frz { cls := .type "list", data := .seq vs.toArray } (.lst (ns.map V.int)) := by
      intro b u z
      by_cases h : b = a
      · rw [h, upd_same] at z
        exact ⟨h, (Option.some.inj z).symm⟩
      · rw [upd_ne h] at z
        cases z
    refine gcall (H := upd (fun _ => none) a (.frz { cls := .type "list", data := .seq vs.toArray } (.lst (ns.map V.int)))) inH atG hb bB lim hg hr R bind (fun b u z => ?_) (fun b u z => ?_) (hsp _ (.inl (.inr ⟨_, upd_same⟩)))
    · obtain ⟨rfl, rfl⟩ := tr b u z
      exact ⟨ha, by rw [List.length_map]; exact hl, vs, _, rv, ha⟩
    · obtain ⟨rfl, rfl⟩ := tr b u z
      exact ⟨rfl, ⟨_, _, rfl, fun es ep d => by cases d⟩, q⟩
end
/-- the end of the row's proof -/
theorem gwalk {l : PySem.W.OpenLaw} {n k : Nat} {q : Program} {loose : List Str} {XP : (Str → Option Value) → Heap → Prop} {YP : World → Heap → Prop} {d : DefRec} {K : Params → PySem.W.Frag} {sp : World → Sp} {x : Str}
    (hn : l.most = some n) (hn2 : n ≤ sizeLine) (hdf : d.params.defaults = []) (hr : Room k callerA) (hY : ∀ (w : World) (h : Heap), YP w h → (K w.params).In h)
    (F : ∀ (w : World) (mg : Str → Option Value) (fa : Addr) (h : Heap), (K w.params).In h → h.Ns mainGlobals mg → mg d.name = some (.ref fa) →
      ∃ fd : FuncData, (∀ (s : Shared) (u : Value), BindsTo s fd ⟨[u], []⟩ [(x, u)]) ∧ ∀ base : Heap, (K w.params).In base → base.Ns mainGlobals mg → GRun l.prog w (K w.params) mg base k fa fd [x] (sp w))
    (hsp : ∀ (w : World) (H : Hp) (a : Addr) (ns : List Int), ns.length ≤ n → SqL (K w.params) H a (ns.map V.int) → sp w [.ref a] H (fun v _ => v = .bl true) E0) :
    PySem.W.WalkO q loose XP YP l.row.toRowW d [] (fun f vs => PySem.call f vs) := by
  refine Att.attach_call hn hdf (fun w s₀ s₁ mg mb fa o pm cd doc a vs ns G Y _ _ _ hmg hobj hints hlen hg => ?_)
  have inK := hY w _ Y
  obtain ⟨fd, bind, R⟩ := F w mg fa _ inK G.T.g hmg
  exact glaw inK G.T.g G.T.b G.T.builtins G.T.nolimit hg hobj hints (Nat.le_trans hlen hn2) hr R bind (fun H hS => hsp w H a ns hlen hS)
end Ver
namespace Ver
open PySem PySem.Spec PyProof.Rows L2
/-! ### the text by places -/
def top (i : Nat) : Stmt := PySem.Challenge.pw_sortedshelves_k10_what_are_no_machines.main.body.getD i (.Pass ⟨0, 0, 0, 0⟩)
abbrev sInteger : Stmt := top 3
abbrev sNumber : Stmt := top 4
abbrev sMerr : Stmt := top 6
abbrev sIsRow : Stmt := top 7
abbrev sDeck : Stmt := top 9
abbrev sDraw : Stmt := top 10
abbrev sOne : Stmt := top 11
abbrev sMach : Stmt := top 12
abbrev sBent : Stmt := top 13
abbrev sWhole : Stmt := top 14
abbrev sError : Stmt := top 15
abbrev sLaw : Stmt := top 16
theorem scDeck : FnScope ["_law_script", "_law_cell"] ["_law_script"] (defScope sDeck) := ⟨rfl, rfl, rfl, by decide +kernel, rfl, by decide +kernel, by decide +kernel⟩
theorem scDraw : FnScope ["_law_deck_here", "_law_many", "_law_cell", "_law_at", "_law_mixed"] ["_law_deck_here", "_law_many"] (defScope sDraw) := ⟨rfl, rfl, rfl, by decide +kernel, rfl, by decide +kernel, by decide +kernel⟩
theorem scOne : FnScope ["_law_deck_here", "_law_items"] ["_law_deck_here", "_law_items"] (defScope sOne) := ⟨rfl, rfl, rfl, by decide +kernel, rfl, by decide +kernel, by decide +kernel⟩
end Ver
namespace Ver
open PySem PySem.Spec PyProof.Rows L2
def DeckAt (a c : Addr) (cells : List Int) (n : Int) (H : Hp) : Prop :=
  a ≠ c ∧ H a = some (.lst [.ref c, .int n]) ∧ H c = some (.lst (cells.map V.int)) ∧ cells.length ≤ 63 ∧ (∀ z ∈ cells, 0 ≤ z)
theorem cut_ints (ns : List Int) (lo hi : Option Int) : ∃ ms : List Int, cutV (ns.map V.int) lo hi = ms.map V.int ∧ ms.length ≤ ns.length := by
  unfold cutV
  refine ⟨(ns.drop (HT.sIx (ns.map V.int).length 0 lo)).take (HT.sIx (ns.map V.int).length (ns.map V.int).length hi - HT.sIx (ns.map V.int).length 0 lo), by rw [List.map_take, List.map_drop], ?_⟩
  rw [List.length_take, List.length_drop]
  omega
theorem int_at {ns : List Int} {i : Nat} {x : V} (h : (ns.map V.int)[i]? = some x) : ∃ u, x = V.int u := by
  rw [List.getElem?_map] at h
  obtain ⟨u, _, e⟩ := Option.map_eq_some_iff.mp h
  exact ⟨u, e.symm⟩
section
variable {P : Program} {w : World} {K : PySem.W.Frag} {mg : Str → Option Value} {base : Heap}
def spDeck (K : PySem.W.Frag) : Sp := fun vs H Q _ => ∃ (l : Addr) (ns : List Int), vs = [.ref l] ∧ SqL K H l (ns.map V.int) ∧ ns.length ≤ 63 ∧
  ∀ (H' : Hp) (a c : Addr) (cells : List Int), Same H H' → H a = none → H c = none → DeckAt a c cells 0 H' → Q (.ref a) H'
theorem ok_deck {f : Addr} {fd : FuncData} (F : Fun K "_law_deck" "_law_deck" sDeck f fd) (mAbs : mg "abs" = none) : FnOk P w K mg base CX0 1 f fd ["_law_script"] (spDeck K) := by
  refine F.ok scDeck (fun vs H Q E h => ?_) (fun cdv A outer s H vs Q E hr h => ?_)
  · obtain ⟨l, ns, rfl, _⟩ := h
    rfl
  · obtain ⟨l, ns, rfl, hS, hlen, k⟩ := h
    refine ⟨_, pss_one (ps_ret (pe_lst (pa_cons (pe_lc (own := [("_law_cell", 1)]) (g := gName 1) (tt := tYes) rfl scDeck.nd (pi_list (pe_slice sl_list (pv 0) po_none (po_some pe_int))) (blkOk_by (N := ["_law_script", "_law_cell"]) (sc := defScope sDeck) (by decide +kernel)) (fun _ _ _ _ _ => pg_name (i := 1) scDeck.nd rfl (Or.inl rfl)) (fun _ _ _ _ _ => pts_nil)
      (fun _ _ _ _ _ => pe_callB call_abs (by rfl) mAbs (by decide +kernel) (pa_cons (pv 1) pa_nil))) (pa_cons pe_int pa_nil)))), ?_⟩
    refine ⟨_, rfl, 63, rfl, l, _, rfl, hS, fun p hp => ?_⟩
    obtain ⟨ms, e, hm⟩ := cut_ints ns none (some 63)
    rw [e]
    refine ⟨p, rfl, ⟨_, SqL.of upd_same⟩, fun D hD => ?_⟩
    have np : p ≠ D := ne_of_none upd_same hD
    have hD0 : H D = none := by
      rw [upd_ne np.symm] at hD
      exact hD
    refine lc_list (K := K) (a := p) (xs := ms.map V.int) (fun i H' => Same H H' ∧ H' p = some (.lst (ms.map V.int)) ∧ ∃ cs : List Int, H' D = some (.lst (cs.map V.int)) ∧ cs.length = i ∧ ∀ z ∈ cs, 0 ≤ z) ⟨?_, ?_, [], upd_same, rfl, fun z hz => absurd hz List.not_mem_nil⟩ (fun i H' _ q => SqL.of q.2.1) ?_ ?_
    · exact (same_new hp).trans (same_new hD)
    · rw [upd_ne np, upd_same]
    · rintro i x H' hx ⟨sm, hp', cs, hD', hl, hc⟩
      obtain ⟨u, rfl⟩ := int_at hx
      refine ⟨rfl, ?_⟩
      refine ⟨_, rfl, u, rfl, _, hD', ?_, fun b o z => ?_, ?_, cs ++ [if u < 0 then -u else u], ?_, ?_, ?_⟩
      · have hi := (List.getElem?_eq_some_iff.mp hx).1
        rw [List.length_map] at hi ⊢
        exact small1000 (by omega)
      · rw [upd_ne (ne_of_none z hD0)]
        exact sm _ _ z
      · rw [upd_ne np]
        exact hp'
      · rw [upd_same, List.map_append]
        rfl
      · rw [List.length_append, hl]
        rfl
      · intro z hz
        rcases List.mem_append.mp hz with hz | hz
        · exact hc z hz
        · rw [List.mem_singleton.mp hz]
          split <;> omega
    · rintro H' ⟨sm, hp', cs, hD', hl, hc⟩
      rw [List.length_map] at hl
      refine ⟨(by show 2 ≤ sizeLine; decide), fun a ha => ?_⟩
      have na : D ≠ a := ne_of_none hD' ha
      have ha0 : H a = none := sm.free ha
      refine k _ a D cs (sm.trans (same_new ha)) ha0 hD0 ⟨na.symm, upd_same, ?_, by omega, hc⟩
      rw [upd_ne na]
      exact hD'
end
end Ver
namespace Ver
open PySem PySem.Spec PyProof.Rows L2
/-- the deck's two lists -/
def Bd (a c : Addr) : Addr → Prop := fun b => b = a ∨ b = c
theorem bd_ne {a c b : Addr} {H : Hp} {o : HO} (e : H b = some o) (nl : ∀ xs, o ≠ .lst xs) {xs ys : List V} (ha : H a = some (.lst xs)) (hc : H c = some (.lst ys)) : ¬ Bd a c b := by
  rintro (h | h)
  · rw [h, ha] at e
    exact nl _ (Option.some.inj e).symm
  · rw [h, hc] at e
    exact nl _ (Option.some.inj e).symm
theorem bd_new {a c p : Addr} {H : Hp} {xs ys : List V} (n : H p = none) (ha : H a = some (.lst xs)) (hc : H c = some (.lst ys)) : ¬ Bd a c p := by
  rintro (h | h)
  · rw [h, ha] at n
    cases n
  · rw [h, hc] at n
    cases n
theorem keep_upd {a c x : Addr} {H : Hp} {o : HO} (h : Bd a c x) : Keep (Bd a c) H (upd H x o) := fun b u n e => by
  rw [upd_ne (fun z : b = x => n (z.symm ▸ h))]
  exact e
section
variable {P : Program} {w : World} {K : PySem.W.Frag} {mg : Str → Option Value} {base : Heap}
def spDraw : Sp := fun vs H Q _ => ∃ (a c : Addr) (cells : List Int) (n m : Int), vs = [.ref a, .int m] ∧ DeckAt a c cells n H ∧ 1 ≤ m ∧ m ≤ 1000000 ∧ 0 ≤ n ∧ n ≤ 1000000 ∧
  ∀ (H' : Hp) (cells' : List Int) (r : Int), 0 ≤ r → r < m → DeckAt a c cells' (n + 1) H' → Keep (Bd a c) H H' → Q (.int r) H'
theorem ok_draw {f : Addr} {fd : FuncData} (F : Fun K "_law_draw" "_law_draw" sDraw f fd) (mLen : mg "len" = none) (mInt : mg "int" = none) : FnOk P w K mg base CX0 1 f fd ["_law_deck_here", "_law_many"] spDraw := by
  refine F.ok scDraw (fun vs H Q E h => ?_) (fun cdv A outer s H vs Q E hr h => ?_)
  · obtain ⟨a, c, cells, n, m, rfl, _⟩ := h
    rfl
  · obtain ⟨a, c, cells, n, m, rfl, ⟨nac, ha, hc, hlen, hpos⟩, m1, m2, n1, n2, k⟩ := h
    refine ⟨_, pss_cons (ps_asg (pe_op op_add (pe_ix ix_list (pv 0) pe_int (fun _ _ => rfl)) pe_int) (pg_sub (pv 0) pe_int set_list))
      (pss_cons (ps_asg (pe_tup (pa_cons pe_int (pa_cons (pe_un un_neg pe_int) pa_nil))) (pg_tup rfl (pgs_cons (pg_name (i := 2) scDraw.nd rfl (.inl rfl)) (pgs_cons (pg_name (i := 3) scDraw.nd rfl (.inl rfl)) pgs_nil))))
      (Evl.pss_cut (ps_if (pt_cmpR op_gt (pe_callB call_len_seq (by rfl) mLen PySem.boot_len (pa_cons (pe_ix ix_list (pv 0) pe_int (fun _ _ => rfl)) pa_nil)) pe_int (nomark _))
        (pss_cons (ps_set (i := 3) scDraw.nd rfl (.inl rfl) (pe_op op_mod (pe_callTy call_int1 (by rfl) mInt (by decide +kernel) (pa_cons (pe_ix ix_list (pv 0) pe_int (fun _ _ => rfl)) pa_nil)) (pe_callB call_len_seq (by rfl) mLen PySem.boot_len (pa_cons (pe_ix ix_list (pv 0) pe_int (fun _ _ => rfl)) pa_nil))))
        (pss_one (ps_set (i := 2) scDraw.nd rfl (.inl rfl) (pe_ix ix_list (pe_ix ix_list (pv 0) pe_int (fun _ _ => rfl)) (pv 3) (fun _ _ => rfl)))))
        pss_nil)
      (pss_cons (ps_if (pt_cmpR op_ge (pv 2) (pe_op op_pow pe_int pe_int) (nomark _))
        (pss_cons (ps_asg (pe_op op_fdivW (pe_callTy call_int1 (by rfl) mInt (by decide +kernel) (pa_cons (pv 2) pa_nil)) (pv 1)) (pg_sub (pe_ix ix_list (pv 0) pe_int (fun _ _ => rfl)) (pv 3) set_list))
          (pss_one (ps_ret (pe_op op_mod (pe_callTy call_int1 (by rfl) mInt (by decide +kernel) (pa_cons (pv 2) pa_nil)) (pv 1)))))
        pss_nil)
      (pss_cons (ps_set (i := 4) scDraw.nd rfl (.inl rfl) (pe_op op_add (pe_op op_add (pe_op op_mod (pe_callTy call_int1 (by rfl) mInt (by decide +kernel) (pa_cons (pv 2) pa_nil)) pe_int) (pe_op op_mul pe_int (pe_ix ix_list (pv 0) pe_int (fun _ _ => rfl)))) pe_int))
      (pss_one (ps_ret (pe_op op_mod (pe_callTy call_int1 (by rfl) mInt (by decide +kernel) (pa_cons (pe_op op_mod (pe_callTy call_int1 (by rfl) mInt (by decide +kernel) (pa_cons (pe_op op_pow (pv 4) pe_int) pa_nil)) pe_int) pa_nil)) (pv 1)))))))), ?_⟩
    refine ⟨.ref a, rfl, a, _, 1, _, rfl, rfl, SqL.of ha, atI_nat (j := 1) rfl, n, 1, rfl, rfl, .ref a, rfl, a, _, 1, 1, rfl, rfl, ha, rfl, ?_⟩
    have hA1 : upd H a (.lst [.ref c, .int (n + 1)]) a = some (.lst [.ref c, .int (n + 1)]) := upd_same
    have hC1 : upd H a (.lst [.ref c, .int (n + 1)]) c = some (.lst (cells.map V.int)) := by
      rw [upd_ne nac.symm]
      exact hc
    have k1 : Keep (Bd a c) H (upd H a (.lst [.ref c, .int (n + 1)])) := keep_upd (.inl rfl)
    refine ⟨1, rfl, (by show 2 ≤ sizeLine; decide), fun T hT => ?_⟩
    have k2 := k1.trans (keep_new (B := Bd a c) (o := .tup [.int 0, .int (-1)]) hT)
    have hA2 : upd (upd H a (.lst [.ref c, .int (n + 1)])) T (.tup [.int 0, .int (-1)]) a = some (.lst [.ref c, .int (n + 1)]) := by
      rw [upd_ne (ne_of_none hA1 hT)]
      exact hA1
    have hC2 : upd (upd H a (.lst [.ref c, .int (n + 1)])) T (.tup [.int 0, .int (-1)]) c = some (.lst (cells.map V.int)) := by
      rw [upd_ne (ne_of_none hC1 hT)]
      exact hC1
    have hT2 : upd (upd H a (.lst [.ref c, .int (n + 1)])) T (.tup [.int 0, .int (-1)]) T = some (.tup [.int 0, .int (-1)]) := upd_same
    refine ⟨T, _, rfl, SqT.of hT2, rfl, .int 0, [.int (-1)], rfl, .int (-1), [], rfl, rfl, ?_⟩
    refine ⟨fun σ' H' => ∃ cell at_ : Int, σ' = [some (.ref a), some (.int m), some (.int cell), some (.int at_), none] ∧ Keep (Bd a c) H H' ∧ H' a = some (.lst [.ref c, .int (n + 1)]) ∧ H' c = some (.lst (cells.map V.int)) ∧ 0 ≤ cell ∧ (10 ^ 18 ≤ cell → ∃ j : Nat, j < cells.length ∧ at_ = (j : Int)), ?_, ?_⟩
    · refine ⟨.ref a, rfl, a, _, 0, .ref c, rfl, rfl, SqL.of hA2, atI_nat (j := 0) rfl, c, _, rfl, .inl (SqL.of hC2), _, _, rfl, rfl, _, rfl, ite2 (fun h0 => ?_) (fun h0 => ?_)⟩
      · have h0 := of_decide_eq_true h0
        rw [List.length_map] at h0
        obtain ⟨j, hj, ej⟩ : ∃ j : Nat, j < cells.length ∧ (n + 1) % ((cells.map V.int).length : Int) = (j : Int) := by
          rw [List.length_map]
          have x1 := Int.emod_nonneg (n + 1) (b := (cells.length : Int)) (by omega)
          have x2 := Int.emod_lt_of_pos (n + 1) (b := (cells.length : Int)) h0
          exact ⟨((n + 1) % (cells.length : Int)).toNat, by omega, by omega⟩
        have gj : (cells.map V.int)[j]? = some (.int cells[j]) := by
          rw [List.getElem?_map, List.getElem?_eq_getElem hj]
          rfl
        refine ⟨.ref a, rfl, a, _, 1, _, rfl, rfl, SqL.of hA2, atI_nat (j := 1) rfl, .inl ⟨n + 1, rfl, .ref a, rfl, a, _, 0, .ref c, rfl, rfl, SqL.of hA2, atI_nat (j := 0) rfl, c, _, rfl, .inl (SqL.of hC2), _, _, rfl, rfl, (by rw [List.length_map]; exact h0), ?_⟩⟩
        refine ⟨.ref a, rfl, a, _, 0, .ref c, rfl, rfl, SqL.of hA2, atI_nat (j := 0) rfl, .int j, by rw [← ej]; rfl, c, _, _, _, rfl, rfl, SqL.of hC2, atI_nat gj, ?_⟩
        exact ⟨cells[j], j, by rw [← ej]; rfl, k2, hA2, hC2, hpos _ (List.getElem_mem hj), fun _ => ⟨j, hj, rfl⟩⟩
      · exact ⟨0, -1, rfl, k2, hA2, hC2, Int.le_refl _, fun z => absurd z (by decide)⟩
    · rintro σ' H3 ⟨cell, at_, rfl, k3, hA3, hC3, hp, hj⟩
      refine ⟨_, rfl, 10, 18, rfl, rfl, ⟨by decide, by decide, by decide⟩, _, _, rfl, rfl, _, rfl, ite2 (fun h0 => ?_) (fun h0 => ?_)⟩
      · obtain ⟨j, hj2, ea⟩ := hj (of_decide_eq_true h0)
        subst ea
        refine ⟨_, rfl, .inl ⟨cell, rfl, _, rfl, _, _, rfl, rfl, wide_div (b := 20) (by omega) (by omega) (by decide) (by decide), .ref a, rfl, a, _, 0, .ref c, rfl, rfl, SqL.of hA3, atI_nat (j := 0) rfl, _, rfl, c, _, _, j, rfl, rfl, hC3, Evl.ixN_nat (by rw [List.length_map]; exact hj2), ?_⟩⟩
        refine ⟨_, rfl, .inl ⟨cell, rfl, _, rfl, _, _, rfl, rfl, (by omega), ?_⟩⟩
        refine k _ (cells.set j (cell / m)) _ (Int.emod_nonneg _ (by omega)) (Int.emod_lt_of_pos _ (by omega)) ⟨nac, ?_, ?_, ?_, ?_⟩ (k3.trans (keep_upd (.inr rfl)))
        · rw [upd_ne nac]
          exact hA3
        · rw [upd_same, List.map_set]
        · rw [List.length_set]
          exact hlen
        · intro z hz
          rcases List.mem_or_eq_of_mem_set hz with hz | hz
          · exact hpos z hz
          · rw [hz]
            exact Int.ediv_nonneg hp (by omega)
      · have b1 := Int.emod_nonneg cell (b := 2147483563) (by decide)
        have b2 := Int.emod_lt_of_pos cell (b := 2147483563) (by decide)
        refine ⟨_, rfl, .inl ⟨cell, rfl, _, _, rfl, rfl, (by show (0 : Int) < 2147483563; decide), .ref a, rfl, a, _, 1, _, rfl, rfl, SqL.of hA3, atI_nat (j := 1) rfl, 8117, n + 1, rfl, rfl, .inl ⟨by decide, by decide⟩, _, _, rfl, rfl, _, _, rfl, rfl, ?_⟩⟩
        refine ⟨_, rfl, cell % 2147483563 + 8117 * (n + 1) + 3, 5, rfl, rfl, ⟨by decide, by decide, by omega⟩, .inl ⟨_, rfl, _, _, rfl, rfl, (by show (0 : Int) < 2147483629; decide), .inl ⟨_, rfl, _, rfl, _, _, rfl, rfl, (by omega), ?_⟩⟩⟩
        exact k _ cells _ (Int.emod_nonneg _ (by omega)) (Int.emod_lt_of_pos _ (by omega)) ⟨nac, hA3, hC3, hlen, hpos⟩ k3
end
end Ver
namespace Ver
open PySem PySem.Spec PyProof.Rows L2
section
variable {P : Program} {w : World} {K : PySem.W.Frag} {mg : Str → Option Value} {base : Heap}
def spOne (K : PySem.W.Frag) : Sp := fun vs H Q _ => ∃ (a c l : Addr) (cells : List Int) (n : Int) (xs : List V), vs = [.ref a, .ref l] ∧ DeckAt a c cells n H ∧ 0 ≤ n ∧ n ≤ 1000000 ∧ SqL K H l xs ∧ ¬ Bd a c l ∧ xs ≠ [] ∧ xs.length ≤ 1000 ∧
  ∀ (H' : Hp) (cells' : List Int) (x : V), x ∈ xs → DeckAt a c cells' (n + 1) H' → Keep (Bd a c) H H' → Q x H'
theorem ok_one {f fD : Addr} {fd fdD : FuncData} (F : Fun K "_law_one" "_law_one" sOne f fd) (D : FnOk P w K mg base CX0 1 fD fdD ["_law_deck_here", "_law_many"] spDraw) (FD : Fun K "_law_draw" "_law_draw" sDraw fD fdD) (bD : Binds K fdD ["_law_deck_here", "_law_many"] [])
    (gD : mg "_law_draw" = some (.ref fD)) (mLen : mg "len" = none) : FnOk P w K mg base CX0 2 f fd ["_law_deck_here", "_law_items"] (spOne K) := by
  refine F.ok scOne (fun vs H Q E h => ?_) (fun cdv A outer s H vs Q E hr h => ?_)
  · obtain ⟨a, c, l, cells, n, xs, rfl, _⟩ := h
    rfl
  · obtain ⟨a, c, l, cells, n, xs, rfl, dk, n0, n1, hL, nb, hne, hlen, k⟩ := h
    refine ⟨_, pss_one (ps_ret (pe_ix ix_list (pv 1) (pe_call D hr (by rfl) gD FD.kp bD .nil pass0 (pa_cons (pv 0) (pa_cons (pe_callB call_len_seq (by rfl) mLen PySem.boot_len (pa_cons (pv 1) pa_nil)) pa_nil))) (fun _ _ => rfl))), ?_⟩
    have lp : 0 < xs.length := List.length_pos_iff.mpr hne
    refine ⟨_, rfl, _, rfl, _, rfl, l, xs, rfl, .inl hL, a, c, cells, n, _, rfl, dk, by omega, by omega, n0, n1, fun H' cells' r r0 r1 dk' kp => ?_⟩
    have hr2 : r.toNat < xs.length := by omega
    refine ⟨l, xs, r, xs[r.toNat], rfl, rfl, kp.seqL nb hL, ?_, k H' cells' _ (List.getElem_mem hr2) dk' kp⟩
    have e := atI_nat (List.getElem?_eq_getElem hr2)
    rw [show ((r.toNat : Nat) : Int) = r by omega] at e
    exact e
end
end Ver
namespace Ver
open PySem PySem.Spec PyProof.Rows L2
/-- the built-in names that nobody stores, and the program's constants -/
structure Mg (mg : Str → Option Value) : Prop where
  len : mg "len" = none
  int : mg "int" = none
  range : mg "range" = none
  tuple : mg "tuple" = none
  list : mg "list" = none
  isi : mg "isinstance" = none
  all : mg "all" = none
  abs : mg "abs" = none
  bool : mg "bool" = none
  repr : mg "repr" = none
  ml : ∃ t, mg "MAX_LETTERS" = some (.int 3 t)
  mr : ∃ t, mg "MAX_ROWS" = some (.int 400 t)
def tyN : PyData → String
  | .none => "NoneType"
  | .bool _ => "bool"
  | .int _ => "int"
  | .str _ => "str"
  | .list _ => "list"
  | .tuple _ => "tuple"
  | .dict _ => "dict"
theorem tyD {B : Addr → Prop} {K : PySem.W.Frag} {H : Hp} {v : V} {d : PyData} (h : Dt B K H v d) : TyX K H v (.type (tyN d)) := by
  cases h with
  | non => exact .base .non
  | bl b => exact .base (.bl b)
  | int i => exact .base (.int i)
  | str x => exact .base (.str x)
  | lst nb ne hs ha =>
    rcases hs with hs | ⟨o, hs⟩
    · exact .base (.lst hs)
    · exact .base (.frz hs)
  | tup nb hs ha =>
    rcases hs with hs | ⟨o, hs⟩
    · exact .base (.tup hs)
    · exact .fTuple hs
  | emp nb e => exact .base (.dK e)
def isInt : PyData → Bool
  | .int _ => true
  | .bool _ => true
  | _ => false
def isBool : PyData → Bool
  | .bool _ => true
  | _ => false
def isTup : PyData → Bool
  | .tuple _ => true
  | _ => false
theorem kitI {K : PySem.W.Frag} (d : PyData) : PySem.W.kitOne K (.type (tyN d)) (.type "int") = some (isInt d) := by
  cases d with
  | none => exact kit_ty (show kitB "NoneType" "int" = some false by decide +kernel)
  | bool _ => exact kit_ty (show kitB "bool" "int" = some true by decide +kernel)
  | int _ => exact kit_ty (show kitB "int" "int" = some true by decide +kernel)
  | str _ => exact kit_ty (show kitB "str" "int" = some false by decide +kernel)
  | list _ => exact kit_ty (show kitB "list" "int" = some false by decide +kernel)
  | tuple _ => exact kit_ty (show kitB "tuple" "int" = some false by decide +kernel)
  | dict _ => exact kit_ty (show kitB "dict" "int" = some false by decide +kernel)
theorem kitB' {K : PySem.W.Frag} (d : PyData) : PySem.W.kitOne K (.type (tyN d)) (.type "bool") = some (isBool d) := by
  cases d with
  | none => exact kit_ty (show kitB "NoneType" "bool" = some false by decide +kernel)
  | bool _ => exact kit_ty (show kitB "bool" "bool" = some true by decide +kernel)
  | int _ => exact kit_ty (show kitB "int" "bool" = some false by decide +kernel)
  | str _ => exact kit_ty (show kitB "str" "bool" = some false by decide +kernel)
  | list _ => exact kit_ty (show kitB "list" "bool" = some false by decide +kernel)
  | tuple _ => exact kit_ty (show kitB "tuple" "bool" = some false by decide +kernel)
  | dict _ => exact kit_ty (show kitB "dict" "bool" = some false by decide +kernel)
theorem kitT {K : PySem.W.Frag} (d : PyData) : PySem.W.kitOne K (.type (tyN d)) (.type "tuple") = some (isTup d) := by
  cases d with
  | none => exact kit_ty (show kitB "NoneType" "tuple" = some false by decide +kernel)
  | bool _ => exact kit_ty (show kitB "bool" "tuple" = some false by decide +kernel)
  | int _ => exact kit_ty (show kitB "int" "tuple" = some false by decide +kernel)
  | str _ => exact kit_ty (show kitB "str" "tuple" = some false by decide +kernel)
  | list _ => exact kit_ty (show kitB "list" "tuple" = some false by decide +kernel)
  | tuple _ => exact kit_ty (show kitB "tuple" "tuple" = some true by decide +kernel)
  | dict _ => exact kit_ty (show kitB "dict" "tuple" = some false by decide +kernel)
/-- an integer, no bool, within the bounds -/
def numD (d : PyData) (lo hi : Int) : Bool := match d with
  | .int i => decide (lo ≤ i) && decide (i ≤ hi)
  | _ => false
def spNum (K : PySem.W.Frag) : Sp := fun vs H Q _ => ∃ (B : Addr → Prop) (x : V) (d : PyData) (lo hi : Int), vs = [x, .int lo, .int hi] ∧ Dt B K H x d ∧ Q (.bl (numD d lo hi)) H
def intD : PyData → Bool
  | .int _ => true
  | _ => false
def spInt (K : PySem.W.Frag) : Sp := fun vs H Q _ => ∃ (B : Addr → Prop) (x : V) (d : PyData), vs = [x] ∧ Dt B K H x d ∧ Q (.bl (intD d)) H
section
variable {P : Program} {w : World} {K : PySem.W.Frag} {mg : Str → Option Value} {base : Heap}
theorem scInteger : FnScope ["value"] ["value"] (defScope sInteger) := ⟨rfl, rfl, rfl, by decide +kernel, rfl, by decide +kernel, by decide +kernel⟩
theorem ok_Integer {f : Addr} {fd : FuncData} (F : Fun K "is_integer" "is_integer" sInteger f fd) (T : Mg mg) : FnOk P w K mg base CX0 1 f fd ["value"] (spInt K) := by
  refine F.ok scInteger (fun vs H Q E h => ?_) (fun cdv A outer s H vs Q E hr h => ?_)
  · obtain ⟨B, x, d, rfl, _⟩ := h
    rfl
  · obtain ⟨B, x, d, rfl, hd, k⟩ := h
    refine ⟨_, pss_one (ps_ret (pe_and (pe_callB call_isi (by rfl) T.isi PyProof.Rows.boot_isinstance (pa_cons (pv 0) (pa_cons (pe_bltn (v := .ty "int") (by rfl) T.int PyProof.Rows.boot_int rfl) pa_nil)))
      (pe_one (pe_not (pe_callB call_isi (by rfl) T.isi PyProof.Rows.boot_isinstance (pa_cons (pv 0) (pa_cons (pe_bltn (v := .ty "bool") (by rfl) T.bool PyProof.Rows.boot_bool rfl) pa_nil))))))), ?_⟩
    refine ⟨x, rfl, x, .ty "int", _, _, _, rfl, .ty _, tyD hd, kitI d, _, rfl, ?_⟩
    cases d with
    | int i => exact ⟨x, rfl, x, .ty "bool", _, _, _, rfl, .ty _, tyD hd, kitB' _, _, rfl, k⟩
    | bool b => exact ⟨x, rfl, x, .ty "bool", _, _, _, rfl, .ty _, tyD hd, kitB' _, _, rfl, k⟩
    | none => exact k
    | str y => exact k
    | list _ => exact k
    | tuple _ => exact k
    | dict _ => exact k
theorem scNumber : FnScope ["value", "least", "most"] ["value", "least", "most"] (defScope sNumber) := ⟨rfl, rfl, rfl, by decide +kernel, rfl, by decide +kernel, by decide +kernel⟩
theorem ok_Number {f fI : Addr} {fd fdI : FuncData} (F : Fun K "is_number" "is_number" sNumber f fd) (I : FnOk P w K mg base CX0 1 fI fdI ["value"] (spInt K)) (FI : Fun K "is_integer" "is_integer" sInteger fI fdI) (bI : Binds K fdI ["value"] []) (gI : mg "is_integer" = some (.ref fI)) :
    FnOk P w K mg base CX0 2 f fd ["value", "least", "most"] (spNum K) := by
  refine F.ok scNumber (fun vs H Q E h => ?_) (fun cdv A outer s H vs Q E hr h => ?_)
  · obtain ⟨B, x, d, lo, hi, rfl, _⟩ := h
    rfl
  · obtain ⟨B, x, d, lo, hi, rfl, hd, k⟩ := h
    refine ⟨_, pss_one (ps_ret (pe_and (pe_call I (hr.mono (by decide)) (by rfl) gI FI.kp bI .nil pass0 (pa_cons (pv 0) pa_nil)) (pe_one (pe_chain op_le op_le (pv 1) (pv 0) (pv 2))))), ?_⟩
    refine ⟨x, rfl, B, x, d, rfl, hd, _, rfl, ?_⟩
    cases hd with
    | int i =>
      refine ⟨.int lo, rfl, .int i, rfl, lo, i, rfl, rfl, _, rfl, ?_⟩
      refine ite2 (fun h1 => ?_) (fun h1 => ?_)
      · refine ⟨.int hi, rfl, i, hi, rfl, rfl, ?_⟩
        have e : numD (.int i) lo hi = decide (i ≤ hi) := by
          show (decide (lo ≤ i) && decide (i ≤ hi)) = decide (i ≤ hi)
          rw [h1]
          rfl
        rw [e] at k
        exact k
      · have e : numD (.int i) lo hi = false := by
          show (decide (lo ≤ i) && decide (i ≤ hi)) = false
          rw [Bool.eq_false_iff.mpr h1]
          rfl
        rw [e] at k
        exact k
    | bl b => exact k
    | non => exact k
    | str y => exact k
    | lst nb ne hs ha => exact k
    | tup nb hs ha => exact k
    | emp nb e => exact k
theorem scWhole : FnScope ["_law_value", "_law_least", "_law_most"] ["_law_value", "_law_least", "_law_most"] (defScope sWhole) := ⟨rfl, rfl, rfl, by decide +kernel, rfl, by decide +kernel, by decide +kernel⟩
theorem ok_Whole {f : Addr} {fd : FuncData} (F : Fun K "_law_whole" "_law_whole" sWhole f fd) (T : Mg mg) : FnOk P w K mg base CX0 1 f fd ["_law_value", "_law_least", "_law_most"] (spNum K) := by
  refine F.ok scWhole (fun vs H Q E h => ?_) (fun cdv A outer s H vs Q E hr h => ?_)
  · obtain ⟨B, x, d, lo, hi, rfl, _⟩ := h
    rfl
  · obtain ⟨B, x, d, lo, hi, rfl, hd, k⟩ := h
    refine ⟨_, pss_one (ps_ret (pe_and (pe_callB call_isi (by rfl) T.isi PyProof.Rows.boot_isinstance (pa_cons (pv 0) (pa_cons (pe_bltn (v := .ty "int") (by rfl) T.int PyProof.Rows.boot_int rfl) pa_nil)))
      (pe_and (pe_not (pe_callB call_isi (by rfl) T.isi PyProof.Rows.boot_isinstance (pa_cons (pv 0) (pa_cons (pe_bltn (v := .ty "bool") (by rfl) T.bool PyProof.Rows.boot_bool rfl) pa_nil))))
      (pe_one (pe_chain op_le op_le (pv 1) (pv 0) (pv 2)))))), ?_⟩
    refine ⟨x, rfl, x, .ty "int", _, _, _, rfl, .ty _, tyD hd, kitI d, _, rfl, ?_⟩
    cases hd with
    | int i =>
      refine ⟨.int i, rfl, .int i, .ty "bool", _, _, _, rfl, .ty _, tyD (.int (B := B) i), kitB' (.int i), _, rfl, _, rfl, .int lo, rfl, .int i, rfl, lo, i, rfl, rfl, _, rfl, ?_⟩
      refine ite2 (fun h1 => ?_) (fun h1 => ?_)
      · refine ⟨.int hi, rfl, i, hi, rfl, rfl, ?_⟩
        have e : numD (.int i) lo hi = decide (i ≤ hi) := by
          show (decide (lo ≤ i) && decide (i ≤ hi)) = decide (i ≤ hi)
          rw [h1]
          rfl
        rw [e] at k
        exact k
      · have e : numD (.int i) lo hi = false := by
          show (decide (lo ≤ i) && decide (i ≤ hi)) = false
          rw [Bool.eq_false_iff.mpr h1]
          rfl
        rw [e] at k
        exact k
    | bl b => exact ⟨.bl b, rfl, .bl b, .ty "bool", _, _, _, rfl, .ty _, tyD (.bl (B := B) b), kitB' (.bool b), _, rfl, _, rfl, k⟩
    | non => exact k
    | str y => exact k
    | lst nb ne hs ha => exact k
    | tup nb hs ha => exact k
    | emp nb e => exact k
end
end Ver
namespace Ver
open PySem PySem.Spec PyProof.Rows L2
def itemOk (n : Int) (d : PyData) : Bool := match d with
  | .none => true
  | d => numD d 0 (n - 1)
def rowD (L n : Int) (d : PyData) : Bool := match d with
  | .tuple xs => decide ((xs.length : Int) = L) && xs.all (itemOk n)
  | _ => false
theorem Dt.len_le {B : Addr → Prop} {K : PySem.W.Frag} {H : Hp} {a : Addr} {ds : List PyData} (h : Dt B K H (.ref a) (.tuple ds)) : ∃ xs, SqT K H a xs ∧ DtAll B K H xs ds ∧ xs.length = ds.length := by
  cases h with
  | tup nb hs ha => exact ⟨_, .inl hs, ha, ha.len⟩
theorem Dt.tup_ref {B : Addr → Prop} {K : PySem.W.Frag} {H : Hp} {v : V} {ds : List PyData} (h : Dt B K H v (.tuple ds)) : ∃ a xs, v = .ref a ∧ ¬ B a ∧ SqT K H a xs ∧ DtAll B K H xs ds ∧ xs.length = ds.length := by
  cases h with
  | tup nb hs ha => exact ⟨_, _, rfl, nb, .inl hs, ha, ha.len⟩
theorem Dt.tup_rd {B : Addr → Prop} {K : PySem.W.Frag} {H : Hp} {v : V} {ds : List PyData} (h : Dt B K H v (.tuple ds)) : ∃ a xs, v = .ref a ∧ ¬ B a ∧ Rd H a (.tup xs) ∧ DtAll B K H xs ds ∧ xs.length = ds.length := by
  cases h with
  | tup nb hs ha => exact ⟨_, _, rfl, nb, hs, ha, ha.len⟩
mutual
theorem Dt.off {B : Addr → Prop} {K : PySem.W.Frag} {H : Hp} {q : Addr} (n : H q = none) : ∀ (d : PyData) (v : V), Dt B K H v d → Dt (fun b => B b ∨ b = q) K H v d
  | .none, _, h => by cases h; exact .non
  | .bool _, _, h => by cases h; exact .bl _
  | .int _, _, h => by cases h; exact .int _
  | .str _, _, h => by cases h; exact .str _
  | .list ds, _, h => by
    cases h with
    | lst nb ne hs ha =>
      refine .lst (fun z => ?_) ne hs (DtAll.off n ds _ ha)
      rcases z with z | z
      · exact nb z
      · rw [z] at hs
        rcases hs with e | ⟨o, e⟩ <;> (rw [n] at e; cases e)
  | .tuple ds, _, h => by
    cases h with
    | tup nb hs ha =>
      refine .tup (fun z => ?_) hs (DtAll.off n ds _ ha)
      rcases z with z | z
      · exact nb z
      · rw [z] at hs
        rcases hs with e | ⟨o, e⟩ <;> (rw [n] at e; cases e)
  | .dict _, _, h => by
    cases h with
    | emp nb e =>
      refine .emp (fun z => ?_) e
      rcases z with z | z
      · exact nb z
      · rw [z, n] at e
        cases e
theorem DtAll.off {B : Addr → Prop} {K : PySem.W.Frag} {H : Hp} {q : Addr} (n : H q = none) : ∀ (ds : List PyData) (vs : List V), DtAll B K H vs ds → DtAll (fun b => B b ∨ b = q) K H vs ds
  | [], _, h => by cases h; exact .nil
  | d :: ds, _, h => by
    cases h with
    | cons h1 h2 => exact .cons (Dt.off n d _ h1) (DtAll.off n ds _ h2)
end
theorem same_dt {B : Addr → Prop} {K : PySem.W.Frag} {H H' : Hp} {v : V} {d : PyData} (s : Same H H') (h : Dt B K H v d) : Dt B K H' v d := Dt.keep (Keep.same s) d v h
theorem same_seqT {K : PySem.W.Frag} {H H' : Hp} {a : Addr} {xs : List V} (s : Same H H') (h : SqT K H a xs) : SqT K H' a xs := Keep.seqT (B := fun _ => False) (Keep.same s) (fun z => z) h
theorem all_take {f : PyData → Bool} {ds : List PyData} : ((ds.map f).all id) = ds.all f := by
  rw [List.all_map]
  rfl
section
variable {P : Program} {w : World} {K : PySem.W.Frag} {mg : Str → Option Value} {base : Heap}
def spRow (K : PySem.W.Frag) : Sp := fun vs H Q _ => ∃ (B : Addr → Prop) (x : V) (d : PyData) (L n : Int), vs = [x, .int L, .int n] ∧ Dt B K H x d ∧ (∀ xs, d = .tuple xs → xs.length < sizeLine) ∧ ∀ H', Same H H' → Q (.bl (rowD L n d)) H'
theorem scIsRow : FnScope ["value", "letters", "states", "item"] ["value", "letters", "states"] (defScope sIsRow) := ⟨rfl, rfl, rfl, by decide +kernel, rfl, by decide +kernel, by decide +kernel⟩
theorem ok_isRow {f fN : Addr} {fd fdN : FuncData} (F : Fun K "is_row" "is_row" sIsRow f fd) (N : FnOk P w K mg base CX0 2 fN fdN ["value", "least", "most"] (spNum K)) (FN : Fun K "is_number" "is_number" sNumber fN fdN) (bN : Binds K fdN ["value", "least", "most"] []) (gN : mg "is_number" = some (.ref fN)) (T : Mg mg) :
    FnOk P w K mg base CX0 3 f fd ["value", "letters", "states"] (spRow K) := by
  refine F.ok scIsRow (fun vs H Q E h => ?_) (fun cdv A outer s H vs Q E hr h => ?_)
  · obtain ⟨B, x, d, L, n, rfl, _⟩ := h
    rfl
  · obtain ⟨B, x, d, L, n, rfl, hd, hsz, k⟩ := h
    refine ⟨_, pss_cons (ps_if (PW.pt (pw_or (pt_not (pt_val (pe_callB call_isi (by rfl) T.isi PyProof.Rows.boot_isinstance (pa_cons (pv 0) (pa_cons (pe_bltn (v := .ty "tuple") (by rfl) T.tuple PyProof.Rows.boot_tuple rfl) pa_nil)))))
        (pw_or1 (pt_cmpR op_ne (pe_callB call_len_seq (by rfl) T.len PySem.boot_len (pa_cons (pv 0) pa_nil)) (pv 1) (nomark _)))))
      (pss_one (ps_ret pe_bl)) pss_nil)
      (pss_one (ps_ret (pe_callB (cr_all rfl) (by rfl) T.all (by decide +kernel) (pa_cons (pe_lc (own := [("item", 3)]) (g := gName 3) (tt := tYes) rfl scIsRow.nd (pi_tup (pv 0)) (blkOk_by (N := ["value", "letters", "states", "item"]) (sc := defScope sIsRow) (by decide +kernel)) (fun _ _ _ _ _ => pg_name (i := 3) scIsRow.nd rfl (Or.inl rfl)) (fun _ _ _ _ _ => pts_nil)
        (fun _ _ _ _ _ => pe_or (pe_cmp (pc_isN (pv 3))) (pe_one (pe_call N hr (by rfl) gN FN.kp bN .nil pass0 (pa_cons (pv 3) (pa_cons pe_int (pa_cons (pe_op op_sub (pv 2) pe_int) pa_nil))))))) pa_nil)))), ?_⟩
    refine ⟨x, rfl, x, .ty "tuple", _, _, _, rfl, .ty _, tyD hd, kitT d, _, rfl, ?_⟩
    cases d with
    | none => exact k H (Same.refl H)
    | bool _ => exact k H (Same.refl H)
    | int _ => exact k H (Same.refl H)
    | str _ => exact k H (Same.refl H)
    | list _ => exact k H (Same.refl H)
    | dict _ => exact k H (Same.refl H)
    | tuple ds =>
      obtain ⟨a, xs, rfl, nb, hs, ha, hl⟩ := hd.tup_ref
      have hz := hsz ds rfl
      refine ⟨.ref a, rfl, a, xs, rfl, .inr hs, .int L, rfl, rfl, _, rfl, ite2 (fun h1 => ?_) (fun h1 => ?_)⟩
      · have e : rowD L n (.tuple ds) = false := by
          show (decide ((ds.length : Int) = L) && ds.all (itemOk n)) = false
          have h2 : ¬ ((ds.length : Int) = L) := by
            intro z
            rw [← hl] at z
            rw [z] at h1
            simp at h1
          rw [decide_eq_false h2]
          rfl
        rw [e] at k
        exact k H (Same.refl H)
      · have h2 : (ds.length : Int) = L := by
          rw [← hl]
          by_cases z : (xs.length : Int) = L
          · exact z
          · exfalso
            apply h1
            have z2 : ¬ (V.int (xs.length : Int) = V.int L) := fun q => z (V.int.inj q)
            rw [decide_eq_false z2]
            rfl
        have e : rowD L n (.tuple ds) = ds.all (itemOk n) := by
          show (decide ((ds.length : Int) = L) && ds.all (itemOk n)) = _
          rw [decide_eq_true h2]
          rfl
        rw [e] at k
        refine ⟨.ref a, rfl, a, rfl, ⟨xs, hs⟩, fun D hD => ?_⟩
        refine lc_tup (K := K) (a := a) (xs := xs) (fun i H' => Same H H' ∧ H' D = some (.lst ((ds.take i).map fun d => V.bl (itemOk n d)))) ⟨same_new hD, upd_same⟩ (fun i H' _ q => same_seqT q.1 hs) ?_ ?_
        · rintro i y H' hy ⟨sm, hD'⟩
          obtain ⟨d, hd1, hd2⟩ := ha.getV hy
          have hi := (List.getElem?_eq_some_iff.mp hd1).1
          have hlen : ((ds.take i).map fun d => V.bl (itemOk n d)).length < sizeLine := by
            rw [List.length_map, List.length_take]
            omega
          have fin : ∀ b : Bool, b = itemOk n d → ∃ acc, H' D = some (.lst acc) ∧ acc.length < sizeLine ∧ Same H (upd H' D (.lst (acc ++ [V.bl b]))) ∧ upd H' D (.lst (acc ++ [V.bl b])) D = some (.lst ((ds.take (i + 1)).map fun d => V.bl (itemOk n d))) := by
            intro b eb
            refine ⟨_, hD', hlen, fun p o z => ?_, ?_⟩
            · rw [upd_ne (ne_of_none z hD)]
              exact sm _ _ z
            · rw [upd_same, List.take_add_one, hd1, List.map_append, eb]
              rfl
          refine ⟨rfl, y, rfl, _, rfl, ite2 (fun h3 => ?_) (fun h3 => ?_)⟩
          · have h4 : y = .non := of_decide_eq_true h3
            subst h4
            cases hd2
            exact fin true rfl
          · refine ⟨y, rfl, .int n, rfl, n, 1, rfl, rfl, B, y, d, 0, n - 1, rfl, same_dt sm hd2, fin _ ?_⟩
            cases hd2 with
            | non => exact absurd (decide_eq_true rfl) h3
            | bl _ => rfl
            | int _ => rfl
            | str _ => rfl
            | lst _ _ _ _ => rfl
            | tup _ _ _ => rfl
            | emp _ _ => rfl
        · rintro H' ⟨sm, hD'⟩
          rw [hl, List.take_length] at hD'
          have e2 : (ds.map fun d => V.bl (itemOk n d)) = (ds.map (itemOk n)).map V.bl := by
            rw [List.map_map]
            rfl
          rw [e2] at hD'
          refine ⟨D, _, rfl, SqL.of hD', ?_⟩
          rw [all_take]
          exact k H' sm
end
end Ver
namespace Ver
open PySem PySem.Spec PyProof.Rows L2
mutual
def nodes : PyData → Nat
  | .list xs => 1 + nodesAll xs
  | .tuple xs => 1 + nodesAll xs
  | .none => 1
  | .bool _ => 1
  | .int _ => 1
  | .str _ => 1
  | .dict _ => 1
def nodesAll : List PyData → Nat
  | [] => 0
  | x :: xs => nodes x + nodesAll xs
end
theorem nodes_pos : ∀ d : PyData, 1 ≤ nodes d
  | .list xs => by unfold nodes; omega
  | .tuple xs => by unfold nodes; omega
  | .none => by unfold nodes; omega
  | .bool _ => by unfold nodes; omega
  | .int _ => by unfold nodes; omega
  | .str _ => by unfold nodes; omega
  | .dict _ => by unfold nodes; omega
theorem nodes_tup (xs : List PyData) : nodes (.tuple xs) = 1 + nodesAll xs := by rw [nodes]
theorem nodes_lst (xs : List PyData) : nodes (.list xs) = 1 + nodesAll xs := by rw [nodes]
theorem nodesAll_cons (x : PyData) (xs : List PyData) : nodesAll (x :: xs) = nodes x + nodesAll xs := by rw [nodesAll]
theorem nodesAll_nil : nodesAll [] = 0 := by rw [nodesAll]
theorem len_nodes : ∀ xs : List PyData, xs.length ≤ nodesAll xs
  | [] => Nat.zero_le _
  | x :: xs => by
    have := len_nodes xs
    have := nodes_pos x
    rw [nodesAll_cons, List.length_cons]
    omega
theorem mem_nodes : ∀ {xs : List PyData} {x : PyData}, x ∈ xs → nodes x ≤ nodesAll xs
  | [], _, h => absurd h List.not_mem_nil
  | y :: ys, x, h => by
    rw [nodesAll_cons]
    rcases List.mem_cons.mp h with e | e
    · rw [e]
      omega
    · have := mem_nodes e
      omega
theorem nodesAll_append : ∀ xs ys : List PyData, nodesAll (xs ++ ys) = nodesAll xs + nodesAll ys
  | [], ys => by rw [List.nil_append, nodesAll_nil, Nat.zero_add]
  | x :: xs, ys => by rw [List.cons_append, nodesAll_cons, nodesAll_cons, nodesAll_append xs ys, Nat.add_assoc]
def ival (d : PyData) : Int := match d with
  | .int i => i
  | _ => 0
/-- what is wrong with the data as a machine -/
def mends (n : Nat) (e : PyData) : Option Str := match e with
  | .tuple es => if es.length = n then (if es.all isBool = true then none else some "ends") else some "ends"
  | _ => some "ends"
def merr5 (L : Int) (rs : List PyData) (e : PyData) : Option Str :=
  if 1 ≤ rs.length ∧ rs.length ≤ 400 then (if rs.all (rowD L rs.length) = true then mends rs.length e else some "rows") else some "rows"
def merr4 (L : Int) (r e : PyData) : Option Str := match r with
  | .tuple rs => merr5 L rs e
  | _ => some "rows"
def merr3 (l r e : PyData) : Option Str := if numD l 1 3 = true then merr4 (ival l) r e else some "letters"
theorem merr3_no {l r e : PyData} (h : numD l 1 3 = false) : merr3 l r e = some "letters" := by
  unfold merr3
  rw [h]
  rfl
theorem merr3_yes {L : Int} {r e : PyData} (h : numD (.int L) 1 3 = true) : merr3 (.int L) r e = merr4 L r e := by
  unfold merr3
  rw [h]
  rfl
def merr (d : PyData) : Option Str := match d with
  | .tuple [l, r, e] => merr3 l r e
  | _ => some "machine"
def optV : Option Str → V
  | none => .non
  | some x => .str x
def BInv (f : PyData → Bool) (ds : List PyData) (H : Hp) (D : Addr) (i : Nat) (H' : Hp) : Prop := Same H H' ∧ H' D = some (.lst ((ds.take i).map fun d => V.bl (f d)))
theorem bturn {B : Addr → Prop} {K : PySem.W.Frag} {H H' : Hp} {D : Addr} {xs : List V} {ds : List PyData} {f : PyData → Bool} {i : Nat} {y : V} (ha : DtAll B K H xs ds) (hz : ds.length < sizeLine) (hD : H D = none) (hy : xs[i]? = some y) (p : BInv f ds H D i H') :
    ∃ d, d ∈ ds ∧ Dt B K H' y d ∧ ∀ H'', Same H' H'' → ∀ b, b = f d → ∃ acc, H'' D = some (.lst acc) ∧ acc.length < sizeLine ∧ BInv f ds H D (i + 1) (upd H'' D (.lst (acc ++ [V.bl b]))) := by
  obtain ⟨sm, hD'⟩ := p
  obtain ⟨d, hd1, hd2⟩ := ha.getV hy
  refine ⟨d, List.mem_of_getElem? hd1, same_dt sm hd2, fun H'' s2 b eb => ⟨_, s2 _ _ hD', ?_, fun p o z => ?_, ?_⟩⟩
  · rw [List.length_map, List.length_take]
    omega
  · rw [upd_ne (ne_of_none z hD)]
    exact s2 _ _ (sm _ _ z)
  · rw [upd_same, List.take_add_one, hd1, List.map_append, eb]
    rfl
theorem bend {K : PySem.W.Frag} {H H' : Hp} {D : Addr} {n : Nat} {ds : List PyData} {f : PyData → Bool} (e : n = ds.length) (p : BInv f ds H D n H') : Same H H' ∧ SqL K H' D ((ds.map f).map V.bl) := by
  obtain ⟨sm, hD'⟩ := p
  rw [e, List.take_length] at hD'
  refine ⟨sm, SqL.of ?_⟩
  rw [hD', List.map_map]
  rfl
def rLen (K : PySem.W.Frag) : List V → Hp → VK → Prop := fun xs H Q => ∃ p ys, xs = [.ref p] ∧ (SqL K H p ys ∨ SqT K H p ys) ∧ Q (.int ys.length) H
theorem three_of {ds : List PyData} (h : ds.length = 3) : ∃ l r e, ds = [l, r, e] := by
  match ds, h with
  | [l, r, e], _ => exact ⟨l, r, e, rfl⟩
theorem dt_three {B : Addr → Prop} {K : PySem.W.Frag} {H : Hp} {xs : List V} {l r e : PyData} (h : DtAll B K H xs [l, r, e]) : ∃ vl vr ve, xs = [vl, vr, ve] ∧ Dt B K H vl l ∧ Dt B K H vr r ∧ Dt B K H ve e := by
  cases h with
  | cons h1 h =>
    cases h with
    | cons h2 h =>
      cases h with
      | cons h3 h =>
        cases h
        exact ⟨_, _, _, rfl, h1, h2, h3⟩
section
variable {P : Program} {w : World} {K : PySem.W.Frag} {mg : Str → Option Value} {base : Heap}
def spErr (K : PySem.W.Frag) : Sp := fun vs H Q _ => ∃ (B : Addr → Prop) (x : V) (d : PyData), vs = [x] ∧ Dt B K H x d ∧ nodes d ≤ 100000 ∧ ∀ H', Same H H' → Q (optV (merr d)) H'
theorem scMerr : FnScope ["value", "letters", "rows", "ends", "row", "end"] ["value"] (defScope sMerr) := ⟨rfl, rfl, rfl, by decide +kernel, rfl, by decide +kernel, by decide +kernel⟩
theorem ok_merr {f fN fR : Addr} {fd fdN fdR : FuncData} (F : Fun K "machine_error" "machine_error" sMerr f fd) (N : FnOk P w K mg base CX0 2 fN fdN ["value", "least", "most"] (spNum K)) (FN : Fun K "is_number" "is_number" sNumber fN fdN) (bN : Binds K fdN ["value", "least", "most"] []) (gN : mg "is_number" = some (.ref fN))
    (R : FnOk P w K mg base CX0 3 fR fdR ["value", "letters", "states"] (spRow K)) (FR : Fun K "is_row" "is_row" sIsRow fR fdR) (bR : Binds K fdR ["value", "letters", "states"] []) (gR : mg "is_row" = some (.ref fR)) (T : Mg mg) :
    FnOk P w K mg base CX0 4 f fd ["value"] (spErr K) := by
  refine F.ok scMerr (fun vs H Q E h => ?_) (fun cdv A outer s H vs Q E hr h => ?_)
  · obtain ⟨B, x, d, rfl, _⟩ := h
    rfl
  · obtain ⟨B, x, d, rfl, hd, hsz, k⟩ := h
    obtain ⟨t3, mL⟩ := T.ml
    obtain ⟨t4, mR⟩ := T.mr
    refine ⟨_, pss_cons (ps_if (PW.pt (pw_or (pt_not (pt_val (pe_callB call_isi (by rfl) T.isi PyProof.Rows.boot_isinstance (pa_cons (pv 0) (pa_cons (pe_bltn (v := .ty "tuple") (by rfl) T.tuple PyProof.Rows.boot_tuple rfl) pa_nil)))))
        (pw_or1 (pt_cmpR op_ne (pe_callB call_len_seq (by rfl) T.len PySem.boot_len (pa_cons (pv 0) pa_nil)) pe_int (nomark _)))))
      (pss_one (ps_ret pe_str)) pss_nil)
      (pss_cons (ps_asg (pv 0) (pg_tup rfl (pgs_cons (pg_name (i := 1) scMerr.nd rfl (.inr rfl)) (pgs_cons (pg_name (i := 2) scMerr.nd rfl (.inr rfl)) (pgs_cons (pg_name (i := 3) scMerr.nd rfl (.inl rfl)) pgs_nil)))))
      (pss_cons (ps_if (pt_not (pt_val (pe_call N (hr.mono (by decide)) (by rfl) gN FN.kp bN .nil pass0 (pa_cons (pv 1) (pa_cons pe_int (pa_cons (pe_glob (v := .int 3) (by rfl) mL ⟨_, rfl⟩) pa_nil)))))) (pss_one (ps_ret pe_str)) pss_nil)
      (pss_cons (ps_if (PW.pt (pw_or (pt_not (pt_val (pe_callB call_isi (by rfl) T.isi PyProof.Rows.boot_isinstance (pa_cons (pv 2) (pa_cons (pe_bltn (v := .ty "tuple") (by rfl) T.tuple PyProof.Rows.boot_tuple rfl) pa_nil)))))
        (pw_or1 (pt_not (pt_chain op_le op_le pe_int (pe_callB call_len_seq (by rfl) T.len PySem.boot_len (pa_cons (pv 2) pa_nil)) (pe_glob (v := .int 400) (by rfl) mR ⟨_, rfl⟩))))))
      (pss_one (ps_ret pe_str)) pss_nil)
      (pss_cons (ps_if (pt_not (pt_val (pe_callB (cr_all rfl) (by rfl) T.all (by decide +kernel) (pa_cons (pe_lc (own := [("row", 4)]) (g := gName 4) (tt := tYes) rfl scMerr.nd (pi_tup (pv 2)) (blkOk_by (N := ["value", "letters", "rows", "ends", "row", "end"]) (sc := defScope sMerr) (by decide +kernel)) (fun _ _ _ _ _ => pg_name (i := 4) scMerr.nd rfl (Or.inl rfl)) (fun _ _ _ _ _ => pts_nil)
          (fun _ _ _ _ _ => pe_call R hr (by rfl) gR FR.kp bR .nil pass0 (pa_cons (pv 4) (pa_cons (pv 1) (pa_cons (pe_callB (r := rLen K) call_len_seq (by rfl) T.len PySem.boot_len (pa_cons (pv 2) pa_nil)) pa_nil))))) pa_nil)))) (pss_one (ps_ret pe_str)) pss_nil)
      (pss_cons (ps_if (PW.pt (pw_or (pt_not (pt_val (pe_callB call_isi (by rfl) T.isi PyProof.Rows.boot_isinstance (pa_cons (pv 3) (pa_cons (pe_bltn (v := .ty "tuple") (by rfl) T.tuple PyProof.Rows.boot_tuple rfl) pa_nil)))))
        (pw_or1 (pt_cmpR op_ne (pe_callB call_len_seq (by rfl) T.len PySem.boot_len (pa_cons (pv 3) pa_nil)) (pe_callB call_len_seq (by rfl) T.len PySem.boot_len (pa_cons (pv 2) pa_nil)) (nomark _)))))
      (pss_one (ps_ret pe_str)) pss_nil)
      (pss_cons (ps_if (pt_not (pt_val (pe_callB (cr_all rfl) (by rfl) T.all (by decide +kernel) (pa_cons (pe_lc (own := [("end", 5)]) (g := gName 5) (tt := tYes) rfl scMerr.nd (pi_tup (pv 3)) (blkOk_by (N := ["value", "letters", "rows", "ends", "row", "end"]) (sc := defScope sMerr) (by decide +kernel)) (fun _ _ _ _ _ => pg_name (i := 5) scMerr.nd rfl (Or.inl rfl)) (fun _ _ _ _ _ => pts_nil)
          (fun _ _ _ _ _ => pe_callB (r := rIsi K) call_isi (by rfl) T.isi PyProof.Rows.boot_isinstance (pa_cons (pv 5) (pa_cons (pe_bltn (v := .ty "bool") (by rfl) T.bool PyProof.Rows.boot_bool rfl) pa_nil)))) pa_nil)))) (pss_one (ps_ret pe_str)) pss_nil)
      (pss_one (ps_ret pe_non)))))))), ?_⟩
    refine ⟨x, rfl, x, .ty "tuple", _, _, _, rfl, .ty _, tyD hd, kitT d, _, rfl, ?_⟩
    have km : merr d = some "machine" → Q (.str "machine") H := fun e => by
      have z := k H (Same.refl H)
      rw [e] at z
      exact z
    cases d with
    | none => exact km rfl
    | bool _ => exact km rfl
    | int _ => exact km rfl
    | str _ => exact km rfl
    | list _ => exact km rfl
    | dict _ => exact km rfl
    | tuple ds =>
      obtain ⟨a, xs, rfl, nb, hs, ha, hl⟩ := hd.tup_ref
      refine ⟨.ref a, rfl, a, xs, rfl, .inr hs, rfl, _, rfl, ite2 (fun h1 => ?_) (fun h1 => ?_)⟩
      · refine km ?_
        have h2 : ds.length ≠ 3 := by
          intro z
          rw [hl, z] at h1
          exact absurd h1 (by decide)
        match ds, h2 with
        | [], _ => rfl
        | [_], _ => rfl
        | [_, _], _ => rfl
        | [_, _, _], h2 => exact absurd rfl h2
        | _ :: _ :: _ :: _ :: _, _ => rfl
      · have h2 : ds.length = 3 := by
          rw [← hl]
          by_cases z : xs.length = 3
          · exact z
          · exfalso
            apply h1
            have z2 : ¬ (V.int (xs.length : Int) = V.int 3) := fun q => z (by have := V.int.inj q; omega)
            rw [decide_eq_false z2]
            rfl
        obtain ⟨l, r, e, rfl⟩ := three_of h2
        obtain ⟨vl, vr, ve, rfl, hdl, hdr, hde⟩ := dt_three ha
        · skip
          clear km
          have kk : ∀ (H' : Hp) (z : Option Str), Same H H' → merr3 l r e = z → Q (optV z) H' := fun H' z sm e => by
            rw [← e]
            exact k H' sm
          rw [nodes_tup, nodesAll_cons, nodesAll_cons, nodesAll_cons] at hsz
          refine ⟨.ref a, rfl, a, _, rfl, hs, rfl, vl, _, rfl, vr, _, rfl, ve, _, rfl, rfl, ?_⟩
          refine ⟨vl, rfl, B, vl, l, 1, 3, rfl, hdl, _, rfl, ite2 (fun h3 => ?_) (fun h3 => ?_)⟩
          · refine kk H (some "letters") (Same.refl H) ?_
            refine merr3_no ?_
            cases z : numD l 1 3
            · rfl
            · rw [z] at h3
              cases h3
          · have h4 : numD l 1 3 = true := by
              cases z : numD l 1 3
              · rw [z] at h3
                exact absurd rfl h3
              · rfl
            obtain ⟨L, rfl⟩ : ∃ L, l = .int L := by
              cases l with
              | int L => exact ⟨L, rfl⟩
              | _ => cases h4
            cases hdl
            refine ⟨vr, rfl, vr, .ty "tuple", _, _, _, rfl, .ty _, tyD hdr, kitT r, _, rfl, ?_⟩
            rw [merr3_yes h4] at kk
            cases r with
            | none => exact kk H (some "rows") (Same.refl H) rfl
            | bool _ => exact kk H (some "rows") (Same.refl H) rfl
            | int _ => exact kk H (some "rows") (Same.refl H) rfl
            | str _ => exact kk H (some "rows") (Same.refl H) rfl
            | list _ => exact kk H (some "rows") (Same.refl H) rfl
            | dict _ => exact kk H (some "rows") (Same.refl H) rfl
            | tuple rs =>
              have kk : ∀ (H' : Hp) (z : Option Str), Same H H' → merr5 L rs e = z → Q (optV z) H' := kk
              obtain ⟨b, ys, rfl, nb2, hs2, ha2, hl2⟩ := hdr.tup_ref
              rw [nodes_tup] at hsz
              have lrs := len_nodes rs
              have bad : ¬ (1 ≤ rs.length ∧ rs.length ≤ 400) → Q (.str "rows") H := fun z => by
                refine kk H (some "rows") (Same.refl H) ?_
                unfold merr5
                rw [if_neg z]
              refine ⟨.ref b, rfl, b, ys, rfl, .inr hs2, 1, _, rfl, rfl, _, rfl, ite2 (fun h5 => ?_) (fun h5 => ?_)⟩
              rotate_left
              · refine ⟨_, rfl, bad fun q => h5 (decide_eq_true ?_)⟩
                omega
              · have h5 := of_decide_eq_true h5
                refine ⟨_, 400, rfl, rfl, _, rfl, ite2 (fun h6 => ?_) (fun h6 => ?_)⟩
                · refine bad fun q => ?_
                  have h7 : decide ((ys.length : Int) ≤ 400) = true := decide_eq_true (by omega)
                  rw [h7] at h6
                  cases h6
                · have h7 : (ys.length : Int) ≤ 400 := by
                    cases z : decide ((ys.length : Int) ≤ 400)
                    · rw [z] at h6
                      exact absurd rfl h6
                    · exact of_decide_eq_true z
                  have h8 : 1 ≤ rs.length ∧ rs.length ≤ 400 := by omega
                  have kk2 : ∀ (H' : Hp) (z : Option Str), Same H H' → (if rs.all (rowD L rs.length) = true then mends rs.length e else some "rows") = z → Q (optV z) H' := fun H' z sm q => by
                    refine kk H' z sm ?_
                    unfold merr5
                    rw [if_pos h8]
                    exact q
                  have hz : rs.length < sizeLine := small1000 (by omega)
                  refine ⟨.ref b, rfl, b, rfl, ⟨ys, hs2⟩, fun D hD => ?_⟩
                  refine lc_tup (K := K) (a := b) (xs := ys) (BInv (rowD L rs.length) rs H D) ⟨same_new hD, upd_same⟩ (fun i H' _ q => same_seqT q.1 hs2) ?_ ?_
                  · rintro i y H' hy p
                    obtain ⟨d, hm, hd', fin⟩ := bturn ha2 hz hD hy p
                    have hmn := mem_nodes hm
                    refine ⟨rfl, y, rfl, .int L, rfl, .ref b, rfl, b, ys, rfl, .inr (same_seqT p.1 hs2), B, y, d, L, _, rfl, hd', fun zs ez => ?_, fun H'' sm => fin H'' sm _ (by rw [hl2])⟩
                    subst ez
                    rw [nodes_tup] at hmn
                    have := len_nodes zs
                    exact Nat.lt_of_le_of_lt (show zs.length ≤ 100000 by omega) (by decide)
                  · rintro H1 p
                    obtain ⟨sm, hS⟩ := bend (K := K) hl2 p
                    refine ⟨D, _, rfl, hS, _, rfl, ?_⟩
                    rw [all_take]
                    refine ite2 (fun h9 => ?_) (fun h9 => ?_)
                    · refine kk2 H1 (some "rows") sm ?_
                      rw [if_neg]
                      intro q
                      rw [q] at h9
                      cases h9
                    · have h10 : rs.all (rowD L rs.length) = true := by
                        cases z : rs.all (rowD L rs.length)
                        · rw [z] at h9
                          exact absurd rfl h9
                        · rfl
                      have kk3 : ∀ (H' : Hp) (z : Option Str), Same H H' → mends rs.length e = z → Q (optV z) H' := fun H' z sm q => by
                        refine kk2 H' z sm ?_
                        rw [if_pos h10]
                        exact q
                      have hde1 := same_dt sm hde
                      refine ⟨ve, rfl, ve, .ty "tuple", _, _, _, rfl, .ty _, tyD hde1, kitT e, _, rfl, ?_⟩
                      cases e with
                      | none => exact kk3 H1 (some "ends") sm rfl
                      | bool _ => exact kk3 H1 (some "ends") sm rfl
                      | int _ => exact kk3 H1 (some "ends") sm rfl
                      | str _ => exact kk3 H1 (some "ends") sm rfl
                      | list _ => exact kk3 H1 (some "ends") sm rfl
                      | dict _ => exact kk3 H1 (some "ends") sm rfl
                      | tuple es =>
                        obtain ⟨c, us, rfl, nb3, hs3, ha3, hl3⟩ := hde1.tup_ref
                        refine ⟨.ref c, rfl, c, us, rfl, .inr hs3, .ref b, rfl, b, ys, rfl, .inr (same_seqT sm hs2), rfl, _, rfl, ite2 (fun h11 => ?_) (fun h11 => ?_)⟩
                        · refine kk3 H1 (some "ends") sm ?_
                          unfold mends
                          show (if es.length = rs.length then _ else _) = _
                          rw [if_neg]
                          intro q
                          rw [hl3, hl2, q, decide_eq_true rfl] at h11
                          cases h11
                        · have h12 : es.length = rs.length := by
                            rw [← hl3, ← hl2]
                            by_cases z : us.length = ys.length
                            · exact z
                            · exfalso
                              apply h11
                              have z2 : ¬ (V.int (us.length : Int) = V.int (ys.length : Int)) := fun q => z (by have := V.int.inj q; omega)
                              rw [decide_eq_false z2]
                              rfl
                          have m5 : mends rs.length (.tuple es) = (if es.all isBool = true then (none : Option Str) else some ("ends" : Str)) := by
                            show (if es.length = rs.length then (if es.all isBool = true then none else some ("ends" : Str)) else some "ends") = _
                            exact if_pos h12
                          refine ⟨.ref c, rfl, c, rfl, ⟨us, hs3⟩, fun D2 hD2 => ?_⟩
                          refine lc_tup (K := K) (a := c) (xs := us) (BInv isBool es H1 D2) ⟨same_new hD2, upd_same⟩ (fun i H' _ q => same_seqT q.1 hs3) ?_ ?_
                          · rintro i y H' hy p
                            obtain ⟨d, hm, hd', fin⟩ := bturn ha3 (by omega) hD2 hy p
                            exact ⟨rfl, y, rfl, y, .ty "bool", _, _, _, rfl, .ty _, tyD hd', kitB' d, fin H' (Same.refl H') _ rfl⟩
                          · rintro H2 p
                            obtain ⟨sm2, hS2⟩ := bend (K := K) hl3 p
                            refine ⟨D2, _, rfl, hS2, _, rfl, ?_⟩
                            rw [all_take]
                            have sm3 : Same H H2 := fun b o z => sm2 b o (sm b o z)
                            refine ite2 (fun h13 => ?_) (fun h13 => ?_)
                            · have h14 : es.all isBool = false := by
                                cases z : es.all isBool
                                · rfl
                                · rw [z] at h13
                                  cases h13
                              refine kk3 H2 (some "ends") sm3 (m5.trans ?_)
                              rw [h14]
                              rfl
                            · have h14 : es.all isBool = true := by
                                cases z : es.all isBool
                                · rw [z] at h13
                                  exact absurd rfl h13
                                · rfl
                              refine kk3 H2 none sm3 (m5.trans ?_)
                              rw [h14]
                              rfl
end
end Ver
namespace Ver
open PySem PySem.Spec PyProof.Rows L2
/-! ### a list, a tuple beside an empty one -/
section
variable {X : Cx}
def rNilL (K : PySem.W.Frag) (g : Bool → Bool) : R2 := fun x y H Q => ∃ (l b : Addr) (xs : List V), x = .ref l ∧ y = .ref b ∧ SqL K H l xs ∧ SqL K H b [] ∧ Q (.bl (g (decide (xs = [])))) H
def rNilT (K : PySem.W.Frag) : R2 := fun x y H Q => ∃ (l b : Addr) (xs : List V), x = .ref l ∧ y = .ref b ∧ SqT K H l xs ∧ SqT K H b [] ∧ Q (.bl (decide (xs = []))) H
theorem op_eqNilL (hu : X.A.units < cLine) : OpR X (compareOp .Eq) (rNilL X.K id) := by
  intro pins s σ H x y v u Q I rx ry h
  obtain ⟨l, b, xs, rfl, rfl, hl, hb, q⟩ := h
  cases rx
  cases ry
  obtain ⟨its, rv, pl, _⟩ := I.list hl
  obtain ⟨its2, rv2, pl2, _⟩ := I.list hb
  cases rv2
  have hn := rv.length
  cases xs with
  | nil =>
    cases rv
    exact SeqAt.eq_listAt (e := fun _ => true) pl.isList pl2.isList rfl hu (fun j h1 _ => absurd h1 (Nat.not_lt_zero _)) ⟨.bl _, H, I, rfl, q⟩
  | cons z zs =>
    refine SeqAt.eq_list_lengthsAt pl.isList pl2.isList ?_ hu ⟨.bl _, H, I, rfl, q⟩
    rw [List.size_toArray, ← hn]
    rfl
theorem op_neNilL (hu : X.A.units < cLine) : OpR X (compareOp .NotEq) (rNilL X.K not) := by
  intro pins s σ H x y v u Q I rx ry h
  obtain ⟨l, b, xs, rfl, rfl, hl, hb, q⟩ := h
  cases rx
  cases ry
  obtain ⟨its, rv, pl, _⟩ := I.list hl
  obtain ⟨its2, rv2, pl2, _⟩ := I.list hb
  cases rv2
  have hn := rv.length
  cases xs with
  | nil =>
    cases rv
    exact SeqAt.RcNeAt.lists (e := fun _ => true) pl.isList pl2.isList rfl hu (fun j h1 _ => absurd h1 (Nat.not_lt_zero _)) _ _ _ _ ⟨.bl _, H, I, rfl, q⟩
  | cons z zs =>
    refine SeqAt.RcNeAt.lists_lengths pl.isList pl2.isList ?_ hu _ _ _ _ ⟨.bl _, H, I, rfl, q⟩
    rw [List.size_toArray, ← hn]
    rfl
theorem op_eqNilT (hu : X.A.units < cLine) : OpR X (compareOp .Eq) (rNilT X.K) := by
  intro pins s σ H x y v u Q I rx ry h
  obtain ⟨l, b, xs, rfl, rfl, hl, hb, q⟩ := h
  cases rx
  cases ry
  obtain ⟨its, rv, pl, _⟩ := I.tuple hl
  obtain ⟨its2, rv2, pl2, _⟩ := I.tuple hb
  cases rv2
  have hn := rv.length
  refine SeqAt.eq_tupleAt (e := fun _ => true) pl pl2 hu (fun j h1 h2 => absurd h2 (Nat.not_lt_zero _)) ⟨.bl _, H, I, ?_, q⟩
  cases xs with
  | nil =>
    cases rv
    rfl
  | cons z zs =>
    show Value.bool _ = Value.bool _
    congr 1
    rw [List.size_toArray, ← hn]
    rfl
end
end Ver
namespace Ver
open PySem PySem.Spec PyProof.Rows L2
/-- what a comprehension holds that picks the items that fail -/
def FInv (f : PyData → Bool) (ds : List PyData) (H : Hp) (D : Addr) (i : Nat) (H' : Hp) : Prop :=
  Same H H' ∧ ∃ acc : List V, H' D = some (.lst acc) ∧ acc.length ≤ i ∧ (acc = [] ↔ (ds.take i).all f = true)
theorem fstart {f : PyData → Bool} {ds : List PyData} {H : Hp} {D : Addr} (hD : H D = none) : FInv f ds H D 0 (upd H D (.lst [])) :=
  ⟨same_new hD, [], upd_same, Nat.le_refl _, by simp⟩
theorem fturn {B : Addr → Prop} {K : PySem.W.Frag} {H H' : Hp} {D : Addr} {xs : List V} {ds : List PyData} {f : PyData → Bool} {i : Nat} {y : V} (ha : DtAll B K H xs ds) (hz : ds.length < sizeLine) (hD : H D = none) (hy : xs[i]? = some y) (p : FInv f ds H D i H') :
    ∃ d, d ∈ ds ∧ Dt B K H' y d ∧ (∀ H'', Same H' H'' → f d = true → FInv f ds H D (i + 1) H'') ∧
      ∀ H'', Same H' H'' → f d = false → ∃ acc, H'' D = some (.lst acc) ∧ acc.length < sizeLine ∧ FInv f ds H D (i + 1) (upd H'' D (.lst (acc ++ [y]))) := by
  obtain ⟨sm, acc, hD', hl, hi⟩ := p
  obtain ⟨d, hd1, hd2⟩ := ha.getV hy
  have hlt := (List.getElem?_eq_some_iff.mp hd1).1
  have ht : (ds.take (i + 1)).all f = ((ds.take i).all f && f d) := by
    rw [List.take_add_one, hd1, List.all_append]
    simp
  refine ⟨d, List.mem_of_getElem? hd1, same_dt sm hd2, fun H'' s2 fd => ⟨fun b o z => s2 b o (sm b o z), acc, s2 _ _ hD', by omega, ?_⟩, fun H'' s2 fd => ⟨acc, s2 _ _ hD', by omega, fun b o z => ?_, _, upd_same, ?_, ?_⟩⟩
  · rw [ht, fd, Bool.and_true]
    exact hi
  · rw [upd_ne (ne_of_none z hD)]
    exact s2 _ _ (sm _ _ z)
  · rw [List.length_append, List.length_singleton]
    omega
  · rw [ht, fd, Bool.and_false]
    exact ⟨fun z => absurd z (by simp), fun z => absurd z Bool.false_ne_true⟩
theorem fend {K : PySem.W.Frag} {H H' : Hp} {D : Addr} {n : Nat} {ds : List PyData} {f : PyData → Bool} (e : n = ds.length) (p : FInv f ds H D n H') : Same H H' ∧ ∃ acc, SqL K H' D acc ∧ decide (acc = []) = ds.all f := by
  obtain ⟨sm, acc, hD', hl, hi⟩ := p
  rw [e, List.take_length] at hi
  refine ⟨sm, acc, SqL.of hD', ?_⟩
  cases z : ds.all f
  · exact decide_eq_false (fun q => by rw [hi.mp q] at z; cases z)
  · exact decide_eq_true (hi.mpr z)
theorem itemOk_ne {B : Addr → Prop} {K : PySem.W.Frag} {H : Hp} {y : V} {d : PyData} {n : Int} (h : Dt B K H y d) (ne : y ≠ .non) : itemOk n d = numD d 0 (n - 1) := by
  cases h with
  | non => exact absurd rfl ne
  | bl _ => rfl
  | int _ => rfl
  | str _ => rfl
  | lst _ _ _ _ => rfl
  | tup _ _ _ => rfl
  | emp _ _ => rfl
theorem not_cases {b : Bool} (h : (!b) = true) : b = false := by
  cases b
  · rfl
  · cases h
theorem not_cases' {b : Bool} (h : ¬ (!b) = true) : b = true := by
  cases b
  · exact absurd rfl h
  · rfl
section
variable {P : Program} {w : World} {K : PySem.W.Frag} {mg : Str → Option Value} {base : Heap}
theorem scError : FnScope ["_law_value", "_law_row", "_law_item", "_law_end"] ["_law_value"] (defScope sError) := ⟨rfl, rfl, rfl, by decide +kernel, rfl, by decide +kernel, by decide +kernel⟩
theorem ok_error {f fN : Addr} {fd fdN : FuncData} (F : Fun K "_law_error" "_law_error" sError f fd) (W : FnOk P w K mg base CX0 1 fN fdN ["_law_value", "_law_least", "_law_most"] (spNum K)) (FW : Fun K "_law_whole" "_law_whole" sWhole fN fdN) (bW : Binds K fdN ["_law_value", "_law_least", "_law_most"] []) (gW : mg "_law_whole" = some (.ref fN)) (T : Mg mg) :
    FnOk P w K mg base CX0 3 f fd ["_law_value"] (spErr K) := by
  refine F.ok scError (fun vs H Q E h => ?_) (fun cdv A outer s H vs Q E hr h => ?_)
  · obtain ⟨B, x, d, rfl, _⟩ := h
    rfl
  · obtain ⟨B, x, d, rfl, hd, hsz, k⟩ := h
    have hu0 := hr.units0
    refine ⟨_, pss_cons (ps_if (PW.pt (pw_or (pt_not (pt_val (pe_callB (r := rIsi K) call_isi (by rfl) T.isi PyProof.Rows.boot_isinstance (pa_cons (pv 0) (pa_cons (pe_bltn (v := .ty "tuple") (by rfl) T.tuple PyProof.Rows.boot_tuple rfl) pa_nil))))) (pw_or1 (pt_cmpR op_ne (pe_callB (r := rLen K) call_len_seq (by rfl) T.len PySem.boot_len (pa_cons (pv 0) pa_nil)) pe_int (nomark _))))) (pss_one (ps_ret pe_str)) pss_nil)
      (pss_cons (ps_if (pt_not (pt_val (pe_call W (hr.mono (by decide)) (by rfl) gW FW.kp bW .nil pass0 (pa_cons (pe_ix (r := rIxT K) ix_tup (pv 0) pe_int (fun _ _ => rfl)) (pa_cons pe_int (pa_cons pe_int pa_nil)))))) (pss_one (ps_ret pe_str)) pss_nil)
      (pss_cons (ps_if (PW.pt (pw_or (pt_not (pt_val (pe_callB (r := rIsi K) call_isi (by rfl) T.isi PyProof.Rows.boot_isinstance (pa_cons (pe_ix (r := rIxT K) ix_tup (pv 0) pe_int (fun _ _ => rfl)) (pa_cons (pe_bltn (v := .ty "tuple") (by rfl) T.tuple PyProof.Rows.boot_tuple rfl) pa_nil))))) (pw_or1 (pt_not (pt_chain op_le op_le pe_int (pe_callB (r := rLen K) call_len_seq (by rfl) T.len PySem.boot_len (pa_cons (pe_ix (r := rIxT K) ix_tup (pv 0) pe_int (fun _ _ => rfl)) pa_nil)) pe_int))))) (pss_one (ps_ret pe_str)) pss_nil)
      (pss_cons (ps_for PassesOwn.never rfl (pi_tup (pe_ix (r := rIxT K) ix_tup (pv 0) pe_int (fun _ _ => rfl))) (pg_name (i := 1) scError.nd rfl (.inl rfl))
        (pss_cons (ps_if (PW.pt (pw_or (pt_not (pt_val (pe_callB (r := rIsi K) call_isi (by rfl) T.isi PyProof.Rows.boot_isinstance (pa_cons (pv 1) (pa_cons (pe_bltn (v := .ty "tuple") (by rfl) T.tuple PyProof.Rows.boot_tuple rfl) pa_nil))))) (pw_or1 (pt_cmpR op_ne (pe_callB (r := rLen K) call_len_seq (by rfl) T.len PySem.boot_len (pa_cons (pv 1) pa_nil)) (pe_ix (r := rIxT K) ix_tup (pv 0) pe_int (fun _ _ => rfl)) (nomark _))))) (pss_one (ps_ret pe_str)) pss_nil)
        (pss_one (ps_if (pt_cmpR (op_neNilL hu0) (pe_lc (own := [("_law_item", 2)]) (g := gName 2) rfl scError.nd (pi_tup (pv 1)) (blkOk_by (N := ["_law_value", "_law_row", "_law_item", "_law_end"]) (sc := defScope sError) (by decide +kernel)) (fun _ _ _ _ _ => pg_name (i := 2) scError.nd rfl (Or.inl rfl))
            (fun _ _ _ _ _ => pts_one (PW.pt (pw_and (pt_cmp (pc_notN (pv 2))) (pw_and1 (pt_not (pt_val (pe_call W (hr.mono (by decide)) (by rfl) gW FW.kp bW .nil pass0 (pa_cons (pv 2) (pa_cons pe_int (pa_cons (pe_op op_sub (pe_callB (r := rLen K) call_len_seq (by rfl) T.len PySem.boot_len (pa_cons (pe_ix (r := rIxT K) ix_tup (pv 0) pe_int (fun _ _ => rfl)) pa_nil)) pe_int) pa_nil)))))))))) (fun _ _ _ _ _ => pv 2)) (pe_lst pa_nil) (nomark _))
          (pss_one (ps_ret pe_str)) pss_nil))))
      (pss_cons (ps_if (PW.pt (pw_or (pt_not (pt_val (pe_callB (r := rIsi K) call_isi (by rfl) T.isi PyProof.Rows.boot_isinstance (pa_cons (pe_ix (r := rIxT K) ix_tup (pv 0) pe_int (fun _ _ => rfl)) (pa_cons (pe_bltn (v := .ty "tuple") (by rfl) T.tuple PyProof.Rows.boot_tuple rfl) pa_nil))))) (pw_or1 (pt_cmpR op_ne (pe_callB (r := rLen K) call_len_seq (by rfl) T.len PySem.boot_len (pa_cons (pe_ix (r := rIxT K) ix_tup (pv 0) pe_int (fun _ _ => rfl)) pa_nil)) (pe_callB (r := rLen K) call_len_seq (by rfl) T.len PySem.boot_len (pa_cons (pe_ix (r := rIxT K) ix_tup (pv 0) pe_int (fun _ _ => rfl)) pa_nil)) (nomark _))))) (pss_one (ps_ret pe_str)) pss_nil)
      (pss_one (ps_ret (pe_ifExp (pt_cmpR (op_eqNilL hu0) (pe_lc (own := [("_law_end", 3)]) (g := gName 3) rfl scError.nd (pi_tup (pe_ix (r := rIxT K) ix_tup (pv 0) pe_int (fun _ _ => rfl))) (blkOk_by (N := ["_law_value", "_law_row", "_law_item", "_law_end"]) (sc := defScope sError) (by decide +kernel)) (fun _ _ _ _ _ => pg_name (i := 3) scError.nd rfl (Or.inl rfl))
            (fun _ _ _ _ _ => pts_one (pt_not (pt_val (pe_callB (r := rIsi K) call_isi (by rfl) T.isi PyProof.Rows.boot_isinstance (pa_cons (pv 3) (pa_cons (pe_bltn (v := .ty "bool") (by rfl) T.bool PyProof.Rows.boot_bool rfl) pa_nil)))))) (fun _ _ _ _ _ => pv 3)) (pe_lst pa_nil) (nomark _)) pe_non pe_str))))))), ?_⟩
    refine ⟨x, rfl, x, .ty "tuple", _, _, _, rfl, .ty _, tyD hd, kitT d, _, rfl, ?_⟩
    have km : merr d = some "machine" → Q (.str "machine") H := fun e => by
      have z := k H (Same.refl H)
      rw [e] at z
      exact z
    cases d with
    | none => exact km rfl
    | bool _ => exact km rfl
    | int _ => exact km rfl
    | str _ => exact km rfl
    | list _ => exact km rfl
    | dict _ => exact km rfl
    | tuple ds =>
      obtain ⟨a, xs, rfl, nb, hs, ha, hl⟩ := hd.tup_ref
      refine ⟨.ref a, rfl, a, xs, rfl, .inr hs, rfl, _, rfl, ite2 (fun h1 => ?_) (fun h1 => ?_)⟩
      · refine km ?_
        have h2 : ds.length ≠ 3 := by
          intro z
          rw [hl, z] at h1
          exact absurd h1 (by decide)
        match ds, h2 with
        | [], _ => rfl
        | [_], _ => rfl
        | [_, _], _ => rfl
        | [_, _, _], h2 => exact absurd rfl h2
        | _ :: _ :: _ :: _ :: _, _ => rfl
      · have h2 : ds.length = 3 := by
          rw [← hl]
          by_cases z : xs.length = 3
          · exact z
          · exfalso
            apply h1
            have z2 : ¬ (V.int (xs.length : Int) = V.int 3) := fun q => z (by have := V.int.inj q; omega)
            rw [decide_eq_false z2]
            rfl
        obtain ⟨l, r, e, rfl⟩ := three_of h2
        obtain ⟨vl, vr, ve, rfl, hdl, hdr, hde⟩ := dt_three ha
        · skip
          clear km
          have kk : ∀ (H' : Hp) (z : Option Str), Same H H' → merr3 l r e = z → Q (optV z) H' := fun H' z sm e => by
            rw [← e]
            exact k H' sm
          rw [nodes_tup, nodesAll_cons, nodesAll_cons, nodesAll_cons] at hsz
          have gl : atI [vl, vr, ve] 0 = some vl := atI_nat (j := 0) rfl
          have gr : atI [vl, vr, ve] 1 = some vr := atI_nat (j := 1) rfl
          have ge : atI [vl, vr, ve] 2 = some ve := atI_nat (j := 2) rfl
          refine ⟨.ref a, rfl, a, _, 0, vl, rfl, rfl, hs, gl, B, vl, l, 1, 3, rfl, hdl, _, rfl, ite2 (fun h3 => ?_) (fun h3 => ?_)⟩
          · refine kk H (some "letters") (Same.refl H) ?_
            refine merr3_no ?_
            cases z : numD l 1 3
            · rfl
            · rw [z] at h3
              cases h3
          · have h4 : numD l 1 3 = true := by
              cases z : numD l 1 3
              · rw [z] at h3
                exact absurd rfl h3
              · rfl
            obtain ⟨L, rfl⟩ : ∃ L, l = .int L := by
              cases l with
              | int L => exact ⟨L, rfl⟩
              | _ => cases h4
            cases hdl
            refine ⟨.ref a, rfl, a, _, 1, vr, rfl, rfl, hs, gr, vr, .ty "tuple", _, _, _, rfl, .ty _, tyD hdr, kitT r, _, rfl, ?_⟩
            rw [merr3_yes h4] at kk
            cases r with
            | none => exact kk H (some "rows") (Same.refl H) rfl
            | bool _ => exact kk H (some "rows") (Same.refl H) rfl
            | int _ => exact kk H (some "rows") (Same.refl H) rfl
            | str _ => exact kk H (some "rows") (Same.refl H) rfl
            | list _ => exact kk H (some "rows") (Same.refl H) rfl
            | dict _ => exact kk H (some "rows") (Same.refl H) rfl
            | tuple rs =>
              have kk : ∀ (H' : Hp) (z : Option Str), Same H H' → merr5 L rs e = z → Q (optV z) H' := kk
              obtain ⟨b, ys, rfl, nb2, hs2, ha2, hl2⟩ := hdr.tup_ref
              rw [nodes_tup] at hsz
              have lrs := len_nodes rs
              have bad : ¬ (1 ≤ rs.length ∧ rs.length ≤ 400) → Q (.str "rows") H := fun z => by
                refine kk H (some "rows") (Same.refl H) ?_
                unfold merr5
                rw [if_neg z]
              refine ⟨.ref a, rfl, a, _, 1, _, rfl, rfl, hs, gr, b, ys, rfl, .inr hs2, 1, _, rfl, rfl, _, rfl, ite2 (fun h5 => ?_) (fun h5 => ?_)⟩
              rotate_left
              · refine ⟨_, rfl, bad fun q => h5 (decide_eq_true ?_)⟩
                omega
              · have h5 := of_decide_eq_true h5
                refine ⟨_, 400, rfl, rfl, _, rfl, ite2 (fun h6 => ?_) (fun h6 => ?_)⟩
                · refine bad fun q => ?_
                  have h7 : decide ((ys.length : Int) ≤ 400) = true := decide_eq_true (by omega)
                  rw [h7] at h6
                  cases h6
                · have h7 : (ys.length : Int) ≤ 400 := by
                    cases z : decide ((ys.length : Int) ≤ 400)
                    · rw [z] at h6
                      exact absurd rfl h6
                    · exact of_decide_eq_true z
                  have h8 : 1 ≤ rs.length ∧ rs.length ≤ 400 := by omega
                  have kk2 : ∀ (H' : Hp) (z : Option Str), Same H H' → (if rs.all (rowD L rs.length) = true then mends rs.length e else some "rows") = z → Q (optV z) H' := fun H' z sm q => by
                    refine kk H' z sm ?_
                    unfold merr5
                    rw [if_pos h8]
                    exact q
                  have kr : ∀ (H' : Hp) (d : PyData), Same H H' → d ∈ rs → rowD L rs.length d = false → Q (.str "rows") H' := fun H' d sm hm q => by
                    refine kk2 H' (some "rows") sm ?_
                    rw [if_neg]
                    intro z
                    rw [List.all_eq_true] at z
                    rw [z d hm] at q
                    cases q
                  refine ⟨.ref a, rfl, a, _, 1, _, rfl, rfl, hs, gr, b, rfl, ⟨ys, hs2⟩, ?_⟩
                  refine for_tup (K := K) (a := b) (xs := ys) (fun i σ H' => Same H H' ∧ (∃ z, σ = [some (.ref a), z, none, none]) ∧ ∀ d ∈ rs.take i, rowD L rs.length d = true) ⟨Same.refl H, ⟨none, rfl⟩, fun d z => absurd z List.not_mem_nil⟩ (fun i σ H' _ q => same_seqT q.1 hs2) ?_ ?_
                  · rintro i y σ H' hy ⟨sm, ⟨z, rfl⟩, hall⟩
                    obtain ⟨d, hd1, hd2⟩ := ha2.getV hy
                    have hm := List.mem_of_getElem? hd1
                    have hmn := mem_nodes hm
                    have hd' := same_dt sm hd2
                    have hsA := same_seqT sm hs
                    have hsB := same_seqT sm hs2
                    have nxt : ∀ H'', Same H' H'' → rowD L rs.length d = true → (Same H H'' ∧ (∃ z, [some (V.ref a), some y, none, none] = [some (V.ref a), z, none, none]) ∧ ∀ d ∈ rs.take (i + 1), rowD L rs.length d = true) := fun H'' s2 q => by
                      refine ⟨fun b o z => s2 b o (sm b o z), ⟨_, rfl⟩, fun d2 m2 => ?_⟩
                      rw [List.take_add_one, hd1] at m2
                      rcases List.mem_append.mp m2 with m2 | m2
                      · exact hall d2 m2
                      · rw [show d2 = d by simpa using m2]
                        exact q
                    refine ⟨y, rfl, y, .ty "tuple", _, _, _, rfl, .ty _, tyD hd', kitT d, _, rfl, ?_⟩
                    cases d with
                    | none => exact kr H' _ sm hm rfl
                    | bool _ => exact kr H' _ sm hm rfl
                    | int _ => exact kr H' _ sm hm rfl
                    | str _ => exact kr H' _ sm hm rfl
                    | list _ => exact kr H' _ sm hm rfl
                    | dict _ => exact kr H' _ sm hm rfl
                    | tuple zs =>
                      obtain ⟨c, us, rfl, nb4, hs4, ha4, hl4⟩ := hd'.tup_ref
                      rw [nodes_tup] at hmn
                      have lzs := len_nodes zs
                      have hz4 : zs.length < sizeLine := Nat.lt_of_le_of_lt (show zs.length ≤ 100000 by omega) (by decide)
                      have er : rowD L rs.length (.tuple zs) = (decide ((zs.length : Int) = L) && zs.all (itemOk rs.length)) := rfl
                      refine ⟨.ref c, rfl, c, us, rfl, .inr hs4, .ref a, rfl, a, _, 0, _, rfl, rfl, hsA, gl, rfl, _, rfl, ite2 (fun h11 => ?_) (fun h11 => ?_)⟩
                      · refine kr H' _ sm hm ?_
                        rw [er, decide_eq_false, Bool.false_and]
                        intro q
                        rw [hl4, q, decide_eq_true rfl] at h11
                        cases h11
                      · have h12 : (zs.length : Int) = L := by
                          rw [← hl4]
                          by_cases z : (us.length : Int) = L
                          · exact z
                          · exfalso
                            apply h11
                            have z2 : ¬ (V.int (us.length : Int) = V.int L) := fun q => z (V.int.inj q)
                            rw [decide_eq_false z2]
                            rfl
                        rw [decide_eq_true h12, Bool.true_and] at er
                        have ey : (ys.length : Int) = rs.length := by omega
                        refine ⟨.ref c, rfl, c, rfl, ⟨us, hs4⟩, fun D hD => ?_⟩
                        refine lc_tup (K := K) (a := c) (xs := us) (FInv (itemOk rs.length) zs H' D) (fstart hD) (fun i H2 _ q => same_seqT q.1 hs4) ?_ ?_
                        · rintro i y H2 hy p
                          obtain ⟨d, hm2, hd3, f1, f2⟩ := fturn ha4 hz4 hD hy p
                          refine ⟨rfl, y, rfl, _, rfl, ite2 (fun hn => ?_) (fun hn => ?_)⟩
                          · have hn2 : y ≠ .non := of_decide_eq_false (not_cases hn)
                            have hio := itemOk_ne (n := rs.length) hd3 hn2
                            refine ⟨y, rfl, .ref a, rfl, a, _, 1, _, rfl, rfl, same_seqT p.1 hsA, gr, b, ys, rfl, .inr (same_seqT p.1 hsB), _, 1, rfl, rfl, B, y, d, 0, _, rfl, hd3, _, rfl, ?_⟩
                            rw [ey]
                            refine ite2 (fun h13 => ?_) (fun h13 => ?_)
                            · exact ⟨y, rfl, f2 H2 (Same.refl H2) (hio.trans (not_cases h13))⟩
                            · exact f1 H2 (Same.refl H2) (hio.trans (not_cases' h13))
                          · have hn2 : y = .non := of_decide_eq_true (not_cases' hn)
                            subst hn2
                            cases hd3
                            exact f1 H2 (Same.refl H2) rfl
                        · rintro H3 p
                          obtain ⟨sm3, acc, hS3, hdec⟩ := fend (K := K) hl4 p
                          refine ⟨Nat.zero_le _, fun E1 hE1 => ?_⟩
                          refine ⟨D, E1, acc, rfl, rfl, L2.Same.seq (same_new hE1) hS3, SqL.of upd_same, _, rfl, ?_⟩
                          rw [hdec]
                          have sm4 : Same H' (upd H3 E1 (.lst [])) := L2.Same.trans sm3 (same_new hE1)
                          refine ite2 (fun h13 => ?_) (fun h13 => ?_)
                          · exact kr _ _ (L2.Same.trans sm sm4) hm (er.trans (not_cases h13))
                          · exact nxt _ sm4 (er.trans (not_cases' h13))
                  · rintro σ H1 ⟨sm, ⟨z, rfl⟩, hall⟩
                    rw [hl2, List.take_length] at hall
                    have h10 : rs.all (rowD L rs.length) = true := List.all_eq_true.mpr hall
                    have kk3 : ∀ (H' : Hp) (z : Option Str), Same H H' → mends rs.length e = z → Q (optV z) H' := fun H' z sm q => by
                      refine kk2 H' z sm ?_
                      rw [if_pos h10]
                      exact q
                    have hsA := same_seqT sm hs
                    have hsB := same_seqT sm hs2
                    have hde1 := same_dt sm hde
                    refine ⟨.ref a, rfl, a, _, 2, ve, rfl, rfl, hsA, ge, ve, .ty "tuple", _, _, _, rfl, .ty _, tyD hde1, kitT e, _, rfl, ?_⟩
                    cases e with
                    | none => exact kk3 H1 (some "ends") sm rfl
                    | bool _ => exact kk3 H1 (some "ends") sm rfl
                    | int _ => exact kk3 H1 (some "ends") sm rfl
                    | str _ => exact kk3 H1 (some "ends") sm rfl
                    | list _ => exact kk3 H1 (some "ends") sm rfl
                    | dict _ => exact kk3 H1 (some "ends") sm rfl
                    | tuple es =>
                      obtain ⟨c, us, rfl, nb3, hs3, ha3, hl3⟩ := hde1.tup_ref
                      rw [nodes_tup] at hsz
                      have les := len_nodes es
                      refine ⟨.ref a, rfl, a, _, 2, _, rfl, rfl, hsA, ge, c, us, rfl, .inr hs3, .ref a, rfl, a, _, 1, _, rfl, rfl, hsA, gr, b, ys, rfl, .inr hsB, rfl, _, rfl, ite2 (fun h11 => ?_) (fun h11 => ?_)⟩
                      · refine kk3 H1 (some "ends") sm ?_
                        unfold mends
                        show (if es.length = rs.length then _ else _) = _
                        rw [if_neg]
                        intro q
                        rw [hl3, hl2, q, decide_eq_true rfl] at h11
                        cases h11
                      · have h12 : es.length = rs.length := by
                          rw [← hl3, ← hl2]
                          by_cases z : us.length = ys.length
                          · exact z
                          · exfalso
                            apply h11
                            have z2 : ¬ (V.int (us.length : Int) = V.int (ys.length : Int)) := fun q => z (by have := V.int.inj q; omega)
                            rw [decide_eq_false z2]
                            rfl
                        have m5 : mends rs.length (.tuple es) = (if es.all isBool = true then (none : Option Str) else some ("ends" : Str)) := by
                          show (if es.length = rs.length then (if es.all isBool = true then none else some ("ends" : Str)) else some "ends") = _
                          exact if_pos h12
                        have hz5 : es.length < sizeLine := small1000 (by omega)
                        refine ⟨.ref a, rfl, a, _, 2, _, rfl, rfl, hsA, ge, c, rfl, ⟨us, hs3⟩, fun D2 hD2 => ?_⟩
                        refine lc_tup (K := K) (a := c) (xs := us) (FInv isBool es H1 D2) (fstart hD2) (fun i H' _ q => same_seqT q.1 hs3) ?_ ?_
                        · rintro i y H' hy p
                          obtain ⟨d, hm2, hd3, f1, f2⟩ := fturn ha3 hz5 hD2 hy p
                          refine ⟨rfl, y, rfl, y, .ty "bool", _, _, _, rfl, .ty _, tyD hd3, kitB' d, _, rfl, ite2 (fun h13 => ?_) (fun h13 => ?_)⟩
                          · exact ⟨y, rfl, f2 H' (Same.refl H') (not_cases h13)⟩
                          · exact f1 H' (Same.refl H') (not_cases' h13)
                        · rintro H3 p
                          obtain ⟨sm3, acc, hS3, hdec⟩ := fend (K := K) hl3 p
                          refine ⟨Nat.zero_le _, fun E1 hE1 => ?_⟩
                          refine ⟨D2, E1, acc, rfl, rfl, L2.Same.seq (same_new hE1) hS3, SqL.of upd_same, _, rfl, ?_⟩
                          rw [hdec]
                          have sm4 : Same H (upd H3 E1 (.lst [])) := L2.Same.trans sm (L2.Same.trans sm3 (same_new hE1))
                          refine ite2 (fun h13 => ?_) (fun h13 => ?_)
                          · have h13 : es.all isBool = true := h13
                            refine kk3 _ none sm4 (m5.trans ?_)
                            rw [h13]
                            rfl
                          · have h13 : es.all isBool = false := by
                              cases z : es.all isBool
                              · rfl
                              · exact absurd z h13
                            refine kk3 _ (some "ends") sm4 (m5.trans ?_)
                            rw [h13]
                            rfl
end
end Ver
namespace Ver
open PySem PySem.Spec PyProof.Rows L2
/-! ### while the deck is drawn from -/
theorem deck_upd {a c p : Addr} {cells : List Int} {n : Int} {H : Hp} {o : HO} (h : DeckAt a c cells n H) (np : ¬ Bd a c p) : DeckAt a c cells n (upd H p o) := by
  obtain ⟨h1, h2, h3, h4, h5⟩ := h
  refine ⟨h1, ?_, ?_, h4, h5⟩
  · rw [upd_ne (fun z : a = p => np (.inl z.symm))]
    exact h2
  · rw [upd_ne (fun z : c = p => np (.inr z.symm))]
    exact h3
theorem deck_off {a c p : Addr} {cells : List Int} {n : Int} {H : Hp} (h : DeckAt a c cells n H) (np : H p = none) : ¬ Bd a c p := bd_new np h.2.1 h.2.2.1
theorem deck_new {a c p : Addr} {cells : List Int} {n : Int} {H : Hp} {o : HO} (h : DeckAt a c cells n H) (np : H p = none) : DeckAt a c cells n (upd H p o) := deck_upd h (deck_off h np)
/-- a list that is made at D while the deck is drawn from: at most s draws an item -/
def CInv (a c D : Addr) (H0 : Hp) (G : V → Prop) (n0 s : Int) (j : Nat) (H' : Hp) : Prop :=
  ∃ (cells : List Int) (n' : Int) (acc : List V), DeckAt a c cells n' H' ∧ n0 ≤ n' ∧ n' ≤ n0 + s * j ∧ Keep (Bd a c) H0 H' ∧ H' D = some (.lst acc) ∧ acc.length = j ∧ ∀ v ∈ acc, G v
theorem cstart {a c D : Addr} {H0 : Hp} {G : V → Prop} {cells : List Int} {n0 s : Int} (dk : DeckAt a c cells n0 H0) (hD : H0 D = none) : CInv a c D H0 G n0 s 0 (upd H0 D (.lst [])) :=
  ⟨cells, n0, [], deck_new dk hD, Int.le_refl _, by simp, keep_new hD, upd_same, rfl, fun v z => absurd z List.not_mem_nil⟩
theorem cstep {a c D : Addr} {H0 H1 H2 : Hp} {G : V → Prop} {cells2 : List Int} {n0 s n1 n2 : Int} {j : Nat} {acc : List V} {v : V} (hD0 : H0 D = none) (nD : ¬ Bd a c D) (hj : j ≤ 1000) (h0 : n0 ≤ n1) (h1 : n1 ≤ n0 + s * j) (kp : Keep (Bd a c) H0 H1) (hD : H1 D = some (.lst acc)) (hl : acc.length = j)
    (hG : ∀ v ∈ acc, G v) (dk : DeckAt a c cells2 n2 H2) (h2 : n1 ≤ n2) (h3 : n2 ≤ n1 + s) (k2 : Keep (Bd a c) H1 H2) (g : G v) :
    ∃ acc', H2 D = some (.lst acc') ∧ acc'.length < sizeLine ∧ CInv a c D H0 G n0 s (j + 1) (upd H2 D (.lst (acc' ++ [v]))) := by
  refine ⟨acc, k2 _ _ nD hD, small1000 (by omega), cells2, n2, acc ++ [v], deck_upd dk nD, by omega, ?_, fun b o nb z => ?_, upd_same, ?_, fun u hu => ?_⟩
  · have e : s * ((j + 1 : Nat) : Int) = s * j + s := by
      rw [Int.natCast_add, Int.mul_add]
      simp
    rw [e]
    omega
  · rw [upd_ne (ne_of_none z hD0)]
    exact k2 _ _ nb (kp _ _ nb z)
  · rw [List.length_append, hl]
    rfl
  · rcases List.mem_append.mp hu with hu | hu
    · exact hG u hu
    · rw [List.mem_singleton.mp hu]
      exact g
/-- an item of a row: None, or the number of a state -/
def Gi (m : Int) (v : V) : Prop := v = .non ∨ ∃ k : Int, v = .int k ∧ 0 ≤ k ∧ k < m
def Ri (m : Int) (d : PyData) : Prop := d = .none ∨ ∃ k : Int, d = .int k ∧ 0 ≤ k ∧ k < m
theorem gi_dt {m : Int} : ∀ {acc : List V}, (∀ v ∈ acc, Gi m v) → ∃ ds : List PyData, (∀ (B : Addr → Prop) (K : PySem.W.Frag) (H : Hp), DtAll B K H acc ds) ∧ ds.length = acc.length ∧ ∀ d ∈ ds, Ri m d
  | [], _ => ⟨[], fun _ _ _ => .nil, rfl, fun d z => absurd z List.not_mem_nil⟩
  | v :: acc, h => by
    obtain ⟨ds, h1, h2, h3⟩ := gi_dt (acc := acc) fun u hu => h u (List.mem_cons_of_mem _ hu)
    rcases h v List.mem_cons_self with e | ⟨k, e, k0, k1⟩
    · subst e
      refine ⟨.none :: ds, fun B K H => .cons .non (h1 B K H), by rw [List.length_cons, List.length_cons, h2], fun d hd => ?_⟩
      rcases List.mem_cons.mp hd with hd | hd
      · exact .inl hd
      · exact h3 d hd
    · subst e
      refine ⟨.int k :: ds, fun B K H => .cons (.int k) (h1 B K H), by rw [List.length_cons, List.length_cons, h2], fun d hd => ?_⟩
      rcases List.mem_cons.mp hd with hd | hd
      · exact .inr ⟨k, hd, k0, k1⟩
      · exact h3 d hd
def Gb (v : V) : Prop := ∃ b, v = .bl b
theorem gb_dt : ∀ {acc : List V}, (∀ v ∈ acc, Gb v) → ∃ ds : List PyData, (∀ (B : Addr → Prop) (K : PySem.W.Frag) (H : Hp), DtAll B K H acc ds) ∧ ds.length = acc.length ∧ ∀ d ∈ ds, isBool d = true
  | [], _ => ⟨[], fun _ _ _ => .nil, rfl, fun d z => absurd z List.not_mem_nil⟩
  | v :: acc, h => by
    obtain ⟨ds, h1, h2, h3⟩ := gb_dt (acc := acc) fun u hu => h u (List.mem_cons_of_mem _ hu)
    obtain ⟨b, e⟩ := h v List.mem_cons_self
    subst e
    refine ⟨.bool b :: ds, fun B K H => .cons (.bl b) (h1 B K H), by rw [List.length_cons, List.length_cons, h2], fun d hd => ?_⟩
    rcases List.mem_cons.mp hd with hd | hd
    · rw [hd]
      rfl
    · exact h3 d hd
def RowD (L m : Int) (d : PyData) : Prop := ∃ is : List PyData, d = .tuple is ∧ (is.length : Int) = L ∧ ∀ i ∈ is, Ri m i
def B3 (a c R : Addr) : Addr → Prop := fun b => Bd a c b ∨ b = R
mutual
theorem Dt.weak {B B' : Addr → Prop} {K : PySem.W.Frag} {H : Hp} (k : ∀ b, B' b → B b) : ∀ (d : PyData) (v : V), Dt B K H v d → Dt B' K H v d
  | .none, _, h => by cases h; exact .non
  | .bool _, _, h => by cases h; exact .bl _
  | .int _, _, h => by cases h; exact .int _
  | .str _, _, h => by cases h; exact .str _
  | .list ds, _, h => by
    cases h with
    | lst nb ne hs ha => exact .lst (fun z => nb (k _ z)) ne hs (DtAll.weak k ds _ ha)
  | .tuple ds, _, h => by
    cases h with
    | tup nb hs ha => exact .tup (fun z => nb (k _ z)) hs (DtAll.weak k ds _ ha)
  | .dict _, _, h => by
    cases h with
    | emp nb e => exact .emp (fun z => nb (k _ z)) e
theorem DtAll.weak {B B' : Addr → Prop} {K : PySem.W.Frag} {H : Hp} (k : ∀ b, B' b → B b) : ∀ (ds : List PyData) (vs : List V), DtAll B K H vs ds → DtAll B' K H vs ds
  | [], _, h => by cases h; exact .nil
  | d :: ds, _, h => by
    cases h with
    | cons h1 h2 => exact .cons (Dt.weak k d _ h1) (DtAll.weak k ds _ h2)
end
theorem Keep.wide {B B' : Addr → Prop} {H H' : Hp} (k : ∀ b, B b → B' b) (h : Keep B H H') : Keep B' H H' := fun b o n e => h b o (fun z => n (k b z)) e
/-- the rows that are made so far -/
def MInv (K : PySem.W.Frag) (a c R : Addr) (H : Hp) (L m n0 : Int) (i : Nat) (H' : Hp) : Prop :=
  ∃ (cells : List Int) (n' : Int) (rvs : List V) (rds : List PyData), DeckAt a c cells n' H' ∧ n0 ≤ n' ∧ n' ≤ n0 + 6 * i ∧ Keep (Bd a c) H H' ∧ H' R = some (.lst rvs) ∧ DtAll (B3 a c R) K H' rvs rds ∧ rds.length = i ∧ ∀ r ∈ rds, RowD L m r
theorem mstep {K : PySem.W.Frag} {a c R q : Addr} {H H1 H2 : Hp} {L m n0 n1 n2 : Int} {i : Nat} {rvs acc : List V} {rds : List PyData} {cells2 : List Int} (hR0 : H R = none) (nR : ¬ Bd a c R) (hi : i ≤ 1000) (h0 : n0 ≤ n1) (h1 : n1 ≤ n0 + 6 * i) (kp : Keep (Bd a c) H H1) (hR : H1 R = some (.lst rvs)) (hd : DtAll (B3 a c R) K H1 rvs rds)
    (hl : rds.length = i) (hr : ∀ r ∈ rds, RowD L m r) (k2 : Keep (Bd a c) H1 H2) (dk : DeckAt a c cells2 n2 H2) (h2 : n1 ≤ n2) (h3 : n2 ≤ n1 + 6) (hG : ∀ v ∈ acc, Gi m v) (hL : (acc.length : Int) = L) (hq : H2 q = none) :
    ∃ rvs', (upd H2 q (.tup acc)) R = some (.lst rvs') ∧ rvs'.length < sizeLine ∧ MInv K a c R H L m n0 (i + 1) (upd (upd H2 q (.tup acc)) R (.lst (rvs' ++ [.ref q]))) := by
  have hR2 := k2 _ _ nR hR
  have nq : R ≠ q := ne_of_none hR2 hq
  have k3 : Keep (B3 a c R) H1 (upd (upd H2 q (.tup acc)) R (.lst (rvs ++ [.ref q]))) := fun b o nb z => by
    rw [upd_ne (fun z : b = R => nb (.inr z)), upd_ne (ne_of_none (k2 _ _ (fun z => nb (.inl z)) z) hq)]
    exact k2 _ _ (fun z => nb (.inl z)) z
  obtain ⟨ds, g1, g2, g3⟩ := gi_dt hG
  have hlv := hd.len
  refine ⟨rvs, by rw [upd_ne nq]; exact hR2, small1000 (by omega), cells2, n2, rvs ++ [.ref q], rds ++ [.tuple ds], deck_upd (deck_new dk hq) nR, by omega, by omega, fun b o nb z => ?_, upd_same, ?_, ?_, ?_⟩
  · rw [upd_ne (ne_of_none z hR0), upd_ne (ne_of_none (k2 _ _ nb (kp _ _ nb z)) hq)]
    exact k2 _ _ nb (kp _ _ nb z)
  · refine (DtAll.keep k3 _ _ hd).append (.cons (.tup (xs := acc) ?_ (.inl ?_) (g1 _ _ _)) .nil)
    · rintro (z | z)
      · exact deck_off dk hq z
      · exact nq z.symm
    · rw [upd_ne nq.symm, upd_same]
  · rw [List.length_append, hl]
    rfl
  · intro r hr2
    rcases List.mem_append.mp hr2 with hr2 | hr2
    · exact hr r hr2
    · rw [List.mem_singleton.mp hr2]
      exact ⟨ds, rfl, by rw [g2]; exact hL, g3⟩
end Ver
namespace Ver
open PySem PySem.Spec PyProof.Rows L2
def rTup (K : PySem.W.Frag) : List V → Hp → VK → Prop := fun xs H Q => ∃ p ys, xs = [.ref p] ∧ ((SqL K H p ys ∧ ∀ l, H l = none → Q (.ref l) (upd H l (.tup ys))) ∨ (SqT K H p ys ∧ Q (.ref p) H))
section
variable {P : Program} {w : World} {K : PySem.W.Frag} {mg : Str → Option Value} {base : Heap}
theorem scMach : FnScope ["_law_deck_here", "_law_letters", "_law_most", "_law_many", "_law_way", "_law_rows", "_law_state", "_law_at", "_law_further", "_law_items", "_law_item", "_law_often"] ["_law_deck_here", "_law_letters", "_law_most"] (defScope sMach) := ⟨rfl, rfl, rfl, by decide +kernel, rfl, by decide +kernel, by decide +kernel⟩
def MachD (K : PySem.W.Frag) (a c : Addr) (H : Hp) (v : V) (L M : Int) (rs es : List PyData) : Prop :=
  Dt (Bd a c) K H v (.tuple [.int L, .tuple rs, .tuple es]) ∧ 1 ≤ rs.length ∧ (rs.length : Int) ≤ M ∧ es.length = rs.length ∧ (∀ r ∈ rs, RowD L rs.length r) ∧ ∀ e ∈ es, isBool e = true
def spMach (K : PySem.W.Frag) : Sp := fun vs H Q _ => ∃ (a c : Addr) (cells : List Int) (n L M : Int), vs = [.ref a, .int L, .int M] ∧ DeckAt a c cells n H ∧ 0 ≤ n ∧ n ≤ 900000 ∧ 1 ≤ L ∧ L ≤ 3 ∧ 1 ≤ M ∧ M ≤ 10 ∧
  ∀ (H' : Hp) (cells' : List Int) (n' : Int) (v : V) (rs es : List PyData), DeckAt a c cells' n' H' → n ≤ n' → n' ≤ n + 100 → Keep (Bd a c) H H' → MachD K a c H' v L M rs es → Q v H'
theorem ok_mach {f fD fO : Addr} {fd fdD fdO : FuncData} (F : Fun K "_law_machine" "_law_machine" sMach f fd) (D : FnOk P w K mg base CX0 1 fD fdD ["_law_deck_here", "_law_many"] spDraw) (FD : Fun K "_law_draw" "_law_draw" sDraw fD fdD) (bD : Binds K fdD ["_law_deck_here", "_law_many"] []) (gD : mg "_law_draw" = some (.ref fD))
    (O : FnOk P w K mg base CX0 2 fO fdO ["_law_deck_here", "_law_items"] (spOne K)) (FO : Fun K "_law_one" "_law_one" sOne fO fdO) (bO : Binds K fdO ["_law_deck_here", "_law_items"] []) (gO : mg "_law_one" = some (.ref fO)) (T : Mg mg) :
    FnOk P w K mg base CX0 3 f fd ["_law_deck_here", "_law_letters", "_law_most"] (spMach K) := by
  refine F.ok scMach (fun vs H Q E h => ?_) (fun cdv A outer s H vs Q E hr h => ?_)
  · obtain ⟨a, c, cells, n, L, M, rfl, _⟩ := h
    rfl
  · obtain ⟨a, c, cells, n, L, M, rfl, dk, n0, n1, l1, l3, m1, m10, k⟩ := h
    refine ⟨_, pss_cons (ps_asg (pe_tup (pa_cons (pe_op op_add pe_int (pe_call D (hr.mono (by decide)) (by rfl) gD FD.kp bD .nil pass0 (pa_cons (pv 0) (pa_cons (pv 2) pa_nil)))) (pa_cons (pe_call D (hr.mono (by decide)) (by rfl) gD FD.kp bD .nil pass0 (pa_cons (pv 0) (pa_cons pe_int pa_nil))) (pa_cons (pe_lst pa_nil) pa_nil)))) (pg_tup rfl (pgs_cons (pg_name (i := 3) scMach.nd rfl (.inr rfl)) (pgs_cons (pg_name (i := 4) scMach.nd rfl (.inr rfl)) (pgs_cons (pg_name (i := 5) scMach.nd rfl (.inl rfl)) pgs_nil)))))
      (pss_cons (ps_for PassesOwn.never rfl (pi_range1 (by rfl) T.range (pa_cons (pv 3) pa_nil)) (pg_name (i := 6) scMach.nd rfl (.inr rfl))
        (pss_one (ps_if (pt_cmpR op_eq (pv 4) pe_int (nomark _)) (pss_one (ps_expr (pe_bm PySem.F.plainAttrs_list PySem.F.slot_list_append PySem.F.type_list_append mt_append (pv 5) (pa_cons (pe_callTy (r := rTup K) call_tuple_of (by rfl) T.tuple PyProof.Rows.boot_tuple (pa_cons (pe_lc (own := [("_law_at", 7)]) (g := gName 7) (tt := tYes) rfl scMach.nd (pi_range1 (by rfl) T.range (pa_cons (pv 1) pa_nil)) (blkOk_by (N := ["_law_deck_here", "_law_letters", "_law_most", "_law_many", "_law_way", "_law_rows", "_law_state", "_law_at", "_law_further", "_law_items", "_law_item", "_law_often"]) (sc := defScope sMach) (by decide +kernel)) (fun _ _ _ _ _ => pg_name (i := 7) scMach.nd rfl (Or.inl rfl)) (fun _ _ _ _ _ => pts_nil) (fun _ _ _ _ _ => pe_op op_mod (pe_callTy call_int1 (by rfl) T.int PyProof.Rows.boot_int (pa_cons (pe_op op_add (pv 6) pe_int) pa_nil)) (pv 3))) pa_nil)) pa_nil))))
          (pss_one (ps_if (pt_cmpR op_eq (pv 4) pe_int (nomark _))
            (pss_cons (ps_set (i := 8) scMach.nd rfl (.inr rfl) (pe_lst (pa_cons (pe_ifExp (pt_cmpR op_lt (pe_op op_add (pv 6) pe_int) (pv 3) (nomark _)) (pe_op op_add (pv 6) pe_int) pe_non) (pa_cons (pv 6) (pa_cons pe_non pa_nil)))))
              (pss_one (ps_expr (pe_bm PySem.F.plainAttrs_list PySem.F.slot_list_append PySem.F.type_list_append mt_append (pv 5) (pa_cons (pe_callTy (r := rTup K) call_tuple_of (by rfl) T.tuple PyProof.Rows.boot_tuple (pa_cons (pe_lc (own := [("_law_at", 7)]) (g := gName 7) (tt := tYes) rfl scMach.nd (pi_range1 (by rfl) T.range (pa_cons (pv 1) pa_nil)) (blkOk_by (N := ["_law_deck_here", "_law_letters", "_law_most", "_law_many", "_law_way", "_law_rows", "_law_state", "_law_at", "_law_further", "_law_items", "_law_item", "_law_often"]) (sc := defScope sMach) (by decide +kernel)) (fun _ _ _ _ _ => pg_name (i := 7) scMach.nd rfl (Or.inl rfl)) (fun _ _ _ _ _ => pts_nil) (fun _ _ _ _ _ => (pe_call O hr (by rfl) gO FO.kp bO .nil pass0 (pa_cons (pv 0) (pa_cons (pv 8) pa_nil))))) pa_nil)) pa_nil)))))
            (pss_cons (ps_setLc (i := 9) (own := [("_law_at", 7)]) (g := gName 7) (tt := tYes) rfl scMach.nd rfl rfl (sw_true rfl rfl rfl (by decide +kernel)) (pi_range1 (by rfl) T.range (pa_cons (pv 1) pa_nil)) (blkOk_by (N := ["_law_deck_here", "_law_letters", "_law_most", "_law_many", "_law_way", "_law_rows", "_law_state", "_law_at", "_law_further", "_law_items", "_law_item", "_law_often"]) (sc := defScope sMach) (by decide +kernel)) (fun _ _ _ _ _ => pg_name (i := 7) scMach.nd rfl (Or.inl rfl)) (fun _ _ _ _ _ => pts_nil) (fun _ _ _ _ _ => (pe_call D (hr.mono (by decide)) (by rfl) gD FD.kp bD .nil pass0 (pa_cons (pv 0) (pa_cons (pv 3) pa_nil)))))
              (pss_one (ps_expr (pe_bm PySem.F.plainAttrs_list PySem.F.slot_list_append PySem.F.type_list_append mt_append (pv 5) (pa_cons (pe_callTy (r := rTup K) call_tuple_of (by rfl) T.tuple PyProof.Rows.boot_tuple (pa_cons (pe_lc (own := [("_law_item", 10)]) (g := gName 10) (tt := tYes) rfl scMach.nd (pi_list (pv 9)) (blkOk_by (N := ["_law_deck_here", "_law_letters", "_law_most", "_law_many", "_law_way", "_law_rows", "_law_state", "_law_at", "_law_further", "_law_items", "_law_item", "_law_often"]) (sc := defScope sMach) (by decide +kernel)) (fun _ _ _ _ _ => pg_name (i := 10) scMach.nd rfl (Or.inl rfl)) (fun _ _ _ _ _ => pts_nil) (fun _ _ _ _ _ => pe_ifExp (pt_cmpR op_eq (pe_call D (hr.mono (by decide)) (by rfl) gD FD.kp bD .nil pass0 (pa_cons (pv 0) (pa_cons (pe_op op_add pe_int (pv 4)) pa_nil))) pe_int (nomark _)) pe_non (pv 10))) pa_nil)) pa_nil))))))))))
      (pss_cons (ps_set (i := 11) scMach.nd rfl (.inr rfl) (pe_call O hr (by rfl) gO FO.kp bO .nil pass0 (pa_cons (pv 0) (pa_cons (pe_lst (pa_cons pe_int (pa_cons pe_int (pa_cons pe_int (pa_cons pe_int pa_nil))))) pa_nil))))
      (pss_one (ps_ret (pe_tup (pa_cons (pv 1) (pa_cons (pe_callTy (r := rTup K) call_tuple_of (by rfl) T.tuple PyProof.Rows.boot_tuple (pa_cons (pv 5) pa_nil)) (pa_cons (pe_callTy (r := rTup K) call_tuple_of (by rfl) T.tuple PyProof.Rows.boot_tuple (pa_cons (pe_lc (own := [("_law_state", 6)]) (g := gName 6) (tt := tYes) rfl scMach.nd (pi_range1 (by rfl) T.range (pa_cons (pv 3) pa_nil)) (blkOk_by (N := ["_law_deck_here", "_law_letters", "_law_most", "_law_many", "_law_way", "_law_rows", "_law_state", "_law_at", "_law_further", "_law_items", "_law_item", "_law_often"]) (sc := defScope sMach) (by decide +kernel)) (fun _ _ _ _ _ => pg_name (i := 6) scMach.nd rfl (Or.inl rfl)) (fun _ _ _ _ _ => pts_nil) (fun _ _ _ _ _ => pe_cmpR op_eq (pe_call D (hr.mono (by decide)) (by rfl) gD FD.kp bD .nil pass0 (pa_cons (pv 0) (pa_cons (pv 11) pa_nil))) pe_int (nomark _))) pa_nil)) pa_nil)))))))), ?_⟩
    refine ⟨_, rfl, _, rfl, a, c, cells, n, M, rfl, dk, m1, by omega, n0, by omega, fun H1 cells1 r1 r0 rM dk1 k1 => ?_⟩
    refine ⟨1, r1, rfl, rfl, _, rfl, a, c, cells1, n + 1, 5, rfl, dk1, by decide, by decide, by omega, by omega, fun H2 cells2 r2 r20 r25 dk2 k2 => ?_⟩
    refine ⟨Nat.zero_le _, fun R hR => ?_⟩
    have nR := deck_off dk2 hR
    have k12 := k1.trans k2
    have dk3 := deck_new (o := .lst []) dk2 hR
    have k3 := k12.trans (keep_new (B := Bd a c) (o := .lst []) hR)
    have hR3 : upd H2 R (.lst []) R = some (.lst []) := upd_same
    refine ⟨(by show 3 ≤ sizeLine; decide), fun T3 hT => ?_⟩
    have dk4 := deck_new (o := .tup [.int (1 + r1), .int r2, .ref R]) dk3 hT
    have k4 := k3.trans (keep_new (B := Bd a c) (o := .tup [.int (1 + r1), .int r2, .ref R]) hT)
    have hR4 : upd (upd H2 R (.lst [])) T3 (.tup [.int (1 + r1), .int r2, .ref R]) R = some (.lst []) := by
      rw [upd_ne (ne_of_none hR3 hT)]
      exact hR3
    have hT4 : upd (upd H2 R (.lst [])) T3 (.tup [.int (1 + r1), .int r2, .ref R]) T3 = some (.tup [.int (1 + r1), .int r2, .ref R]) := upd_same
    have hR0 : H R = none := by
      cases z : H R with
      | none => rfl
      | some o =>
        rw [k12 _ _ nR z] at hR
        cases hR
    refine ⟨T3, _, rfl, SqT.of hT4, rfl, _, _, rfl, _, _, rfl, _, _, rfl, rfl, ?_⟩
    obtain ⟨m, em⟩ : ∃ m, m = 1 + r1 := ⟨_, rfl⟩
    have hm1 : 1 ≤ m := by omega
    have hmM : m ≤ M := by omega
    have lo62 : ∀ z : Int, 0 ≤ z → z ≤ 10 → -(2 ^ 62) ≤ z ∧ z < 2 ^ 62 := fun z z0 z1 => ⟨by omega, by omega⟩
    refine ⟨_, rfl, m, by rw [em], (lo62 m (by omega) (by omega)).1, (lo62 m (by omega) (by omega)).2, ?_⟩
    refine for_range (lo := 0) (n := m.toNat) (fun i σ H' => (∃ y6 y8 y9, σ = [some (.ref a), some (.int L), some (.int M), some (.int m), some (.int r2), some (.ref R), y6, none, y8, y9, none, none]) ∧ MInv K a c R H L m (n + 2) i H')
      ⟨⟨none, none, none, by rw [em]; rfl⟩, cells2, n + 1 + 1, [], [], dk4, by omega, by omega, k4, hR4, .nil, rfl, fun r z => absurd z List.not_mem_nil⟩ ?_ ?_
    · rintro i σ H5 hi ⟨⟨y6, y8, y9, rfl⟩, cells5, n5, rvs, rds, dk5, hn5, hn5', k5, hR5, hd5, hl5, hr5⟩
      have hi10 : i < 10 := by omega
      -- what each of the three ways has at its end
      have stp : ∀ (y8' y9' : Option V) (H6 : Hp) (cells6 : List Int) (n6 : Int) (acc : List V) (q : Addr), Keep (Bd a c) H5 H6 → DeckAt a c cells6 n6 H6 → n5 ≤ n6 → n6 ≤ n5 + 6 → (∀ v ∈ acc, Gi m v) → (acc.length : Int) = L → H6 q = none →
          ∃ rvs', (upd H6 q (.tup acc)) R = some (.lst rvs') ∧ rvs'.length < sizeLine ∧ ((∃ y6 y8 y9, [some (V.ref a), some (.int L), some (.int M), some (.int m), some (.int r2), some (.ref R), some (.int (0 + i)), none, y8', y9', none, none] = [some (V.ref a), some (.int L), some (.int M), some (.int m), some (.int r2), some (.ref R), y6, none, y8, y9, none, none]) ∧ MInv K a c R H L m (n + 2) (i + 1) (upd (upd H6 q (.tup acc)) R (.lst (rvs' ++ [.ref q])))) := by
        intro y8' y9' H6 cells6 n6 acc q k6 dk6 h1 h2 hG hL hq
        obtain ⟨rvs', e1, e2, e3⟩ := mstep hR0 nR (by omega) hn5 hn5' k5 hR5 hd5 hl5 hr5 k6 dk6 h1 h2 hG hL hq
        exact ⟨rvs', e1, e2, ⟨_, _, _, rfl⟩, e3⟩
      refine ⟨_, rfl, rfl, _, rfl, ite2 (fun hw0 => ?_) (fun hw0 => ?_)⟩
      · -- a ring
        refine ⟨.ref R, rfl, .inl ⟨rfl, _, SqL.of hR5⟩, ?_⟩
        refine ⟨_, rfl, L, rfl, (lo62 L (by omega) (by omega)).1, (lo62 L (by omega) (by omega)).2, fun D hD => ?_⟩
        have nD := deck_off dk5 hD
        refine lc_range (lo := 0) (n := L.toNat) (CInv a c D H5 (Gi m) n5 0) (cstart dk5 hD) ?_ ?_
        · rintro j H6 hj ⟨cells6, n6, acc, dk6, h1, h2, k6, hD6, hl6, hG6⟩
          refine ⟨rfl, _, rfl, _, 1, rfl, rfl, .inl ⟨_, rfl, _, rfl, _, m, rfl, rfl, by omega, ?_⟩⟩
          exact cstep hD nD (by omega) h1 h2 k6 hD6 hl6 hG6 dk6 (Int.le_refl _) (by omega) Keep.rfl' (.inr ⟨_, rfl, Int.emod_nonneg _ (by omega), Int.emod_lt_of_pos _ (by omega)⟩)
        · rintro H6 ⟨cells6, n6, acc, dk6, h1, h2, k6, hD6, hl6, hG6⟩
          refine ⟨D, acc, rfl, .inl ⟨SqL.of hD6, fun q hq => ?_⟩⟩
          obtain ⟨rvs', e1, e2, e3⟩ := stp y8 y9 H6 cells6 n6 acc q k6 dk6 h1 (by omega) hG6 (by rw [hl6]; omega) hq
          exact ⟨R, _, _, rfl, rfl, e1, e2, e3⟩
      · refine ⟨_, rfl, rfl, _, rfl, ite2 (fun hw1 => ?_) (fun hw1 => ?_)⟩
        · -- a row of states
          refine ⟨_, rfl, _, 1, rfl, rfl, _, rfl, _, m, rfl, rfl, _, rfl, ite2 (fun hlt => ?_) (fun hlt => ?_)⟩
          · have hlt := of_decide_eq_true hlt
            refine ⟨_, rfl, _, 1, rfl, rfl, _, rfl, (by show 3 ≤ sizeLine; decide), fun Fu hFu => ?_⟩
            have g0 : Gi m (.int (0 + i + 1)) := .inr ⟨_, rfl, by omega, by omega⟩
            have g1 : Gi m (.int (0 + i)) := .inr ⟨_, rfl, by omega, by omega⟩
            have dkF := deck_new (o := .lst [V.int (0 + i + 1), .int (0 + i), .non]) dk5 hFu
            have nF := deck_off dk5 hFu
            have kF : Keep (Bd a c) H5 (upd H5 Fu (.lst [V.int (0 + i + 1), .int (0 + i), .non])) := keep_new hFu
            have hRF := kF _ _ nR hR5
            have hFF : upd H5 Fu (.lst [V.int (0 + i + 1), .int (0 + i), .non]) Fu = some (.lst [V.int (0 + i + 1), .int (0 + i), .non]) := upd_same
            have gF : ∀ x ∈ [V.int (0 + i + 1), V.int (0 + i), V.non], Gi m x := fun x hx => by
              rcases List.mem_cons.mp hx with hx | hx
              · rw [hx]
                exact g0
              · rcases List.mem_cons.mp hx with hx | hx
                · rw [hx]
                  exact g1
                · rw [List.mem_singleton.mp hx]
                  exact .inl rfl
            refine ⟨.ref R, rfl, .inl ⟨rfl, _, SqL.of hRF⟩, ?_⟩
            refine ⟨_, rfl, L, rfl, (lo62 L (by omega) (by omega)).1, (lo62 L (by omega) (by omega)).2, fun D hD => ?_⟩
            have nD := deck_off dkF hD
            refine lc_range (lo := 0) (n := L.toNat) (CInv a c D (upd H5 Fu (.lst [V.int (0 + i + 1), .int (0 + i), .non])) (Gi m) n5 1) (cstart dkF hD) ?_ ?_
            · rintro j H6 hj ⟨cells6, n6, acc, dk6, h1, h2, k6, hD6, hl6, hG6⟩
              refine ⟨rfl, _, rfl, _, rfl, a, c, Fu, cells6, n6, _, rfl, dk6, by omega, by omega, SqL.of (k6 _ _ nF hFF), nF, List.cons_ne_nil _ _, (by show 3 ≤ 1000; decide), fun H7 cells7 x hx dk7 k7 => ?_⟩
              exact cstep hD nD (by omega) h1 h2 k6 hD6 hl6 hG6 dk7 (by omega) (by omega) k7 (gF x hx)
            · rintro H6 ⟨cells6, n6, acc, dk6, h1, h2, k6, hD6, hl6, hG6⟩
              refine ⟨D, acc, rfl, .inl ⟨SqL.of hD6, fun q hq => ?_⟩⟩
              obtain ⟨rvs', e1, e2, e3⟩ := stp (some (.ref Fu)) y9 H6 cells6 n6 acc q (kF.trans k6) dk6 h1 (by omega) hG6 (by rw [hl6]; omega) hq
              exact ⟨R, _, _, rfl, rfl, e1, e2, e3⟩
          · refine ⟨_, rfl, (by show 3 ≤ sizeLine; decide), fun Fu hFu => ?_⟩
            have g0 : Gi m .non := .inl rfl
            have g1 : Gi m (.int (0 + i)) := .inr ⟨_, rfl, by omega, by omega⟩
            have dkF := deck_new (o := .lst [V.non, .int (0 + i), .non]) dk5 hFu
            have nF := deck_off dk5 hFu
            have kF : Keep (Bd a c) H5 (upd H5 Fu (.lst [V.non, .int (0 + i), .non])) := keep_new hFu
            have hRF := kF _ _ nR hR5
            have hFF : upd H5 Fu (.lst [V.non, .int (0 + i), .non]) Fu = some (.lst [V.non, .int (0 + i), .non]) := upd_same
            have gF : ∀ x ∈ [V.non, V.int (0 + i), V.non], Gi m x := fun x hx => by
              rcases List.mem_cons.mp hx with hx | hx
              · rw [hx]
                exact g0
              · rcases List.mem_cons.mp hx with hx | hx
                · rw [hx]
                  exact g1
                · rw [List.mem_singleton.mp hx]
                  exact .inl rfl
            refine ⟨.ref R, rfl, .inl ⟨rfl, _, SqL.of hRF⟩, ?_⟩
            refine ⟨_, rfl, L, rfl, (lo62 L (by omega) (by omega)).1, (lo62 L (by omega) (by omega)).2, fun D hD => ?_⟩
            have nD := deck_off dkF hD
            refine lc_range (lo := 0) (n := L.toNat) (CInv a c D (upd H5 Fu (.lst [V.non, .int (0 + i), .non])) (Gi m) n5 1) (cstart dkF hD) ?_ ?_
            · rintro j H6 hj ⟨cells6, n6, acc, dk6, h1, h2, k6, hD6, hl6, hG6⟩
              refine ⟨rfl, _, rfl, _, rfl, a, c, Fu, cells6, n6, _, rfl, dk6, by omega, by omega, SqL.of (k6 _ _ nF hFF), nF, List.cons_ne_nil _ _, (by show 3 ≤ 1000; decide), fun H7 cells7 x hx dk7 k7 => ?_⟩
              exact cstep hD nD (by omega) h1 h2 k6 hD6 hl6 hG6 dk7 (by omega) (by omega) k7 (gF x hx)
            · rintro H6 ⟨cells6, n6, acc, dk6, h1, h2, k6, hD6, hl6, hG6⟩
              refine ⟨D, acc, rfl, .inl ⟨SqL.of hD6, fun q hq => ?_⟩⟩
              obtain ⟨rvs', e1, e2, e3⟩ := stp (some (.ref Fu)) y9 H6 cells6 n6 acc q (kF.trans k6) dk6 h1 (by omega) hG6 (by rw [hl6]; omega) hq
              exact ⟨R, _, _, rfl, rfl, e1, e2, e3⟩
        · -- drawn items
          refine ⟨_, rfl, L, rfl, (lo62 L (by omega) (by omega)).1, (lo62 L (by omega) (by omega)).2, fun D hD => ?_⟩
          have nD := deck_off dk5 hD
          refine lc_range (lo := 0) (n := L.toNat) (CInv a c D H5 (Gi m) n5 1) (cstart dk5 hD) ?_ ?_
          · rintro j H6 hj ⟨cells6, n6, acc, dk6, h1, h2, k6, hD6, hl6, hG6⟩
            refine ⟨rfl, _, rfl, _, rfl, a, c, cells6, n6, m, rfl, dk6, hm1, by omega, by omega, by omega, fun H7 cells7 r r0 rm dk7 k7 => ?_⟩
            exact cstep hD nD (by omega) h1 h2 k6 hD6 hl6 hG6 dk7 (by omega) (by omega) k7 (.inr ⟨r, rfl, r0, rm⟩)
          · rintro H6 ⟨cells6, n6, acc, dk6, h1, h2, k6, hD6, hl6, hG6⟩
            have hR6 := k6 _ _ nR hR5
            refine ⟨.ref R, rfl, .inl ⟨rfl, _, SqL.of hR6⟩, ?_⟩
            refine ⟨_, rfl, D, rfl, ⟨_, SqL.of hD6⟩, fun D2 hD2 => ?_⟩
            have nD2 := deck_off dk6 hD2
            refine lc_list (K := K) (a := D) (xs := acc) (CInv a c D2 H6 (Gi m) n6 1) (cstart dk6 hD2) (fun j H7 _ p => ?_) ?_ ?_
            · obtain ⟨_, _, _, _, _, _, k7, _⟩ := p
              exact SqL.of (k7 _ _ nD hD6)
            · rintro j y H7 hy ⟨cells7, n7, acc7, dk7, h3, h4, k7, hD7, hl7, hG7⟩
              have hj := (List.getElem?_eq_some_iff.mp hy).1
              refine ⟨rfl, _, rfl, _, rfl, 3, r2, rfl, rfl, a, c, cells7, n7, 3 + r2, rfl, dk7, by omega, by omega, by omega, by omega, fun H8 cells8 r r0 rm dk8 k8 => ?_⟩
              refine ⟨rfl, _, rfl, ite2 (fun _ => ?_) (fun _ => ?_)⟩
              · exact cstep hD2 nD2 (by omega) h3 h4 k7 hD7 hl7 hG7 dk8 (by omega) (by omega) k8 (.inl rfl)
              · exact ⟨y, rfl, cstep hD2 nD2 (by omega) h3 h4 k7 hD7 hl7 hG7 dk8 (by omega) (by omega) k8 (hG6 y (List.mem_of_getElem? hy))⟩
            · rintro H7 ⟨cells7, n7, acc7, dk7, h3, h4, k7, hD7, hl7, hG7⟩
              refine ⟨D2, acc7, rfl, .inl ⟨SqL.of hD7, fun q hq => ?_⟩⟩
              obtain ⟨rvs', e1, e2, e3⟩ := stp y8 (some (.ref D)) H7 cells7 n7 acc7 q (k6.trans k7) dk7 (by omega) (by omega) hG7 (by rw [hl7, hl6]; omega) hq
              exact ⟨R, _, _, rfl, rfl, e1, e2, e3⟩
    · rintro σ H5 ⟨⟨y6, y8, y9, rfl⟩, cells5, n5, rvs, rds, dk5, hn5, hn5', k5, hR5, hd5, hl5, hr5⟩
      have hml : (rds.length : Int) = m := by omega
      refine ⟨_, rfl, (by show 4 ≤ sizeLine; decide), fun O4 hO4 => ?_⟩
      have dkO := deck_new (o := .lst [.int 2, .int 2, .int 3, .int 5]) dk5 hO4
      have kO : Keep (Bd a c) H5 (upd H5 O4 (.lst [.int 2, .int 2, .int 3, .int 5])) := keep_new hO4
      refine ⟨a, c, O4, cells5, n5, _, rfl, dkO, by omega, by omega, SqL.of upd_same, deck_off dk5 hO4, List.cons_ne_nil _ _, (by show 4 ≤ 1000; decide), fun H6 cells6 x hx dk6 k6 => ?_⟩
      obtain ⟨o, rfl, ho1, ho5⟩ : ∃ o : Int, x = .int o ∧ 1 ≤ o ∧ o ≤ 5 := by
        simp only [List.mem_cons, List.not_mem_nil, or_false] at hx
        rcases hx with hx | hx | hx | hx <;> exact ⟨_, hx, by decide, by decide⟩
      have k56 := kO.trans k6
      have hR6 := k56 _ _ nR hR5
      refine ⟨_, rfl, _, rfl, R, rvs, rfl, .inl ⟨SqL.of hR6, fun pr hpr => ?_⟩⟩
      have dk7 := deck_new (o := .tup rvs) dk6 hpr
      have k67 : Keep (Bd a c) H6 (upd H6 pr (.tup rvs)) := keep_new hpr
      have hpr7 : upd H6 pr (.tup rvs) pr = some (.tup rvs) := upd_same
      refine ⟨_, rfl, m, rfl, (lo62 m (by omega) (by omega)).1, (lo62 m (by omega) (by omega)).2, fun D hD => ?_⟩
      have nD := deck_off dk7 hD
      refine lc_range (lo := 0) (n := m.toNat) (CInv a c D (upd H6 pr (.tup rvs)) Gb (n5 + 1) 1) (cstart dk7 hD) ?_ ?_
      · rintro j H8 hj ⟨cells8, n8, acc8, dk8, h1, h2, k8, hD8, hl8, hG8⟩
        refine ⟨rfl, _, rfl, _, rfl, a, c, cells8, n8, o, rfl, dk8, ho1, by omega, by omega, by omega, fun H9 cells9 r r0 rm dk9 k9 => ⟨rfl, ?_⟩⟩
        exact cstep hD nD (by omega) h1 h2 k8 hD8 hl8 hG8 dk9 (by omega) (by omega) k9 ⟨_, rfl⟩
      · rintro H8 ⟨cells8, n8, acc8, dk8, h1, h2, k8, hD8, hl8, hG8⟩
        refine ⟨D, acc8, rfl, .inl ⟨SqL.of hD8, fun pe hpe => ?_⟩⟩
        refine ⟨(by show 3 ≤ sizeLine; decide), fun p hp => ?_⟩
        obtain ⟨eds, ge1, ge2, ge3⟩ := gb_dt hG8
        have dk9 := deck_new (o := .tup acc8) dk8 hpe
        have k89 : Keep (Bd a c) H8 (upd H8 pe (.tup acc8)) := keep_new hpe
        have hpe9 : upd H8 pe (.tup acc8) pe = some (.tup acc8) := upd_same
        have dk10 := deck_new (o := .tup [.int L, .ref pr, .ref pe]) dk9 hp
        have k910 : Keep (Bd a c) (upd H8 pe (.tup acc8)) (upd (upd H8 pe (.tup acc8)) p (.tup [.int L, .ref pr, .ref pe])) := keep_new hp
        have hp10 : upd (upd H8 pe (.tup acc8)) p (.tup [.int L, .ref pr, .ref pe]) p = some (.tup [.int L, .ref pr, .ref pe]) := upd_same
        have k710 := k8.trans (k89.trans k910)
        have k510 := k56.trans (k67.trans k710)
        have npr := deck_off dk6 hpr
        have npe := deck_off dk8 hpe
        refine k _ cells8 n8 _ rds eds dk10 (by omega) (by omega) (k5.trans k510) ⟨.tup (deck_off dk9 hp) (.inl hp10) (.cons (.int L) (.cons (.tup npr (.inl (k710 _ _ npr hpr7)) ?_) (.cons (.tup npe (.inl (k910 _ _ npe hpe9)) (ge1 _ _ _)) .nil))), by omega, by omega, by omega, fun r hr2 => ?_, ge3⟩
        · exact DtAll.keep k510 _ _ (DtAll.weak (fun b hb => .inl hb) _ _ hd5)
        · rw [hml]
          exact hr5 r hr2
end
end Ver
namespace Ver
open PySem PySem.Spec PyProof.Rows L2
section
variable {X : Cx}
/-- []: new, and no table of modules -/
def tNilN : TE := fun _ H Q => ∀ p, H p = none → p ≠ sysModules → Q (.ref p) (upd H p (.lst []))
theorem pe_nilN {pos : Pos} : PE X (.List [] pos) tNilN := by
  refine ⟨fun pins s σ H Q I h => ?_⟩
  refine wpAny_List_spliced (thn (pa_nil.run pos pins s σ H (fun xs H1 => xs = [] ∧ H1 = H) I ⟨rfl, rfl⟩) ?_)
  rintro us s1 ⟨xs, H1, I1, r, rfl, rfl⟩
  cases r
  exact ⟨Nat.zero_le _, .ref s1.heap.objs.size, _, I1.laid (o := .lst []) (t' := s1.toks) (fun b u e => Heap.get?_push_of_some _ e) (Nat.le_refl _) ⟨Nat.zero_le _, [], 0, .nil, Heap.get?_push_size _ rfl⟩, rfl, h _ (I1.hok.fresh (Nat.le_refl _)) (Nat.ne_of_gt I1.big)⟩
/-- list(t): new, and no table of modules -/
def rListN (K : PySem.W.Frag) : List V → Hp → VK → Prop := fun xs H Q => ∃ p ys, xs = [.ref p] ∧ SqT K H p ys ∧ ∀ l, H l = none → l ≠ sysModules → Q (.ref l) (upd H l (.lst ys))
theorem call_listN : CallR X (.type "list") (rListN X.K) := by
  intro pins s σ H xs us Q I r h
  obtain ⟨p, ys, rfl, hq, q⟩ := h
  obtain ⟨u, rfl, rx⟩ := vals1 r
  cases rx
  obtain ⟨its, rv, pl, hz⟩ := I.tuple hq
  have hlen := rv.length
  obtain ⟨o, ho, hc, n, hd⟩ := id pl
  refine call_list_seq p (.inr rfl) ho hc hd (fun h' c' kp e => ?_) (by simp only [List.size_toArray]; omega)
  exact ⟨.ref s.heap.objs.size, _, I.laid (t' := s.toks) kp (Nat.le_refl _) (show ObjOk X.prog X.w _ h' _ (.lst ys) from ⟨hz, its, c', rv, e⟩), rfl, q _ (I.hok.fresh (Nat.le_refl _)) (Nat.ne_of_gt I.big)⟩
/-- t[lo:hi], some tuple of the cut: t or a new one -/
def rSlS (K : PySem.W.Frag) : V → Option Int → Option Int → Hp → VK → Prop := fun x lo hi H Q => ∃ a xs, x = .ref a ∧ Rd H a (.tup xs) ∧ ∀ q H', Same H H' → Rd H' q (.tup (cutV xs lo hi)) → (q = a ∨ H q = none) → Q (.ref q) H'
theorem sl_tupS : SlR X (rSlS X.K) := by
  intro pins s σ H x v vl vu lo hi sl Q I rx hs pl pu h
  obtain ⟨a, xs, rfl, hx, q⟩ := h
  refine sl_tupA pins s σ H _ v vl vu lo hi sl Q I rx hs pl pu ⟨a, xs, rfl, .inl hx, fun hw => ?_, fun hw p hp => ?_⟩
  · refine q a H (Same.refl H) ?_ (.inl rfl)
    have e : cutV xs lo hi = xs := by
      unfold cutV
      rw [hw.1, hw.2, List.drop_zero, Nat.sub_zero, List.take_length]
    rw [e]
    exact hx
  · exact q p _ (same_new hp) (.inl upd_same) (.inr hp)
/-- t + u, some tuple of both -/
def rCatS (K : PySem.W.Frag) : R2 := fun x y H Q => ∃ a b xs ys, x = .ref a ∧ y = .ref b ∧ Rd H a (.tup xs) ∧ Rd H b (.tup ys) ∧ xs.length + ys.length ≤ sizeLine ∧ ∀ q H', Same H H' → Rd H' q (.tup (xs ++ ys)) → (q = a ∨ q = b ∨ H q = none) → Q (.ref q) H'
theorem op_catS : OpR X (binaryOp .Add) (rCatS X.K) := by
  intro pins s σ H x y v u Q I rx ry h
  obtain ⟨a, b, xs, ys, rfl, rfl, hx, hy, hz, q⟩ := h
  refine op_catA pins s σ H _ _ v u Q I rx ry ⟨a, b, xs, ys, rfl, rfl, .inl hx, .inl hy, hz, fun e => ?_, fun _ e => ?_, fun _ _ p hp => ?_⟩
  · subst e
    exact q b H (Same.refl H) hy (.inr (.inl rfl))
  · subst e
    refine q a H (Same.refl H) ?_ (.inl rfl)
    rw [List.append_nil]
    exact hx
  · exact q p _ (same_new hp) (.inl upd_same) (.inr (.inr hp))
end
theorem cut_take (xs : List V) (j : Nat) (h : j ≤ xs.length) : cutV xs none (some (j : Int)) = xs.take j := by
  unfold cutV
  rw [HT.sIx_none, HT.sIx_nat, List.drop_zero, Nat.sub_zero, Nat.min_eq_left h]
theorem cut_drop (xs : List V) (j : Nat) (h : j ≤ xs.length) : cutV xs (some (j : Int)) none = xs.drop j := by
  unfold cutV
  rw [HT.sIx_none, HT.sIx_nat, Nat.min_eq_left h]
  exact List.take_of_length_le (by rw [List.length_drop]; omega)
theorem cut_mid (xs : List V) (j : Nat) (h : j < xs.length) : cutV xs (some (j : Int)) (some ((j + 1 : Nat) : Int)) = (xs.drop j).take 1 := by
  unfold cutV
  rw [HT.sIx_nat, HT.sIx_nat, Nat.min_eq_left (by omega), Nat.min_eq_left (by omega)]
  congr 1
  omega
/-! ### small data -/
mutual
def sm : PyData → Bool
  | .none => true
  | .bool _ => true
  | .int i => decide (i.natAbs ≤ 10 ^ 30)
  | .str x => decide ((reprText x).length ≤ 20)
  | .list xs => smAll xs
  | .tuple xs => smAll xs
  | .dict kvs => kvs.isEmpty
def smAll : List PyData → Bool
  | [] => true
  | x :: xs => sm x && smAll xs
end
theorem smAll_iff : ∀ xs : List PyData, smAll xs = true ↔ ∀ x ∈ xs, sm x = true
  | [] => by simp [smAll]
  | x :: xs => by
    rw [smAll, Bool.and_eq_true, smAll_iff xs]
    simp
theorem sm_tup (xs : List PyData) : sm (.tuple xs) = true ↔ ∀ x ∈ xs, sm x = true := by rw [sm]; exact smAll_iff xs
theorem sm_lst (xs : List PyData) : sm (.list xs) = true ↔ ∀ x ∈ xs, sm x = true := by rw [sm]; exact smAll_iff xs
theorem depthAll_le : ∀ {xs : List PyData} {n : Nat}, PyData.depthAll xs ≤ n ↔ ∀ x ∈ xs, x.depth ≤ n
  | [], n => by simp [PyData.depthAll]
  | x :: xs, n => by
    rw [PyData.depthAll, Nat.max_le, depthAll_le (xs := xs)]
    simp
theorem depth_tup (xs : List PyData) : (PyData.tuple xs).depth = PyData.depthAll xs + 1 := by rw [PyData.depth]
theorem depth_lst (xs : List PyData) : (PyData.list xs).depth = PyData.depthAll xs + 1 := by rw [PyData.depth]
mutual
theorem sm_show : ∀ d : PyData, sm d = true → d.showable = true
  | .none, _ => by simp [PyData.showable]
  | .bool _, _ => by simp [PyData.showable]
  | .int i, h => by
    rw [sm, decide_eq_true_eq] at h
    rw [PyData.showable, decide_eq_true_eq]
    have h2 : i.natAbs < 2 ^ 100 := Nat.lt_of_le_of_lt h (by decide)
    by_cases z : i.natAbs = 0
    · rw [z]
      decide
    · exact Nat.lt_trans ((Nat.log2_lt z).mpr h2) (by decide)
  | .str _, _ => by simp [PyData.showable]
  | .list xs, h => by
    rw [PyData.showable]
    exact smAll_show xs (by rw [sm] at h; exact h)
  | .tuple xs, h => by
    rw [PyData.showable]
    exact smAll_show xs (by rw [sm] at h; exact h)
  | .dict kvs, h => by
    rw [sm] at h
    rw [List.isEmpty_iff.mp h]
    simp [PyData.showable, PyData.showableKv]
theorem smAll_show : ∀ xs : List PyData, smAll xs = true → PyData.showableAll xs = true
  | [], _ => by simp [PyData.showableAll]
  | x :: xs, h => by
    rw [smAll, Bool.and_eq_true] at h
    rw [PyData.showableAll, sm_show x h.1, smAll_show xs h.2]
    rfl
end
end Ver
namespace Ver
open PySem PySem.Spec PyProof.Rows L2
mutual
theorem sm_len : ∀ d : PyData, sm d = true → d.shown.length + 5 ≤ 60 * nodes d
  | .none, _ => by
    rw [PyData.shown, nodes]
    decide +kernel
  | .bool b, _ => by
    rw [PyData.shown, nodes]
    cases b <;> decide +kernel
  | .int i, h => by
    rw [sm, decide_eq_true_eq] at h
    rw [PyData.shown, nodes, PySem.ofString_length]
    have := int_text_length_le10 (a := i) (k := 31) (by decide) (Nat.lt_of_le_of_lt h (by decide))
    omega
  | .str x, h => by
    rw [sm, decide_eq_true_eq] at h
    rw [PyData.shown, nodes]
    omega
  | .list xs, h => by
    rw [PyData.shown, nodes]
    have h1 := smAll_len xs (by rw [sm] at h; exact h)
    have h2 := listText_len_le (PyData.shownAll xs)
    omega
  | .tuple xs, h => by
    rw [PyData.shown, nodes]
    have h1 := smAll_len xs (by rw [sm] at h; exact h)
    have h2 := tupleText_len_le (PyData.shownAll xs)
    omega
  | .dict kvs, h => by
    rw [sm] at h
    rw [List.isEmpty_iff.mp h, PyData.shown, PyData.shownKv, nodes]
    have h2 := dictText_len_le []
    simp only [List.map_nil, List.sum_nil, List.length_nil] at h2
    omega
theorem smAll_len : ∀ xs : List PyData, smAll xs = true → ((PyData.shownAll xs).map (·.length)).sum + 2 * (PyData.shownAll xs).length ≤ 60 * nodesAll xs
  | [], _ => by
    rw [PyData.shownAll, nodesAll]
    decide
  | x :: xs, h => by
    rw [smAll, Bool.and_eq_true] at h
    have h1 := sm_len x h.1
    have h2 := smAll_len xs h.2
    rw [PyData.shownAll, nodesAll, List.map_cons, List.sum_cons, List.length_cons]
    omega
end
theorem sm_fits {d : PyData} (h : sm d = true) (hn : nodes d ≤ 100000) : d.shown.length ≤ sizeLine := by
  have := sm_len d h
  exact Nat.le_trans (show d.shown.length ≤ 6000000 by omega) (by decide)
end Ver
namespace Ver
open PySem PySem.Spec PyProof.Rows L2
/-- the odd values, as data -/
def ods : List PyData := [.none, .bool true, .bool false, .int 0, .int (-1), .int 1, .int 2, .int 7, .int 400, .int (10 ^ 30), .str "", .str "a", .tuple [], .list [], .dict [], .tuple [.int 0], .tuple [.none], .tuple [.bool true], .tuple [.tuple [.int 0]]]
theorem ods_ok : ∀ d ∈ ods, sm d = true ∧ nodes d ≤ 3 ∧ d.depth ≤ 2 := by decide +kernel
/-- all of B is tracked -/
def TB (B : Addr → Prop) (H : Hp) : Prop := ∀ b, B b → H b ≠ none
theorem tb_off {B : Addr → Prop} {H : Hp} {p : Addr} (tb : TB B H) (n : H p = none) : ¬ B p := fun z => tb p z n
theorem tb_upd {B : Addr → Prop} {H : Hp} {p : Addr} {o : HO} (tb : TB B H) : TB B (upd H p o) := fun b z e => by
  by_cases h : b = p
  · rw [h, upd_same] at e
    cases e
  · rw [upd_ne h] at e
    exact tb b z e
theorem tb_same {B : Addr → Prop} {H H' : Hp} (s : Same H H') (tb : TB B H) : TB B H' := fun b z e => by
  cases q : H b with
  | none => exact tb b z q
  | some o =>
    rw [s b o q] at e
    cases e
theorem tb_keep {B : Addr → Prop} {H H' : Hp} {a c : Addr} {cells : List Int} {n : Int} (tb : TB B H) (dk : DeckAt a c cells n H') (k : Keep (Bd a c) H H') : TB B H' := fun b z e => by
  by_cases h : Bd a c b
  · exact deck_off dk e h
  · cases q : H b with
    | none => exact tb b z q
    | some o =>
      rw [k b o h q] at e
      cases e
theorem new_tup {B : Addr → Prop} {p : Addr} {K : PySem.W.Frag} {H : Hp} {xs : List V} {ds : List PyData} (tb : TB B H) (h : H p = none) (ha : DtAll B K (upd H p (.tup xs)) xs ds) : Dt B K (upd H p (.tup xs)) (.ref p) (.tuple ds) :=
  .tup (tb_off tb h) (.inl upd_same) ha
theorem same_rd {H H' : Hp} {a : Addr} {o : HO} (s : Same H H') (h : Rd H a o) : Rd H' a o := Keep.rd (B := fun _ => False) (Keep.same s) (fun z => z) h
theorem deck_same {a c : Addr} {cells : List Int} {n : Int} {H H' : Hp} (s : Same H H') (h : DeckAt a c cells n H) : DeckAt a c cells n H' := ⟨h.1, s _ _ h.2.1, s _ _ h.2.2.1, h.2.2.2.1, h.2.2.2.2⟩
theorem sz_of {n : Nat} (h : n ≤ 100000) : n ≤ sizeLine := Nat.le_trans h (by decide)
theorem nb_of {B : Addr → Prop} {p q : Addr} {H : Hp} (tb : TB B H) (np : ¬ B p) (h : q = p ∨ H q = none) : ¬ B q := by
  rcases h with h | h
  · rw [h]
    exact np
  · exact tb_off tb h
theorem nb_of2 {B : Addr → Prop} {p r q : Addr} {H : Hp} (tb : TB B H) (np : ¬ B p) (nr : ¬ B r) (h : q = p ∨ q = r ∨ H q = none) : ¬ B q := by
  rcases h with h | h | h
  · rw [h]
    exact np
  · rw [h]
    exact nr
  · exact tb_off tb h
theorem same_seqL {K : PySem.W.Frag} {H H' : Hp} {a : Addr} {xs : List V} (s : Same H H') (h : SqL K H a xs) : SqL K H' a xs := L2.Same.seq s h
theorem sub_ok {ds es : List PyData} (h : sm (.tuple ds) = true) (hs : ∀ x ∈ es, x ∈ ds) : sm (.tuple es) = true ∧ (PyData.tuple es).depth ≤ (PyData.tuple ds).depth + 2 ∧ sm (.list es) = true ∧ (PyData.list es).depth ≤ (PyData.tuple ds).depth + 2 := by
  have h1 := (sm_tup ds).mp h
  have h2 : ∀ x ∈ ds, x.depth ≤ PyData.depthAll ds := depthAll_le.mp (Nat.le_refl _)
  have h3 : PyData.depthAll es ≤ PyData.depthAll ds := depthAll_le.mpr fun x hx => h2 x (hs x hx)
  refine ⟨(sm_tup es).mpr fun x hx => h1 x (hs x hx), ?_, (sm_lst es).mpr fun x hx => h1 x (hs x hx), ?_⟩
  · rw [depth_tup, depth_tup]
    omega
  · rw [depth_lst, depth_tup]
    omega
theorem same_all {B : Addr → Prop} {K : PySem.W.Frag} {H H' : Hp} {vs : List V} {ds : List PyData} (s : Same H H') (h : DtAll B K H vs ds) : DtAll B K H' vs ds := DtAll.keep (Keep.same s) _ _ h
section
variable {P : Program} {w : World} {K : PySem.W.Frag} {mg : Str → Option Value} {base : Heap}
theorem scBent : FnScope ["_law_deck_here", "_law_value", "_law_deep", "_law_odd", "_law_at", "_law_way"] ["_law_deck_here", "_law_value", "_law_deep"] (defScope sBent) := ⟨rfl, rfl, rfl, by decide +kernel, rfl, by decide +kernel, by decide +kernel⟩
/-- the value bent, t deep at most -/
def spBent (K : PySem.W.Frag) (t : Nat) : Sp := fun vs H Q _ => ∃ (B : Addr → Prop) (a c : Addr) (cells : List Int) (n : Int) (v : V) (d : PyData), vs = [.ref a, v, .int t] ∧ (∀ b, Bd a c b → B b) ∧ TB B H ∧ DeckAt a c cells n H ∧ 0 ≤ n ∧ n + 4 * t ≤ 900000 ∧ t ≤ 1000 ∧ Dt B K H v d ∧ sm d = true ∧ nodes d ≤ 2000 ∧
  ∀ (H' : Hp) (cells' : List Int) (n' : Int) (v' : V) (d' : PyData), DeckAt a c cells' n' H' → n ≤ n' → n' ≤ n + (4 * t + 4) → Keep (Bd a c) H H' → Dt B K H' v' d' → sm d' = true → nodes d' ≤ 2 * nodes d + 3 → d'.depth ≤ d.depth + 2 → Q v' H'
theorem no_fn {k : Nat} {f : Addr} {fd : FuncData} {ps : List Str} : FnOk P w K mg base CX0 k f fd ps (fun _ _ _ _ => False) := ⟨fun _ _ _ _ h => h.elim, fun _ _ _ _ _ _ _ _ _ _ _ _ _ h => h.elim⟩
theorem bent_body {f fD fO : Addr} {fd fdD fdO : FuncData} {t kk : Nat} {sp : Sp} (F : Fun K "_law_bent" "_law_bent" sBent f fd) (gB : mg "_law_bent" = some (.ref f)) (bB : Binds K fd ["_law_deck_here", "_law_value", "_law_deep"] []) (hk : 2 ≤ kk) (REC : FnOk P w K mg base CX0 kk f fd ["_law_deck_here", "_law_value", "_law_deep"] sp) (hrec : ∀ t', t = t' + 1 → sp = spBent K t')
    (D : FnOk P w K mg base CX0 1 fD fdD ["_law_deck_here", "_law_many"] spDraw) (FD : Fun K "_law_draw" "_law_draw" sDraw fD fdD) (bD : Binds K fdD ["_law_deck_here", "_law_many"] []) (gD : mg "_law_draw" = some (.ref fD))
    (O : FnOk P w K mg base CX0 2 fO fdO ["_law_deck_here", "_law_items"] (spOne K)) (FO : Fun K "_law_one" "_law_one" sOne fO fdO) (bO : Binds K fdO ["_law_deck_here", "_law_items"] []) (gO : mg "_law_one" = some (.ref fO)) (T : Mg mg) :
    FnOk P w K mg base CX0 (kk + 1) f fd ["_law_deck_here", "_law_value", "_law_deep"] (spBent K t) := by
  refine F.ok scBent (fun vs H Q E h => ?_) (fun cdv A outer s H vs Q E hr h => ?_)
  · obtain ⟨B, a, c, cells, n, v, d, rfl, _⟩ := h
    rfl
  · obtain ⟨B, a, c, cells, n, v, d, rfl, hB, tb, dk, n0, n1, t1, hd, hsm, hnd, k⟩ := h
    have W : ∀ {H1 H2 : Hp}, Keep (Bd a c) H1 H2 → Keep B H1 H2 := fun k => Keep.wide hB k
    have hu0 := hr.units0
    refine ⟨_, pss_cons (ps_set (i := 3) scBent.nd rfl (.inl rfl) (pe_lst (pa_cons pe_non (pa_cons pe_bl (pa_cons pe_bl (pa_cons pe_int (pa_cons (pe_un un_neg pe_int) (pa_cons pe_int (pa_cons pe_int (pa_cons pe_int (pa_cons pe_int (pa_cons (pe_op op_pow pe_int pe_int) (pa_cons pe_str (pa_cons pe_str (pa_cons (pe_tup pa_nil) (pa_cons pe_nilN (pa_cons pe_dnewK (pa_cons (pe_tup (pa_cons pe_int pa_nil)) (pa_cons (pe_tup (pa_cons pe_non pa_nil)) (pa_cons (pe_tup (pa_cons pe_bl pa_nil)) (pa_cons (pe_tup (pa_cons (pe_tup (pa_cons pe_int pa_nil)) pa_nil)) pa_nil)))))))))))))))))))))
      (pss_cons (ps_if (PW.pt (pw_or (pt_cmpR op_eq (pv 2) pe_int (nomark _)) (pw_or (pt_not (pt_val (pe_callB (r := rIsi K) call_isi (by rfl) T.isi PyProof.Rows.boot_isinstance (pa_cons (pv 1) (pa_cons (pe_bltn (v := .ty "tuple") (by rfl) T.tuple PyProof.Rows.boot_tuple rfl) pa_nil))))) (pw_or (pt_cmpR (op_eqNilT hu0) (pv 1) (pe_tup pa_nil) (nomark _)) (pw_or1 (pt_cmpR op_eq (pe_call D (hr.mono (by omega)) (by rfl) gD FD.kp bD .nil pass0 (pa_cons (pv 0) (pa_cons pe_int pa_nil))) pe_int (nomark _)))))))
        (pss_one (ps_ret (pe_call O (hr.mono hk) (by rfl) gO FO.kp bO .nil pass0 (pa_cons (pv 0) (pa_cons (pv 3) pa_nil))))) pss_nil)
      (pss_cons (ps_par (i := 4) (j := 5) rfl scBent.nd rfl rfl (by decide) rfl rfl (pa_cons (pe_call D (hr.mono (by omega)) (by rfl) gD FD.kp bD .nil pass0 (pa_cons (pv 0) (pa_cons (pe_callB call_len_seq (by rfl) T.len PySem.boot_len (pa_cons (pv 1) pa_nil)) pa_nil))) (pa_cons (pe_call D (hr.mono (by omega)) (by rfl) gD FD.kp bD .nil pass0 (pa_cons (pv 0) (pa_cons pe_int pa_nil))) pa_nil)) (by rfl))
      (pss_cons (ps_if (pt_cmpR op_eq (pv 5) pe_int (nomark _)) (pss_one (ps_ret (pe_op op_catS (pe_slice sl_tupS (pv 1) po_none (po_some (pv 4))) (pe_slice sl_tupS (pv 1) (po_some (pe_op op_add (pv 4) pe_int)) po_none)))) pss_nil)
      (pss_cons (ps_if (pt_cmpR op_eq (pv 5) pe_int (nomark _)) (pss_one (ps_ret (pe_op op_catS (pe_op op_catS (pe_slice sl_tupS (pv 1) po_none (po_some (pv 4))) (pe_slice sl_tupS (pv 1) (po_some (pv 4)) (po_some (pe_op op_add (pv 4) pe_int)))) (pe_slice sl_tupS (pv 1) (po_some (pv 4)) po_none)))) pss_nil)
      (pss_cons (ps_if (pt_cmpR op_eq (pv 5) pe_int (nomark _)) (pss_one (ps_ret (pe_callTy call_listN (by rfl) T.list (by decide +kernel) (pa_cons (pv 1) pa_nil)))) pss_nil)
      (pss_one (ps_ret (pe_op op_catS (pe_op op_catS (pe_slice sl_tupS (pv 1) po_none (po_some (pv 4))) (pe_tup (pa_cons (pe_call REC hr (by rfl) gB F.kp bB .nil pass0 (pa_cons (pv 0) (pa_cons (pe_ix ix_tup (pv 1) (pv 4) (fun _ _ => rfl)) (pa_cons (pe_op op_sub (pv 2) pe_int) pa_nil)))) pa_nil))) (pe_slice sl_tupS (pv 1) (po_some (pe_op op_add (pv 4) pe_int)) po_none))))))))), ?_⟩
    refine ⟨1, rfl, 10, 30, rfl, rfl, ⟨by decide, by decide, by decide⟩, Nat.zero_le _, fun t1 h1 => ?_⟩
    have dk1 := deck_new (o := .tup []) dk h1
    have k1 := keep_new (B := Bd a c) (o := .tup []) h1
    have tb1 := tb_upd (p := t1) (o := .tup []) tb
    have D1 := new_tup (K := K) tb h1 .nil
    refine fun l1 h2 ne => ?_
    have dk2 := deck_new (o := .lst []) dk1 h2
    have k2 := keep_new (B := Bd a c) (o := .lst []) h2
    have tb2 := tb_upd (p := l1) (o := .lst []) tb1
    have D2 : Dt B K _ (.ref l1) (.list []) := .lst (tb_off tb1 h2) ne (.inl (upd_same (H := upd H t1 (.tup [])) (a := l1) (o := .lst []))) .nil
    refine fun d1 h3 => ?_
    have dk3 := deck_new (o := .dK []) dk2 h3
    have k3 := keep_new (B := Bd a c) (o := .dK []) h3
    have tb3 := tb_upd (p := d1) (o := .dK []) tb2
    have D3 : Dt B K _ (.ref d1) (.dict []) := .emp (tb_off tb2 h3) (upd_same (H := upd (upd H t1 (.tup [])) l1 (.lst [])) (a := d1) (o := .dK []))
    refine ⟨(by show 1 ≤ sizeLine; decide), fun t2 h4 => ?_⟩
    have dk4 := deck_new (o := .tup [.int 0]) dk3 h4
    have k4 := keep_new (B := Bd a c) (o := .tup [.int 0]) h4
    have tb4 := tb_upd (p := t2) (o := .tup [.int 0]) tb3
    have D4 := new_tup (K := K) tb3 h4 (.cons (.int 0) .nil)
    refine ⟨(by show 1 ≤ sizeLine; decide), fun t3 h5 => ?_⟩
    have dk5 := deck_new (o := .tup [.non]) dk4 h5
    have k5 := keep_new (B := Bd a c) (o := .tup [.non]) h5
    have tb5 := tb_upd (p := t3) (o := .tup [.non]) tb4
    have D5 := new_tup (K := K) tb4 h5 (.cons .non .nil)
    refine ⟨(by show 1 ≤ sizeLine; decide), fun t4 h6 => ?_⟩
    have dk6 := deck_new (o := .tup [.bl true]) dk5 h6
    have k6 := keep_new (B := Bd a c) (o := .tup [.bl true]) h6
    have tb6 := tb_upd (p := t4) (o := .tup [.bl true]) tb5
    have D6 := new_tup (K := K) tb5 h6 (.cons (.bl true) .nil)
    refine ⟨(by show 1 ≤ sizeLine; decide), fun t5 h7 => ?_⟩
    have dk7 := deck_new (o := .tup [.int 0]) dk6 h7
    have k7 := keep_new (B := Bd a c) (o := .tup [.int 0]) h7
    have tb7 := tb_upd (p := t5) (o := .tup [.int 0]) tb6
    have D7 := new_tup (K := K) tb6 h7 (.cons (.int 0) .nil)
    refine ⟨(by show 1 ≤ sizeLine; decide), fun t6 h8 => ?_⟩
    have dk8 := deck_new (o := .tup [.ref t5]) dk7 h8
    have k8 := keep_new (B := Bd a c) (o := .tup [.ref t5]) h8
    have tb8 := tb_upd (p := t6) (o := .tup [.ref t5]) tb7
    have D8 := new_tup (K := K) tb7 h8 (.cons (Dt.keep (W k8) _ _ D7) .nil)
    refine ⟨(by show 19 ≤ sizeLine; decide), fun O9 h9 => ?_⟩
    have nO := deck_off dk8 h9
    have dk9 := deck_new (o := .lst [.non, .bl true, .bl false, .int 0, .int (-1), .int 1, .int 2, .int 7, .int 400, .int (10 ^ 30), .str "", .str "a", .ref t1, .ref l1, .ref d1, .ref t2, .ref t3, .ref t4, .ref t6]) dk8 h9
    have k9 := keep_new (B := Bd a c) (o := .lst [.non, .bl true, .bl false, .int 0, .int (-1), .int 1, .int 2, .int 7, .int 400, .int (10 ^ 30), .str "", .str "a", .ref t1, .ref l1, .ref d1, .ref t2, .ref t3, .ref t4, .ref t6]) h9
    have hO9 : upd (upd (upd (upd (upd (upd (upd (upd (upd H t1 (.tup [])) l1 (.lst [])) d1 (.dK [])) t2 (.tup [.int 0])) t3 (.tup [.non])) t4 (.tup [.bl true])) t5 (.tup [.int 0])) t6 (.tup [.ref t5])) O9 (.lst [.non, .bl true, .bl false, .int 0, .int (-1), .int 1, .int 2, .int 7, .int 400, .int (10 ^ 30), .str "", .str "a", .ref t1, .ref l1, .ref d1, .ref t2, .ref t3, .ref t4, .ref t6]) O9 = some (.lst [.non, .bl true, .bl false, .int 0, .int (-1), .int 1, .int 2, .int 7, .int 400, .int (10 ^ 30), .str "", .str "a", .ref t1, .ref l1, .ref d1, .ref t2, .ref t3, .ref t4, .ref t6]) := upd_same
    have tb9 := tb_upd (p := O9) (o := .lst [.non, .bl true, .bl false, .int 0, .int (-1), .int 1, .int 2, .int 7, .int 400, .int (10 ^ 30), .str "", .str "a", .ref t1, .ref l1, .ref d1, .ref t2, .ref t3, .ref t4, .ref t6]) tb8
    have c8 := k9
    have c7 := k8.trans c8
    have c6 := k7.trans c7
    have c5 := k6.trans c6
    have c4 := k5.trans c5
    have c3 := k4.trans c4
    have c2 := k3.trans c3
    have c1 := k2.trans c2
    have c0 := k1.trans c1
    have hall : DtAll B K _ _ ods := .cons .non (.cons (.bl true) (.cons (.bl false) (.cons (.int 0) (.cons (.int (-1)) (.cons (.int 1) (.cons (.int 2) (.cons (.int 7) (.cons (.int 400) (.cons (.int (10 ^ 30)) (.cons (.str "") (.cons (.str "a")
      (.cons (Dt.keep (W c1) _ _ D1) (.cons (Dt.keep (W c2) _ _ D2) (.cons (Dt.keep (W c3) _ _ D3) (.cons (Dt.keep (W c4) _ _ D4) (.cons (Dt.keep (W c5) _ _ D5) (.cons (Dt.keep (W c6) _ _ D6) (.cons (Dt.keep (W c8) _ _ D8) .nil))))))))))))))))))
    clear D1 D2 D3 D4 D5 D6 D7 D8 c1 c2 c3 c4 c5 c6 c7 c8 k1 k2 k3 k4 k5 k6 k7 k8 k9 dk1 dk2 dk3 dk4 dk5 dk6 dk7 dk8 tb1 tb2 tb3 tb4 tb5 tb6 tb7 tb8
    have hdO := Dt.keep (W c0) _ _ hd
    have fin : ∀ (H' : Hp) (cells' : List Int) (n' : Int), DeckAt a c cells' n' H' → n ≤ n' → n' ≤ n + 1 → Keep (Bd a c) _ H' → spOne K [.ref a, .ref O9] H' (fun v' H'' => Q v' H'') E0 := fun H' cells' n' dk' h1' h2' kp => by
      refine ⟨a, c, O9, cells', n', _, rfl, dk', by omega, by omega, SqL.of (kp _ _ nO hO9), nO, List.cons_ne_nil _ _, (by show 19 ≤ 1000; decide), fun H'' cells'' x hx dk'' kk => ?_⟩
      obtain ⟨i, hi⟩ := List.getElem?_of_mem hx
      obtain ⟨d', hd1, hd2⟩ := hall.getV hi
      obtain ⟨o1, o2, o3⟩ := ods_ok d' (List.mem_of_getElem? hd1)
      have hp := nodes_pos d
      exact k H'' cells'' (n' + 1) x d' dk'' (by omega) (by omega) (c0.trans (kp.trans kk)) (Dt.keep (W (kp.trans kk)) _ _ hd2) o1 (by omega) (by omega)
    refine ⟨_, rfl, rfl, _, rfl, ite2 (fun e0 => ?_) (fun e0 => ?_)⟩
    · exact ⟨_, rfl, _, rfl, fin _ cells n dk9 (Int.le_refl _) (by omega) Keep.rfl'⟩
    · refine ⟨v, rfl, v, .ty "tuple", _, _, _, rfl, .ty _, tyD hdO, kitT d, _, rfl, ?_⟩
      cases d with
      | none => exact ⟨_, rfl, _, rfl, fin _ cells n dk9 (Int.le_refl _) (by omega) Keep.rfl'⟩
      | bool _ => exact ⟨_, rfl, _, rfl, fin _ cells n dk9 (Int.le_refl _) (by omega) Keep.rfl'⟩
      | int _ => exact ⟨_, rfl, _, rfl, fin _ cells n dk9 (Int.le_refl _) (by omega) Keep.rfl'⟩
      | str _ => exact ⟨_, rfl, _, rfl, fin _ cells n dk9 (Int.le_refl _) (by omega) Keep.rfl'⟩
      | list _ => exact ⟨_, rfl, _, rfl, fin _ cells n dk9 (Int.le_refl _) (by omega) Keep.rfl'⟩
      | dict _ => exact ⟨_, rfl, _, rfl, fin _ cells n dk9 (Int.le_refl _) (by omega) Keep.rfl'⟩
      | tuple ds =>
        obtain ⟨p, xs, rfl, np, hs, ha, hl⟩ := hdO.tup_rd
        have npd : ¬ Bd a c p := fun z => np (hB p z)
        rw [nodes_tup] at hnd
        have lds := len_nodes ds
        refine ⟨.ref p, rfl, Nat.zero_le _, fun e he => ?_⟩
        have ke := keep_new (B := Bd a c) (o := .tup []) he
        have dke := deck_new (o := .tup []) dk9 he
        have tbe := tb_upd (p := e) (o := .tup []) tb9
        have hse := ke.rd npd hs
        have hae := DtAll.keep (W ke) _ _ ha
        refine ⟨p, e, xs, rfl, rfl, .inl hse, SqT.of upd_same, _, rfl, ite2 (fun ex => ?_) (fun ex => ?_)⟩
        · exact ⟨_, rfl, _, rfl, fin _ cells n dke (Int.le_refl _) (by omega) ke⟩
        · have xne : xs ≠ [] := fun z => ex (decide_eq_true z)
          have lpos : 0 < xs.length := List.length_pos_iff.mpr xne
          refine ⟨_, rfl, a, c, cells, n, 6, rfl, dke, by decide, by decide, n0, by omega, fun H1 cells1 r1 r10 r16 dk1 k1 => ?_⟩
          refine ⟨rfl, _, rfl, ite2 (fun ez => ?_) (fun ez => ?_)⟩
          · exact ⟨_, rfl, _, rfl, fin _ cells1 (n + 1) dk1 (by omega) (by omega) (ke.trans k1)⟩
          · have hs1 := k1.rd npd hse
            refine ⟨_, rfl, .ref p, rfl, p, xs, rfl, .inr (.inl hs1), a, c, cells1, n + 1, _, rfl, dk1, by omega, by omega, by omega, by omega, fun H2 cells2 r2 r20 r2l dk2 k2 => ?_⟩
            refine ⟨_, rfl, a, c, cells2, n + 1 + 1, 9, rfl, dk2, by decide, by decide, by omega, by omega, fun H3 cells3 r3 r30 r39 dk3 k3 => ?_⟩
            have k13 := k1.trans (k2.trans k3)
            have kall := c0.trans (ke.trans k13)
            have hs3 := k13.rd npd hse
            have tbm := tb_keep tbe dk3 k13
            have ha3 := DtAll.keep (W k13) _ _ hae
            obtain ⟨j, hj, ej⟩ : ∃ j : Nat, j < xs.length ∧ r2 = (j : Int) := ⟨r2.toNat, by omega, by omega⟩
            subst ej
            have hjd : j < ds.length := by omega
            have ct : cutV xs none (some (j : Int)) = xs.take j := cut_take xs j (by omega)
            have cd0 : cutV xs (some (j : Int)) none = xs.drop j := cut_drop xs j (by omega)
            have cd1 : cutV xs (some ((j : Int) + 1)) none = xs.drop (j + 1) := cut_drop xs (j + 1) (by omega)
            have cm : cutV xs (some (j : Int)) (some ((j : Int) + 1)) = (xs.drop j).take 1 := cut_mid xs j hj
            have hsm2 := (sm_tup ds).mp hsm
            have nsum : nodesAll ds = nodesAll (ds.take j) + nodesAll (ds.drop j) := by rw [← nodesAll_append, List.take_append_drop]
            have ndrop : nodesAll (ds.drop j) = nodes ds[j] + nodesAll (ds.drop (j + 1)) := by rw [List.drop_eq_getElem_cons hjd, nodesAll_cons]
            have hdp : PyData.depthAll ds ≤ PyData.depthAll ds := Nat.le_refl _
            rw [depthAll_le] at hdp
            refine ⟨_, _, rfl, ?_⟩
            have tk : ∀ x ∈ ds.take j, x ∈ ds := fun x hx => List.mem_of_mem_take hx
            have dp : ∀ (i : Nat), ∀ x ∈ ds.drop i, x ∈ ds := fun i x hx => List.mem_of_mem_drop hx
            refine ⟨_, rfl, rfl, _, rfl, ite2 (fun ew => ?_) (fun ew => ?_)⟩
            · -- one item less
              refine ⟨_, rfl, _, rfl, (j : Int), rfl, p, xs, rfl, hs3, fun q1 H4 s4 hq1 w1 => ?_⟩
              rw [ct] at hq1
              have dk4 := deck_same s4 dk3
              have tb4 := tb_same s4 tbm
              refine ⟨_, rfl, _, rfl, (j : Int), 1, rfl, rfl, _, rfl, p, xs, rfl, same_rd s4 hs3, fun q2 H5 s5 hq2 w2 => ?_⟩
              rw [cd1] at hq2
              have dk5 := deck_same s5 dk4
              have tb5 := tb_same s5 tb4
              refine ⟨q1, q2, _, _, rfl, rfl, same_rd s5 hq1, hq2, ?_, fun q H6 s6 hq w6 => ?_⟩
              · rw [List.length_take, List.length_drop]
                exact sz_of (by omega)
              · have n1' := nb_of tbm np w1
                have n2' := nb_of tb4 np w2
                have n6' := nb_of2 tb5 n1' n2' w6
                obtain ⟨b1, b2, _, _⟩ := sub_ok (es := ds.take j ++ ds.drop (j + 1)) hsm (fun x hx => by
                  rcases List.mem_append.mp hx with hx | hx
                  · exact tk x hx
                  · exact dp _ x hx)
                have sall := L2.Same.trans s4 (L2.Same.trans s5 s6)
                refine k H6 cells3 _ (.ref q) (.tuple (ds.take j ++ ds.drop (j + 1))) (deck_same s6 dk5) (by omega) (by omega) (kall.trans (Keep.same sall)) (.tup n6' hq (same_all sall ((ha3.take j).append (ha3.drop (j + 1))))) b1 ?_ b2
                rw [nodes_tup, nodes_tup, nodesAll_append]
                omega
            · refine ⟨_, rfl, rfl, _, rfl, ite2 (fun ew1 => ?_) (fun ew1 => ?_)⟩
              · -- an item twice
                refine ⟨_, rfl, _, rfl, (j : Int), rfl, p, xs, rfl, hs3, fun q1 H4 s4 hq1 w1 => ?_⟩
                rw [ct] at hq1
                have dk4 := deck_same s4 dk3
                have tb4 := tb_same s4 tbm
                refine ⟨_, rfl, _, rfl, (j : Int), rfl, _, rfl, (j : Int), 1, rfl, rfl, _, rfl, p, xs, rfl, same_rd s4 hs3, fun q2 H5 s5 hq2 w2 => ?_⟩
                rw [cm] at hq2
                have dk5 := deck_same s5 dk4
                have tb5 := tb_same s5 tb4
                refine ⟨q1, q2, _, _, rfl, rfl, same_rd s5 hq1, hq2, ?_, fun q3 H6 s6 hq3 w3 => ?_⟩
                · rw [List.length_take, List.length_take, List.length_drop]
                  exact sz_of (by omega)
                · have dk6 := deck_same s6 dk5
                  have tb6 := tb_same s6 tb5
                  refine ⟨_, rfl, _, rfl, (j : Int), rfl, p, xs, rfl, same_rd (L2.Same.trans s4 (L2.Same.trans s5 s6)) hs3, fun q4 H7 s7 hq4 w4 => ?_⟩
                  rw [cd0] at hq4
                  have dk7 := deck_same s7 dk6
                  have tb7 := tb_same s7 tb6
                  refine ⟨q3, q4, _, _, rfl, rfl, same_rd s7 hq3, hq4, ?_, fun q H8 s8 hq w8 => ?_⟩
                  · rw [List.length_append, List.length_take, List.length_take, List.length_drop]
                    exact sz_of (by omega)
                  · have n1' := nb_of tbm np w1
                    have n2' := nb_of tb4 np w2
                    have n3' := nb_of2 tb5 n1' n2' w3
                    have n4' := nb_of tb6 np w4
                    have n8' := nb_of2 tb7 n3' n4' w8
                    obtain ⟨b1, b2, _, _⟩ := sub_ok (es := (ds.take j ++ (ds.drop j).take 1) ++ ds.drop j) hsm (fun x hx => by
                      rcases List.mem_append.mp hx with hx | hx
                      · rcases List.mem_append.mp hx with hx | hx
                        · exact tk x hx
                        · exact dp _ x (List.mem_of_mem_take hx)
                      · exact dp _ x hx)
                    have sall := L2.Same.trans s4 (L2.Same.trans s5 (L2.Same.trans s6 (L2.Same.trans s7 s8)))
                    refine k H8 cells3 _ (.ref q) (.tuple ((ds.take j ++ (ds.drop j).take 1) ++ ds.drop j)) (deck_same s8 dk7) (by omega) (by omega) (kall.trans (Keep.same sall)) (.tup n8' hq (same_all sall (((ha3.take j).append ((ha3.drop j).take 1)).append (ha3.drop j)))) b1 ?_ b2
                    have n1d : nodesAll ((ds.drop j).take 1) = nodes ds[j] := by
                      rw [List.drop_eq_getElem_cons hjd, List.take_succ_cons, List.take_zero, nodesAll_cons, nodesAll_nil, Nat.add_zero]
                    rw [nodes_tup, nodes_tup, nodesAll_append, nodesAll_append, n1d]
                    omega
              · refine ⟨_, rfl, rfl, _, rfl, ite2 (fun ew2 => ?_) (fun ew2 => ?_)⟩
                · -- a list of it
                  refine ⟨_, rfl, p, xs, rfl, .inl hs3, fun q hq nq => ?_⟩
                  obtain ⟨_, _, b3, b4⟩ := sub_ok (es := ds) hsm (fun x hx => hx)
                  have sq := same_new (o := .lst xs) hq
                  refine k _ cells3 _ (.ref q) (.list ds) (deck_same sq dk3) (by omega) (by omega) (kall.trans (Keep.same sq)) (.lst (tb_off tbm hq) nq (.inl upd_same) (same_all sq ha3)) b3 ?_ b4
                  rw [nodes_lst, nodes_tup]
                  omega
                · -- one item bent
                  obtain ⟨t', rfl⟩ : ∃ t', t = t' + 1 := by
                    cases t with
                    | zero => exact (e0 (decide_eq_true rfl)).elim
                    | succ t' => exact ⟨t', rfl⟩
                  have hsp := hrec t' rfl
                  subst hsp
                  obtain ⟨vj, hvj, hdj⟩ := ha3.get (List.getElem?_eq_getElem hjd)
                  have mj : ds[j] ∈ ds := List.getElem_mem hjd
                  have mn := mem_nodes mj
                  refine ⟨_, rfl, _, rfl, (j : Int), rfl, p, xs, rfl, hs3, fun q1 H4 s4 hq1 w1 => ?_⟩
                  rw [ct] at hq1
                  have dk4 := deck_same s4 dk3
                  have tb4 := tb_same s4 tbm
                  have n1' := nb_of tbm np w1
                  refine ⟨_, rfl, _, rfl, _, rfl, p, xs, (j : Int), vj, rfl, rfl, .inl (same_rd s4 hs3), atI_nat hvj, _, rfl, ((t' + 1 : Nat) : Int), 1, rfl, rfl, B, a, c, cells3, n + 1 + 1 + 1, vj, ds[j], ?_, hB, tb4, dk4, by omega, by omega, by omega, same_dt s4 hdj, hsm2 _ mj, by omega, fun H5 cells5 n5 v5 d5 dk5 m5 m5' k5 hd5 hs5 hn5 hp5 => ?_⟩
                  · show [V.ref a, vj, V.int (((t' + 1 : Nat) : Int) - 1)] = [V.ref a, vj, V.int (t' : Int)]
                    rw [show (((t' + 1 : Nat) : Int) - 1) = (t' : Int) by omega]
                  · have hq15 := k5.rd (fun z => n1' (hB _ z)) hq1
                    refine ⟨(by show 1 ≤ sizeLine; decide), fun u hu => ?_⟩
                    have su := same_new (o := .tup [v5]) hu
                    have dk6 := deck_same su dk5
                    have tb5 := tb_keep tb4 dk5 k5
                    have tb6 := tb_same su tb5
                    have nu := tb_off tb5 hu
                    refine ⟨q1, u, _, _, rfl, rfl, same_rd su hq15, .inl upd_same, ?_, fun q2 H7 s7 hq2 w2 => ?_⟩
                    · rw [List.length_take, List.length_singleton]
                      exact sz_of (by omega)
                    · have dk7 := deck_same s7 dk6
                      have tb7 := tb_same s7 tb6
                      have n2' := nb_of2 tb6 n1' nu w2
                      have k47 : Keep (Bd a c) H4 H7 := k5.trans (Keep.same (L2.Same.trans su s7))
                      have k37 : Keep (Bd a c) H3 H7 := (Keep.same s4).trans k47
                      refine ⟨_, rfl, _, rfl, (j : Int), 1, rfl, rfl, _, rfl, p, xs, rfl, k37.rd npd hs3, fun q3 H8 s8 hq3 w3 => ?_⟩
                      rw [cd1] at hq3
                      have dk8 := deck_same s8 dk7
                      have tb8 := tb_same s8 tb7
                      have n3' := nb_of tb7 np w3
                      refine ⟨q2, q3, _, _, rfl, rfl, same_rd s8 hq2, hq3, ?_, fun q H9 s9 hq w9 => ?_⟩
                      · rw [List.length_append, List.length_take, List.length_drop, List.length_singleton]
                        exact sz_of (by omega)
                      · have n9' := nb_of2 tb8 n2' n3' w9
                        have k79 := Keep.same (B := Bd a c) (L2.Same.trans s8 s9)
                        have k39 := k37.trans k79
                        have ha9 := DtAll.keep (W k39) _ _ ha3
                        have hd9 : Dt B K H9 v5 d5 := Dt.keep (W ((Keep.same (B := Bd a c) (L2.Same.trans su s7)).trans k79)) _ _ hd5
                        have hdj := hdp _ mj
                        refine k H9 cells5 n5 (.ref q) (.tuple ((ds.take j ++ [d5]) ++ ds.drop (j + 1))) (deck_same s9 dk8) (by omega) (by omega) (kall.trans k39) (.tup n9' hq (((ha9.take j).append (.cons hd9 .nil)).append (ha9.drop (j + 1)))) ?_ ?_ ?_
                        · rw [sm_tup]
                          intro x hx
                          rcases List.mem_append.mp hx with hx | hx
                          · rcases List.mem_append.mp hx with hx | hx
                            · exact hsm2 x (tk x hx)
                            · rw [List.mem_singleton.mp hx]
                              exact hs5
                          · exact hsm2 x (dp _ x hx)
                        · rw [nodes_tup, nodes_tup, nodesAll_append, nodesAll_append, nodesAll_cons, nodesAll_nil]
                          omega
                        · rw [depth_tup, depth_tup]
                          refine Nat.succ_le_succ (depthAll_le.mpr fun x hx => ?_)
                          rcases List.mem_append.mp hx with hx | hx
                          · rcases List.mem_append.mp hx with hx | hx
                            · have := hdp x (tk x hx)
                              omega
                            · rw [List.mem_singleton.mp hx]
                              omega
                          · have := hdp x (dp _ x hx)
                            omega
theorem ok_bent {f fD fO : Addr} {fd fdD fdO : FuncData} (F : Fun K "_law_bent" "_law_bent" sBent f fd) (gB : mg "_law_bent" = some (.ref f)) (bB : Binds K fd ["_law_deck_here", "_law_value", "_law_deep"] [])
    (D : FnOk P w K mg base CX0 1 fD fdD ["_law_deck_here", "_law_many"] spDraw) (FD : Fun K "_law_draw" "_law_draw" sDraw fD fdD) (bD : Binds K fdD ["_law_deck_here", "_law_many"] []) (gD : mg "_law_draw" = some (.ref fD))
    (O : FnOk P w K mg base CX0 2 fO fdO ["_law_deck_here", "_law_items"] (spOne K)) (FO : Fun K "_law_one" "_law_one" sOne fO fdO) (bO : Binds K fdO ["_law_deck_here", "_law_items"] []) (gO : mg "_law_one" = some (.ref fO)) (T : Mg mg) :
    ∀ t : Nat, FnOk P w K mg base CX0 (3 + t) f fd ["_law_deck_here", "_law_value", "_law_deep"] (spBent K t)
  | 0 => bent_body (kk := 2) F gB bB (Nat.le_refl _) no_fn (fun t' e => nomatch e) D FD bD gD O FO bO gO T
  | t + 1 => bent_body (kk := 3 + t) F gB bB (by omega) (ok_bent F gB bB D FD bD gD O FO bO gO T t) (fun t' e => by rw [Nat.succ.inj e]) D FD bD gD O FO bO gO T
end
end Ver
namespace Ver
open PySem PySem.Spec PyProof.Rows L2
section
variable {X : Cx}
/-- repr of data without dicts -/
def rReprP (K : PySem.W.Frag) : List V → Hp → VK → Prop := fun xs H Q => ∃ (a : Addr) (ds : List PyData), xs = [.ref a] ∧ Dp K H (.ref a) (.list ds) ∧ (PyData.list ds).showable = true ∧ (PyData.list ds).hasDict = false ∧ (PyData.list ds).depth ≤ 60 ∧ (PyData.list ds).shown.length ≤ sizeLine ∧ Q (.str (PyData.list ds).shown) H
theorem call_reprP (hG : X.A.guards = some []) (hu : X.A.units + 64 < cLine) : CallR X (.builtin "repr") (rReprP X.K) := by
  intro pins s σ H xs us Q I r h
  obtain ⟨a, ds, rfl, hd, hs, hn, hdp, hz, q⟩ := h
  obtain ⟨u, rfl, rx⟩ := vals1 r
  obtain ⟨as, rd⟩ := Dp.reads I _ _ u hd rx
  cases rx
  exact repr_of_reads' rd hs (PyData.noDict_hsm hn) hG (by omega) (fun _ _ e => e) (fun h' u tk hk => ⟨.str _, H, I.kept hk, ⟨_, rfl⟩, q⟩) hz
/-! ### t * 1, t[::-1] of three -/
theorem mul_one (l : Addr) (items : Array Value) (n : Nat) (dd : Option Addr) (sl : Array (Option Value)) (u : Tok) :
    Meets (Builtin.«tuple.__mul__» ⟨[.ref l, .int 1 u], []⟩) (fun _ R s => s.heap.get? l = some { cls := .type "tuple", dict := dd, data := .seq items n, slots := sl } ∧ R (.ok (.ret (Value.ref l))) s) :=
  .of_wp fun prog w A R s h => by
    obtain ⟨hp, g, d, tk, os⟩ := s
    obtain ⟨hl, h⟩ := h
    have f1 := AutoSeq1.idx_int
    wp_walk using wpAny_loadPart' hl
    exact ⟨_, rfl, h⟩
def rRep1 (K : PySem.W.Frag) : R2 := fun x y H Q => ∃ l xs, x = .ref l ∧ y = .int 1 ∧ SqT K H l xs ∧ Q (.ref l) H
theorem op_rep1 : OpR X (binaryOp .Mult) (rRep1 X.K) := by
  intro pins s σ H x y v u Q I rx ry h
  obtain ⟨l, xs, rfl, rfl, hT, q⟩ := h
  cases rx
  obtain ⟨t, rfl⟩ := ry
  obtain ⟨its, r, ⟨⟨cls, dd, data, sl⟩, ho, hc, n, hd⟩, _⟩ := I.tuple hT
  cases hc
  cases hd
  exact wpAny_binaryOp_repeat_ref (T := "tuple") (U := "int") (by decide) ⟨_, ho, rfl⟩ (fun s' => typeIs_int s' 1 t) noFill_tuple_mul F.fills_int_mul F.slot_int_rmul repeat_tuple F.slot_int_index.lookup
    (call_meets F.slot_int_rmul (typeIs_int s 1 t) F.entry_int_rmul (F.args_int_rmul_2 _ _) (int_rmul_tuple 1 t l its.toArray n dd sl)
      ⟨ho, rfl, ⟨_, ho, rfl⟩, call_meets F.slot_tuple_mul ⟨_, ho, rfl⟩ F.entry_tuple_mul (F.args_tuple_mul_2 _ _) (mul_one l its.toArray n dd sl t) ⟨ho, .ref l, H, I, rfl, q⟩⟩)
/-- t * k for a small k from 1 on -/
def rRepS (K : PySem.W.Frag) : R2 := fun x y H Q => ∃ l k xs, x = .ref l ∧ y = .int k ∧ Rd H l (.tup xs) ∧ xs ≠ [] ∧ 1 ≤ k ∧ k ≤ 1000 ∧ xs.length ≤ 1000 ∧ ∀ q H', Same H H' → Rd H' q (.tup (List.replicate k.toNat xs).flatten) → (q = l ∨ H q = none) → Q (.ref q) H'
theorem op_repS : OpR X (binaryOp .Mult) (rRepS X.K) := by
  intro pins s σ H x y v u Q I rx ry h
  obtain ⟨l, k, xs, rfl, rfl, hT, hne, k1, k2, hz, q⟩ := h
  by_cases e : k = 1
  · subst e
    refine op_rep1 pins s σ H _ _ v u Q I rx ry ⟨l, xs, rfl, rfl, .inl hT, q l H (Same.refl H) ?_ (.inl rfl)⟩
    rw [show (List.replicate (1 : Int).toNat xs).flatten = xs by simp]
    exact hT
  · exact op_repT pins s σ H _ _ v u Q I rx ry ⟨l, k, xs, rfl, rfl, .inl hT, hne, by omega, k2, hz, fun p hp => q p _ (same_new hp) (.inl upd_same) (.inr hp)⟩
end
section
variable {prog : Program} {w : World} {A : Around} {E : Value → Shared → Prop} {s : Shared}
theorem applied3 {sl : Addr} {vs : Value} {Q : Int × Int × Nat → Shared → Prop} (hs : s.heap.IsSliceOf sl .none .none vs) (ps : IsPart vs (some (-1))) (h : Q (2, -1, 3) s) :
    wpAny (model prog w) A (Builtin.Slice.sliceApplied (.ref sl) (pure ((3 : Nat) : Int))) Q E s := by
  obtain ⟨os, hos, hcs, hds⟩ := hs
  unfold Builtin.Slice.sliceApplied Builtin.Slice.sliceFields
  have f3 : wpAny (model prog w) A (Builtin.Slice.slicePartIndex vs) (fun o s' => o = some (-1) ∧ s' = s) E s := HT.slicePart_ ps ⟨rfl, rfl⟩
  refine wpAny_bind (wpAny_bind (wpAny_field hos hds (x := .none) rfl (wpAny_bind (wpAny_field hos hds (x := .none) rfl (wpAny_bind (wpAny_field hos hds (x := vs) rfl (wpAny_pure ?_)))))))
  refine wpAny_bind (wpAny_mono f3 (fun o s' z => ?_) fun _ _ z => z)
  obtain ⟨rfl, rfl⟩ := z
  show wpAny _ _ (if ((-1 : Int) == 0) = true then _ else _) _ _ _
  rw [if_neg (by decide)]
  exact wpAny_bind (slicePart_none (wpAny_bind (slicePart_none (wpAny_bind (wpAny_pure (wpAny_pure h))))))
theorem rev3 {t sl : Addr} {u1 u2 u3 vs : Value} {Q : Value → Shared → Prop} (ht : IsTup s.heap t #[u1, u2, u3]) (hs : s.heap.IsSliceOf sl .none .none vs) (ps : IsPart vs (some (-1)))
    (h : Q (.ref s.heap.objs.size) { s with heap := s.heap.push { cls := .type "tuple", data := .seq #[u3, u2, u1] } }) : wpAny (model prog w) A (getItem (.ref t) (.ref sl)) Q E s := by
  have hTs : s.TypeIs (.ref sl) "slice" := by
    obtain ⟨os, hos, hcs, _⟩ := id hs
    exact ⟨os, hos, hcs⟩
  unfold getItem
  try with_reducible refine wpAny_holding ?_
  first | refine wpAny_bind (wpAny_pure ?_) | skip
  refine wpAny_bind (wpAny_sequenceKey ht.typeIs (by decide) (wpAny_bind (wpAny_callSpecial?_slot (name := Str.ofString "__getitem__") ht.typeIs PyProof.Rows.slot_tuple_getitem
    (wpAny_call_entry PyProof.Rows.slot_tuple_getitem ht.typeIs entry_tuple_getitem ?_ (args_tuple_getitem _ _)))))
  refine wpAny_bind (m := Builtin.Tuple.tupleItemsOf (.ref t)) (tupleItemsOf_ ht (wpAny_bind (wpAny_typeOf hTs ?_)))
  rw [if_pos (by decide)]
  refine wpAny_bind (applied3 hs ps ?_)
  show wpAny _ _ (if ((2 : Int) == 0 && (-1 : Int) == 1 && (3 : Nat) == 3) = true then _ else _) _ _ s
  rw [if_neg (by decide)]
  have e : ((List.range 3).filterMap fun (k : Nat) => (#[u1, u2, u3] : Array Value)[((2 : Int) + (k : Int) * -1).toNat]?).toArray = #[u3, u2, u1] := rfl
  rw [e]
  have ok3 : sizeOk (.seq #[u3, u2, u1]) := by
    show 3 ≤ sizeLine
    decide
  first
    | exact wpAny_bind (m := Builtin.Tuple.tupleExact _) (wpAny_newObj_type (wpAny_pure ⟨_, rfl, wpAny_pure h⟩) ok3)
    | exact wpAny_bind (wpAny_bind (m := Builtin.Tuple.tupleExact _) (wpAny_newObj_type (wpAny_pure (wpAny_pure ⟨_, rfl, wpAny_pure h⟩)) ok3))
    | exact wpAny_bind (wpAny_bind (m := Builtin.Tuple.tupleExact _) (wpAny_newObj_type (wpAny_pure ⟨_, rfl, wpAny_pure h⟩) ok3))
end
end Ver
namespace Ver
open PySem PySem.Spec PyProof.Rows L2
section
variable {X : Cx}
def tRev3 (te : TE) : TE := fun σ H Q => te σ H fun x H1 => ∃ a v1 v2 v3, x = .ref a ∧ Rd H1 a (.tup [v1, v2, v3]) ∧ ∀ p, H1 p = none → Q (.ref p) (upd H1 p (.tup [v3, v2, v1]))
theorem pe_rev3 {e : Expr} {te : TE} {k : Nat} {p1 p2 p3 pos : Pos} (he : PE X e te) :
    PE X (.Subscript e (.Slice none none (some (.UnaryOp .USub (.Constant (.int 1) k p1) p2)) p3) pos) (tRev3 te) := by
  have part : PO X (some (.UnaryOp .USub (.Constant (.int 1) k p1) p2)) (tPart (tUn (rU fun i => .int (-i)) (tC (.int 1)))) := po_some (pe_un un_neg pe_int)
  refine ⟨fun pins s σ H Q I h => Subscript_ (thn (he.run pins s σ H _ I h) ?_)⟩
  rintro v s1 ⟨x, H1, I1, r1, a, v1, v2, v3, rfl, hx, q⟩
  cases r1
  refine wpAny_Slice (thn (po_none.run pins s1 σ H1 (fun o G => o = none ∧ G = H1) I1 ⟨rfl, rfl⟩) ?_)
  rintro vl s2 ⟨_, G2, J2, pl, rfl, rfl⟩
  refine thn (po_none.run pins s2 σ G2 (fun o G => o = none ∧ G = G2) J2 ⟨rfl, rfl⟩) ?_
  rintro vu s3 ⟨_, G3, J3, pu, rfl, rfl⟩
  refine thn (part.run pins s3 σ G3 (fun o G => o = some (-1) ∧ G = G3) J3 ⟨1, rfl, -1, rfl, rfl, rfl⟩) ?_
  rintro vs s4 ⟨_, G4, J4, ps, rfl, rfl⟩
  cases pl
  cases pu
  have J5 : Inv X pins σ G4 { s4 with heap := s4.heap.push { cls := .type "slice", data := .fields #[.none, .none, vs] } } := J4.kept (t' := s4.toks) fun b ob z => Heap.get?_push_of_some _ z
  obtain ⟨its, r, ht, _⟩ := J5.tuple (.inl hx)
  cases r with
  | cons z1 r =>
    cases r with
    | cons z2 r =>
      cases r with
      | cons z3 r =>
        cases r
        refine tail_any (ops := [.ref a, .ref s4.heap.objs.size]) ht.typeIs (PyProof.Rows.slot_tuple_getitem.lookup) ?_ (by with_unfolding_all rfl)
        refine rev3 ht (Heap.IsSliceOf.new _ .none .none vs) ps ?_
        exact ⟨.ref _, _, J5.laid (t' := s4.toks) (o := .tup [v3, v2, v1]) (fun b ob z => Heap.get?_push_of_some _ z) (Nat.le_refl _) ⟨(by show 3 ≤ sizeLine; decide), _, .cons z3 (.cons z2 (.cons z1 .nil)), IsTup.new _ _⟩, rfl, q _ (J5.hok.fresh (Nat.le_refl _))⟩
end
/-! ### tuples of small data -/
/-- at q a tuple of small data: at most N nodes, at most D deep -/
def Tv (B : Addr → Prop) (K : PySem.W.Frag) (H : Hp) (q : Addr) (N D : Nat) : Prop := ∃ xs ds, Rd H q (.tup xs) ∧ ¬ B q ∧ DtAll B K H xs ds ∧ (∀ d ∈ ds, sm d = true ∧ d.depth ≤ D) ∧ nodesAll ds ≤ N
def Vv (B : Addr → Prop) (K : PySem.W.Frag) (H : Hp) (v : V) (N D : Nat) : Prop := ∃ d, Dt B K H v d ∧ sm d = true ∧ nodes d ≤ N ∧ d.depth ≤ D
theorem Vv.keep {B : Addr → Prop} {K : PySem.W.Frag} {H H' : Hp} {v : V} {N D : Nat} (k : Keep B H H') (h : Vv B K H v N D) : Vv B K H' v N D := by
  obtain ⟨d, h1, h2⟩ := h
  exact ⟨d, Dt.keep k _ _ h1, h2⟩
theorem Vv.off {B : Addr → Prop} {K : PySem.W.Frag} {H : Hp} {v : V} {N D : Nat} {q : Addr} (n : H q = none) (h : Vv B K H v N D) : Vv (fun b => B b ∨ b = q) K H v N D := by
  obtain ⟨d, h1, h2⟩ := h
  exact ⟨d, Dt.off n _ _ h1, h2⟩
theorem Vv.le {B : Addr → Prop} {K : PySem.W.Frag} {H : Hp} {v : V} {N D N' D' : Nat} (h : Vv B K H v N D) (h1 : N ≤ N') (h2 : D ≤ D') : Vv B K H v N' D' := by
  obtain ⟨d, g1, g2, g3, g4⟩ := h
  exact ⟨d, g1, g2, by omega, by omega⟩
theorem Tv.keep {B : Addr → Prop} {K : PySem.W.Frag} {H H' : Hp} {q : Addr} {N D : Nat} (k : Keep B H H') (h : Tv B K H q N D) : Tv B K H' q N D := by
  obtain ⟨xs, ds, h1, h2, h3, h4⟩ := h
  exact ⟨xs, ds, k.rd h2 h1, h2, DtAll.keep k _ _ h3, h4⟩
theorem Tv.off {B : Addr → Prop} {K : PySem.W.Frag} {H : Hp} {q p : Addr} {N D : Nat} (n : H p = none) (h : Tv B K H q N D) : Tv (fun b => B b ∨ b = p) K H q N D := by
  obtain ⟨xs, ds, h1, h2, h3, h4⟩ := h
  refine ⟨xs, ds, h1, fun z => ?_, DtAll.off n _ _ h3, h4⟩
  rcases z with z | z
  · exact h2 z
  · rw [z] at h1
    rcases h1 with e | ⟨o, e⟩ <;> (rw [n] at e; cases e)
theorem Tv.vv {B : Addr → Prop} {K : PySem.W.Frag} {H : Hp} {q : Addr} {N D : Nat} (h : Tv B K H q N D) : Vv B K H (.ref q) (N + 1) (D + 1) := by
  obtain ⟨xs, ds, h1, h2, h3, h4, h5⟩ := h
  refine ⟨.tuple ds, .tup h2 h1 h3, (sm_tup ds).mpr fun d hd => (h4 d hd).1, ?_, ?_⟩
  · rw [nodes_tup]
    omega
  · rw [depth_tup]
    exact Nat.succ_le_succ (depthAll_le.mpr fun d hd => (h4 d hd).2)
theorem Tv.of {B : Addr → Prop} {K : PySem.W.Frag} {H : Hp} {a : Addr} {ds : List PyData} {xs : List V} {N D : Nat} (nb : ¬ B a) (hr : Rd H a (.tup xs)) (ha : DtAll B K H xs ds) (hs : sm (.tuple ds) = true) (hn : nodesAll ds ≤ N) (hd : (PyData.tuple ds).depth ≤ D + 1) : Tv B K H a N D := by
  refine ⟨xs, ds, hr, nb, ha, fun d hd2 => ⟨(sm_tup ds).mp hs d hd2, ?_⟩, hn⟩
  rw [depth_tup] at hd
  have h2 : ∀ x ∈ ds, x.depth ≤ PyData.depthAll ds := depthAll_le.mp (Nat.le_refl _)
  have := h2 d hd2
  omega
/-- a cut of it -/
theorem Tv.cut {B : Addr → Prop} {K : PySem.W.Frag} {H H' : Hp} {a q : Addr} {N D : Nat} {xs : List V} {lo hi : Option Int} (tb : TB B H) (s : Same H H') (h : Tv B K H a N D) (hx : Rd H a (.tup xs)) (hq : Rd H' q (.tup (cutV xs lo hi))) (w : q = a ∨ H q = none) : Tv B K H' q N D := by
  obtain ⟨xs', ds, h1, h2, h3, h4, h5⟩ := h
  have exx : xs' = xs := by
    rcases h1 with h1 | ⟨o, h1⟩ <;> rcases hx with hx | ⟨u, hx⟩ <;> (rw [h1] at hx; cases hx <;> rfl)
  subst exx
  refine ⟨_, (ds.drop (HT.sIx xs'.length 0 lo)).take (HT.sIx xs'.length xs'.length hi - HT.sIx xs'.length 0 lo), hq, nb_of tb h2 w, same_all s ((h3.drop _).take _), fun d hd => h4 d (List.mem_of_mem_drop (List.mem_of_mem_take hd)), ?_⟩
  have e1 : nodesAll ds = nodesAll (ds.take (HT.sIx xs'.length 0 lo)) + nodesAll (ds.drop (HT.sIx xs'.length 0 lo)) := by rw [← nodesAll_append, List.take_append_drop]
  have e2 : nodesAll (ds.drop (HT.sIx xs'.length 0 lo)) = nodesAll ((ds.drop (HT.sIx xs'.length 0 lo)).take (HT.sIx xs'.length xs'.length hi - HT.sIx xs'.length 0 lo)) + nodesAll ((ds.drop (HT.sIx xs'.length 0 lo)).drop (HT.sIx xs'.length xs'.length hi - HT.sIx xs'.length 0 lo)) := by rw [← nodesAll_append, List.take_append_drop]
  omega
theorem Tv.cat {B : Addr → Prop} {K : PySem.W.Frag} {H H' : Hp} {a b q : Addr} {N M D E : Nat} {xs ys : List V} (tb : TB B H) (s : Same H H') (h : Tv B K H a N D) (g : Tv B K H b M E) (hx : Rd H a (.tup xs)) (hy : Rd H b (.tup ys)) (hq : Rd H' q (.tup (xs ++ ys))) (w : q = a ∨ q = b ∨ H q = none) :
    Tv B K H' q (N + M) (max D E) := by
  obtain ⟨xs', ds, h1, h2, h3, h4, h5⟩ := h
  obtain ⟨ys', es, g1, g2, g3, g4, g5⟩ := g
  have exx : xs' = xs := by
    rcases h1 with h1 | ⟨o, h1⟩ <;> rcases hx with hx | ⟨u, hx⟩ <;> (rw [h1] at hx; cases hx <;> rfl)
  have eyy : ys' = ys := by
    rcases g1 with g1 | ⟨o, g1⟩ <;> rcases hy with hy | ⟨u, hy⟩ <;> (rw [g1] at hy; cases hy <;> rfl)
  subst exx eyy
  refine ⟨_, ds ++ es, hq, nb_of2 tb h2 g2 w, same_all s (h3.append g3), fun d hd => ?_, by rw [nodesAll_append]; omega⟩
  rcases List.mem_append.mp hd with hd | hd
  · exact ⟨(h4 d hd).1, Nat.le_trans (h4 d hd).2 (Nat.le_max_left _ _)⟩
  · exact ⟨(g4 d hd).1, Nat.le_trans (g4 d hd).2 (Nat.le_max_right _ _)⟩
theorem Tv.get {B : Addr → Prop} {K : PySem.W.Frag} {H : Hp} {a : Addr} {N D : Nat} (h : Tv B K H a N D) : ∃ xs, Rd H a (.tup xs) ∧ xs.length ≤ N := by
  obtain ⟨xs, ds, h1, _, h3, _, h5⟩ := h
  have := len_nodes ds
  have := h3.len
  exact ⟨xs, h1, by omega⟩
theorem vv_all {B : Addr → Prop} {K : PySem.W.Frag} {H : Hp} {N D : Nat} : ∀ {xs : List V}, (∀ x ∈ xs, Vv B K H x N D) → ∃ ds, DtAll B K H xs ds ∧ (∀ d ∈ ds, sm d = true ∧ d.depth ≤ D) ∧ nodesAll ds ≤ N * xs.length
  | [], _ => ⟨[], .nil, fun d z => absurd z List.not_mem_nil, by rw [nodesAll_nil]; exact Nat.zero_le _⟩
  | x :: xs, h => by
    obtain ⟨ds, h1, h2, h3⟩ := vv_all (xs := xs) fun y hy => h y (List.mem_cons_of_mem _ hy)
    obtain ⟨d, g1, g2, g3, g4⟩ := h x List.mem_cons_self
    refine ⟨d :: ds, .cons g1 h1, fun e he => ?_, ?_⟩
    · rcases List.mem_cons.mp he with he | he
      · rw [he]
        exact ⟨g2, g4⟩
      · exact h2 e he
    · rw [nodesAll_cons, List.length_cons, Nat.mul_add, Nat.mul_one]
      omega
/-- a display of values -/
theorem tv_new {B : Addr → Prop} {K : PySem.W.Frag} {H : Hp} {p : Addr} {xs : List V} {N D : Nat} (tb : TB B H) (n : H p = none) (h : ∀ x ∈ xs, Vv B K H x N D) : Tv B K (upd H p (.tup xs)) p (N * xs.length) D := by
  obtain ⟨ds, h1, h2, h3⟩ := vv_all h
  exact ⟨xs, ds, .inl upd_same, tb_off tb n, same_all (same_new n) h1, h2, h3⟩
theorem tv_rep {B : Addr → Prop} {K : PySem.W.Frag} {H H' : Hp} {a q : Addr} {N D k : Nat} {xs : List V} (tb : TB B H) (s : Same H H') (h : Tv B K H a N D) (hx : Rd H a (.tup xs)) (hq : Rd H' q (.tup (List.replicate k xs).flatten)) (w : q = a ∨ H q = none) : Tv B K H' q (N * k) D := by
  obtain ⟨xs', ds, h1, h2, h3, h4, h5⟩ := h
  have exx : xs' = xs := by
    rcases h1 with h1 | ⟨o, h1⟩ <;> rcases hx with hx | ⟨u, hx⟩ <;> (rw [h1] at hx; cases hx <;> rfl)
  subst exx
  have rep : ∀ m : Nat, ∃ es, DtAll B K H (List.replicate m xs').flatten es ∧ (∀ d ∈ es, d ∈ ds) ∧ nodesAll es = nodesAll ds * m := by
    intro m
    induction m with
    | zero => exact ⟨[], .nil, fun d z => absurd z List.not_mem_nil, by rw [nodesAll_nil, Nat.mul_zero]⟩
    | succ m ih =>
      obtain ⟨es, e1, e2, e3⟩ := ih
      refine ⟨ds ++ es, ?_, fun d hd => ?_, ?_⟩
      · rw [List.replicate_succ, List.flatten_cons]
        exact h3.append e1
      · rcases List.mem_append.mp hd with hd | hd
        · exact hd
        · exact e2 d hd
      · rw [nodesAll_append, e3, Nat.mul_add, Nat.mul_one, Nat.add_comm]
  obtain ⟨es, e1, e2, e3⟩ := rep k
  exact ⟨_, es, hq, nb_of tb h2 w, same_all s e1, fun d hd => h4 d (e2 d hd), by rw [e3]; exact Nat.mul_le_mul_right _ h5⟩
end Ver
namespace Ver
open PySem PySem.Spec PyProof.Rows L2
/-- what stands while the values are made: the deck, the machine m with its rows and ends, the values so far -/
structure Bun (K : PySem.W.Frag) (B : Addr → Prop) (a c : Addr) (cells : List Int) (n : Int) (m pr pe : Addr) (L : Int) (rvs evs : List V) (vals : List V) (H : Hp) : Prop where
  tb : TB B H
  hB : ∀ b, Bd a c b → B b
  dk : DeckAt a c cells n H
  rm : Rd H m (.tup [.int L, .ref pr, .ref pe])
  rr : Rd H pr (.tup rvs)
  re : Rd H pe (.tup evs)
  tm : Tv B K H m 33 2
  tr : Tv B K H pr 24 1
  te : Tv B K H pe 6 0
  vs : ∀ v ∈ vals, Vv B K H v 6000 20
section
variable {K : PySem.W.Frag} {B : Addr → Prop} {a c m pr pe p : Addr} {cells : List Int} {n L : Int} {rvs evs vals : List V} {H H' : Hp} {o : HO}
theorem Tv.nb {q : Addr} {N D : Nat} (h : Tv B K H q N D) : ¬ B q := by
  obtain ⟨_, _, _, h2, _⟩ := h
  exact h2
theorem Bun.keepB {cells' : List Int} {n' : Int} (b : Bun K B a c cells n m pr pe L rvs evs vals H) (k : Keep B H H') (tb : TB B H') (dk : DeckAt a c cells' n' H') : Bun K B a c cells' n' m pr pe L rvs evs vals H' :=
  ⟨tb, b.hB, dk, k.rd b.tm.nb b.rm, k.rd b.tr.nb b.rr, k.rd b.te.nb b.re, b.tm.keep k, b.tr.keep k, b.te.keep k, fun v hv => (b.vs v hv).keep k⟩
theorem Bun.same (b : Bun K B a c cells n m pr pe L rvs evs vals H) (s : Same H H') : Bun K B a c cells n m pr pe L rvs evs vals H' := b.keepB (Keep.same s) (tb_same s b.tb) (deck_same s b.dk)
theorem Bun.new (o : HO) (b : Bun K B a c cells n m pr pe L rvs evs vals H) (h : H p = none) : Bun K B a c cells n m pr pe L rvs evs vals (upd H p o) := b.same (same_new h)
theorem Bun.drawn {cells' : List Int} {n' : Int} (b : Bun K B a c cells n m pr pe L rvs evs vals H) (dk : DeckAt a c cells' n' H') (k : Keep (Bd a c) H H') : Bun K B a c cells' n' m pr pe L rvs evs vals H' := b.keepB (k.wide b.hB) (tb_keep b.tb dk k) dk
theorem Bun.add {v : V} {N D : Nat} (b : Bun K B a c cells n m pr pe L rvs evs vals H) (h : Vv B K H v N D) (h1 : N ≤ 6000) (h2 : D ≤ 20) : Bun K B a c cells n m pr pe L rvs evs (vals ++ [v]) H :=
  ⟨b.tb, b.hB, b.dk, b.rm, b.rr, b.re, b.tm, b.tr, b.te, fun u hu => by
    rcases List.mem_append.mp hu with hu | hu
    · exact b.vs u hu
    · rw [List.mem_singleton.mp hu]
      exact h.le h1 h2⟩
/-- a new object that is to be kept apart -/
theorem Bun.off (o : HO) (b : Bun K B a c cells n m pr pe L rvs evs vals H) (h : H p = none) : Bun K (fun b => B b ∨ b = p) a c cells n m pr pe L rvs evs vals (upd H p o) := by
  have tb0 : TB (fun b => B b ∨ b = p) (upd H p o) := fun x z e => by
    rcases z with z | z
    · exact tb_upd b.tb x z e
    · rw [z, upd_same] at e
      cases e
  have s := same_new (o := o) h
  have b1 := b.same s
  exact ⟨tb0, fun x z => .inl (b.hB x z), b1.dk, b1.rm, b1.rr, b1.re, (Tv.off h b.tm).keep (Keep.same s), (Tv.off h b.tr).keep (Keep.same s), (Tv.off h b.te).keep (Keep.same s), fun v hv => (Vv.off h (b.vs v hv)).keep (Keep.same s)⟩
theorem Bun.sm (b : Bun K B a c cells n m pr pe L rvs evs vals H) : Same H H := L2.Same.refl H
theorem Bun.newl (o : HO) (b : Bun K B a c cells n m pr pe L rvs evs vals H) (h : H p = none) : Bun K B a c cells n m pr pe L rvs evs vals (upd H p o) ∧ (upd H p o) p = some o := ⟨b.new o h, upd_same⟩
theorem Bun.newlo (o : HO) (b : Bun K B a c cells n m pr pe L rvs evs vals H) (h : H p = none) : Bun K (fun b => B b ∨ b = p) a c cells n m pr pe L rvs evs vals (upd H p o) ∧ (upd H p o) p = some o ∧ ¬ Bd a c p := ⟨b.off o h, upd_same, deck_off b.dk h⟩
/-- something kept apart is stored to -/
theorem Bun.store (o : HO) (b : Bun K B a c cells n m pr pe L rvs evs vals H) (hp : B p) (np : ¬ Bd a c p) : Bun K B a c cells n m pr pe L rvs evs vals (upd H p o) :=
  b.keepB (fun x u nb e => by
    rw [upd_ne (fun z : x = p => nb (z.symm ▸ hp))]
    exact e) (tb_upd b.tb) (deck_upd b.dk np)
theorem Bun.storel (o : HO) (b : Bun K B a c cells n m pr pe L rvs evs vals H) (hp : B p) (np : ¬ Bd a c p) : Bun K B a c cells n m pr pe L rvs evs vals (upd H p o) ∧ (upd H p o) p = some o := ⟨b.store o hp np, upd_same⟩
theorem seqT_store {q l : Addr} {xs ys zs : List V} (h : SqT K H q xs) (hl : H l = some (.lst ys)) : SqT K (upd H l (.lst zs)) q xs := by
  rcases h with (h | ⟨u, h⟩) | h
  · refine .inl (.inl ?_)
    rw [upd_ne (ne_of h hl (by intro z; cases z))]
    exact h
  · refine .inl (.inr ⟨u, ?_⟩)
    rw [upd_ne (ne_of h hl (by intro z; cases z))]
    exact h
  · exact .inr h
theorem vv_int {i : Int} (h : i.natAbs ≤ 10 ^ 30) : Vv B K H (.int i) 1 0 := ⟨.int i, .int i, by rw [sm]; exact decide_eq_true h, by rw [nodes]; exact Nat.le_refl _, by rw [PyData.depth]; exact Nat.le_refl _⟩
theorem vv_bl {b : Bool} : Vv B K H (.bl b) 1 0 := ⟨.bool b, .bl b, by rw [sm], by rw [nodes]; exact Nat.le_refl _, by rw [PyData.depth]; exact Nat.le_refl _⟩
theorem cut_len (xs : List V) (lo hi : Option Int) : (cutV xs lo hi).length ≤ xs.length := by
  unfold cutV
  rw [List.length_take, List.length_drop]
  omega
theorem vv_nil (tb : TB B H) (h : H p = none) : Vv B K (upd H p (.tup [])) (.ref p) 1 1 := (tv_new (K := K) (N := 0) (D := 0) tb h (fun x hx => absurd hx List.not_mem_nil)).vv
theorem all1 {x : V} {Pp : V → Prop} (h : Pp x) : ∀ y ∈ [x], Pp y := fun y hy => by
  rw [List.mem_singleton.mp hy]
  exact h
theorem all3 {x y z : V} {Pp : V → Prop} (h1 : Pp x) (h2 : Pp y) (h3 : Pp z) : ∀ u ∈ [x, y, z], Pp u := fun u hu => by
  rcases List.mem_cons.mp hu with hu | hu
  · rw [hu]
    exact h1
  · rcases List.mem_cons.mp hu with hu | hu
    · rw [hu]
      exact h2
    · rw [List.mem_singleton.mp hu]
      exact h3
theorem lst_vv {q : Addr} {xs : List V} {N D : Nat} (t : Tv B K H q N D) (r : Rd H q (.tup xs)) (tb : TB B H) (h : H p = none) (ne : p ≠ sysModules) : Vv B K (upd H p (.lst xs)) (.ref p) (N + 1) (D + 1) := by
  obtain ⟨xs', ds, h1, h2, h3, h4, h5⟩ := t
  have exx : xs' = xs := by
    rcases h1 with h1 | ⟨o, h1⟩ <;> rcases r with r | ⟨u, r⟩ <;> (rw [h1] at r; cases r <;> rfl)
  subst exx
  refine ⟨.list ds, .lst (tb_off tb h) ne (.inl upd_same) (same_all (same_new h) h3), (sm_lst ds).mpr fun d hd => (h4 d hd).1, ?_, ?_⟩
  · rw [nodes_lst]
    omega
  · rw [depth_lst]
    exact Nat.succ_le_succ (depthAll_le.mpr fun d hd => (h4 d hd).2)
theorem rev_vv {v1 v2 v3 : V} {q : Addr} {N D : Nat} (t : Tv B K H q N D) (r : Rd H q (.tup [v1, v2, v3])) (tb : TB B H) (h : H p = none) : Vv B K (upd H p (.tup [v3, v2, v1])) (.ref p) (N + 1) (D + 1) := by
  obtain ⟨xs', ds, h1, h2, h3, h4, h5⟩ := t
  have exx : xs' = [v1, v2, v3] := by
    rcases h1 with h1 | ⟨o, h1⟩ <;> rcases r with r | ⟨u, r⟩ <;> (rw [h1] at r; cases r <;> rfl)
  subst exx
  have h3l := h3.len
  obtain ⟨d1, d2, d3, rfl⟩ := three_of (ds := ds) h3l.symm
  obtain ⟨_, _, _, e, e1, e2, e3⟩ := dt_three h3
  cases e
  have s := Keep.same (B := B) (same_new (o := .tup [v3, v2, v1]) h)
  refine ⟨.tuple [d3, d2, d1], .tup (tb_off tb h) (.inl upd_same) (.cons (Dt.keep s _ _ e3) (.cons (Dt.keep s _ _ e2) (.cons (Dt.keep s _ _ e1) .nil))), (sm_tup _).mpr fun d hd => (h4 d ?_).1, ?_, ?_⟩
  · simp only [List.mem_cons, List.not_mem_nil, or_false] at hd ⊢
    rcases hd with hd | hd | hd
    · exact .inr (.inr hd)
    · exact .inr (.inl hd)
    · exact .inl hd
  · rw [nodesAll_cons, nodesAll_cons, nodesAll_cons, nodesAll_nil] at h5
    rw [nodes_tup, nodesAll_cons, nodesAll_cons, nodesAll_cons, nodesAll_nil]
    omega
  · rw [depth_tup]
    refine Nat.succ_le_succ (depthAll_le.mpr fun d hd => (h4 d ?_).2)
    simp only [List.mem_cons, List.not_mem_nil, or_false] at hd ⊢
    rcases hd with hd | hd | hd
    · exact .inr (.inr hd)
    · exact .inr (.inl hd)
    · exact .inl hd
/-! ### what is wrong, as data -/
def optD : Option Str → PyData
  | none => .none
  | some x => .str x
theorem merr_in (d : PyData) : merr d = none ∨ merr d = some "machine" ∨ merr d = some "letters" ∨ merr d = some "rows" ∨ merr d = some "ends" := by
  unfold merr
  split
  · unfold merr3
    split
    · unfold merr4
      split
      · unfold merr5
        split
        · split
          · unfold mends
            split
            · split
              · split
                · exact .inl rfl
                · exact .inr (.inr (.inr (.inr rfl)))
              · exact .inr (.inr (.inr (.inr rfl)))
            · exact .inr (.inr (.inr (.inr rfl)))
          · exact .inr (.inr (.inr (.inl rfl)))
        · exact .inr (.inr (.inr (.inl rfl)))
      · exact .inr (.inr (.inr (.inl rfl)))
    · exact .inr (.inr (.inl rfl))
  · exact .inr (.inl rfl)
theorem optD_sm (d : PyData) : sm (.list [optD (merr d), optD (merr d)]) = true ∧ nodes (.list [optD (merr d), optD (merr d)]) ≤ 3 ∧ (PyData.list [optD (merr d), optD (merr d)]).hasDict = false ∧ (PyData.list [optD (merr d), optD (merr d)]).depth ≤ 60 := by
  rcases merr_in d with e | e | e | e | e <;> (rw [e]; decide +kernel)
theorem optD_dp {K : PySem.W.Frag} {H : Hp} (o : Option Str) : Dp K H (optV o) (optD o) := by
  cases o with
  | none => exact .non
  | some x => exact .str x
theorem str_ne_false (x : Str) : ¬ (!decide (V.str x = V.str x)) = true := by
  rw [decide_eq_true rfl]
  exact Bool.false_ne_true
/-! ### the machine as drawn -/
theorem row_ok {m : Int} {d : PyData} (h : RowD L m d) (h3 : L ≤ 3) (hm : m ≤ 10) : sm d = true ∧ d.depth ≤ 1 ∧ nodes d ≤ 4 := by
  obtain ⟨is, rfl, hl, hi⟩ := h
  have each : ∀ i ∈ is, sm i = true ∧ i.depth ≤ 0 ∧ nodes i = 1 := fun i hx => by
    rcases hi i hx with e | ⟨k, e, k0, k1⟩
    · rw [e]
      exact ⟨by rw [sm], by rw [PyData.depth]; exact Nat.le_refl _, by rw [nodes]⟩
    · rw [e]
      exact ⟨by rw [sm]; exact decide_eq_true (Nat.le_trans (show k.natAbs ≤ 10 by omega) (by decide)), by rw [PyData.depth]; exact Nat.le_refl _, by rw [nodes]⟩
  have hn : ∀ (js : List PyData), (∀ i ∈ js, nodes i = 1) → nodesAll js = js.length := by
    intro js
    induction js with
    | nil => intro _; exact nodesAll_nil
    | cons j js ih =>
      intro hj
      rw [nodesAll_cons, List.length_cons, ih (fun i hx => hj i (List.mem_cons_of_mem _ hx)), hj j List.mem_cons_self, Nat.add_comm]
  refine ⟨(sm_tup is).mpr fun i hx => (each i hx).1, ?_, ?_⟩
  · rw [depth_tup]
    exact Nat.succ_le_succ (depthAll_le.mpr fun i hx => (each i hx).2.1)
  · rw [nodes_tup, hn is fun i hx => (each i hx).2.2]
    omega
theorem nodesAll_le {N : Nat} : ∀ {js : List PyData}, (∀ i ∈ js, nodes i ≤ N) → nodesAll js ≤ N * js.length
  | [], _ => by rw [nodesAll_nil]; exact Nat.zero_le _
  | j :: js, h => by
    have h1 := nodesAll_le (js := js) fun i hx => h i (List.mem_cons_of_mem _ hx)
    have h2 := h j List.mem_cons_self
    rw [nodesAll_cons, List.length_cons, Nat.mul_add, Nat.mul_one]
    omega
theorem end_ok {d : PyData} (h : isBool d = true) : sm d = true ∧ d.depth ≤ 0 ∧ nodes d ≤ 1 := by
  cases d with
  | bool b => exact ⟨by rw [sm], by rw [PyData.depth]; exact Nat.le_refl _, by rw [nodes]; exact Nat.le_refl _⟩
  | _ => cases h
theorem bun_mach {vm : V} {rs es : List PyData} (tb : TB B H) (hB : ∀ b, B b ↔ Bd a c b) (dk : DeckAt a c cells n H) (h : MachD K a c H vm L 6 rs es) (h1 : 1 ≤ L) (h3 : L ≤ 3) :
    ∃ m pr pe rvs evs, vm = .ref m ∧ Bun K B a c cells n m pr pe L rvs evs [vm] H ∧ rvs ≠ [] ∧ rvs.length ≤ 6 ∧ evs.length ≤ 6 ∧ (∀ e ∈ evs, Gb e) ∧ Dt (Bd a c) K H vm (.tuple [.int L, .tuple rs, .tuple es]) ∧ sm (.tuple [.int L, .tuple rs, .tuple es]) = true ∧ nodes (.tuple [.int L, .tuple rs, .tuple es]) ≤ 34 ∧ (PyData.tuple [.int L, .tuple rs, .tuple es]).depth ≤ 3 := by
  obtain ⟨hd, r1, r6, el, hrows, hends⟩ := h
  have hd0 := hd
  obtain ⟨m, xs, rfl, nm, hm, ha, _⟩ := hd.tup_rd
  obtain ⟨vl, vr, ve, rfl, hdl, hdr, hde⟩ := dt_three ha
  cases hdl
  obtain ⟨pr, rvs, rfl, nr, hr, har, hlr⟩ := hdr.tup_rd
  obtain ⟨pe, evs, rfl, ne, he, hae, hle⟩ := hde.tup_rd
  have row : ∀ r ∈ rs, sm r = true ∧ r.depth ≤ 1 ∧ nodes r ≤ 4 := fun r hr2 => row_ok (hrows r hr2) h3 (by omega)
  have en : ∀ e ∈ es, sm e = true ∧ e.depth ≤ 0 ∧ nodes e ≤ 1 := fun e he2 => end_ok (hends e he2)
  have nrs : nodesAll rs ≤ 4 * rs.length := nodesAll_le fun r hr2 => (row r hr2).2.2
  have nes : nodesAll es ≤ 1 * es.length := nodesAll_le fun e he2 => (en e he2).2.2
  have sr : sm (.tuple rs) = true := (sm_tup rs).mpr fun r hr2 => (row r hr2).1
  have se : sm (.tuple es) = true := (sm_tup es).mpr fun e he2 => (en e he2).1
  have sL : sm (.int L) = true := by
    rw [sm]
    exact decide_eq_true (Nat.le_trans (show L.natAbs ≤ 3 by omega) (by decide))
  have dr : (PyData.tuple rs).depth ≤ 2 := by
    rw [depth_tup]
    exact Nat.succ_le_succ (depthAll_le.mpr fun r hr2 => (row r hr2).2.1)
  have de : (PyData.tuple es).depth ≤ 1 := by
    rw [depth_tup]
    exact Nat.succ_le_succ (depthAll_le.mpr fun e he2 => (en e he2).2.1)
  have dL : (PyData.int L).depth ≤ 0 := by
    rw [PyData.depth]
    exact Nat.le_refl _
  have nL : nodes (PyData.int L) = 1 := by rw [nodes]
  have s3 : sm (.tuple [.int L, .tuple rs, .tuple es]) = true := (sm_tup _).mpr fun d hd2 => by
    simp only [List.mem_cons, List.not_mem_nil, or_false] at hd2
    rcases hd2 with hd2 | hd2 | hd2 <;> (rw [hd2]; assumption)
  have n3 : nodesAll [.int L, .tuple rs, .tuple es] ≤ 33 := by
    rw [nodesAll_cons, nodesAll_cons, nodesAll_cons, nodesAll_nil, nL, nodes_tup, nodes_tup]
    omega
  have d3 : (PyData.tuple [.int L, .tuple rs, .tuple es]).depth ≤ 3 := by
    rw [depth_tup]
    refine Nat.succ_le_succ (depthAll_le.mpr fun d hd2 => ?_)
    simp only [List.mem_cons, List.not_mem_nil, or_false] at hd2
    rcases hd2 with hd2 | hd2 | hd2 <;> (rw [hd2]; omega)
  have n4 : nodes (.tuple [.int L, .tuple rs, .tuple es]) ≤ 34 := by
    rw [nodes_tup]
    omega
  have w : ∀ b, B b → Bd a c b := fun b z => (hB b).mp z
  have hdB : Dt B K H (.ref m) (.tuple [.int L, .tuple rs, .tuple es]) := Dt.weak w _ _ hd0
  refine ⟨m, pr, pe, rvs, evs, rfl, ⟨tb, fun b z => (hB b).mpr z, dk, hm, hr, he, .of (fun z => nm (w _ z)) hm (DtAll.weak w _ _ ha) s3 n3 d3, .of (fun z => nr (w _ z)) hr (DtAll.weak w _ _ har) sr (by omega) dr, .of (fun z => ne (w _ z)) he (DtAll.weak w _ _ hae) se (by omega) de, all1 ⟨_, hdB, s3, by omega, by omega⟩⟩, ?_, by omega, by omega, ?_, hd0, s3, n4, d3⟩
  · intro z
    rw [z] at hlr
    simp at hlr
    omega
  · intro v hv
    obtain ⟨i, hi⟩ := List.getElem?_of_mem hv
    obtain ⟨d, hd1, hd2⟩ := hae.getV hi
    have hb := hends d (List.mem_of_getElem? hd1)
    cases hd2 with
    | bl b => exact ⟨b, rfl⟩
    | _ => cases hb
end
end Ver
namespace Ver
open PySem PySem.Spec PyProof.Rows L2
section
variable {P : Program} {w : World} {K : PySem.W.Frag} {mg : Str → Option Value} {base : Heap}
theorem scLaw : FnScope ["_law_script", "_law_deck_here", "_law_turn", "_law_letters", "_law_machine_here", "_law_rows", "_law_ends", "_law_bent_here", "_law_values", "_law_end", "_law_many", "_law_k", "_law_value", "_law_shown", "_law_due"] ["_law_script"] (defScope sLaw) := ⟨rfl, rfl, rfl, by decide +kernel, rfl, by decide +kernel, by decide +kernel⟩
def spLaw (K : PySem.W.Frag) : Sp := fun vs H Q _ => ∃ (l : Addr) (ns : List Int), vs = [.ref l] ∧ SqL K H l (ns.map V.int) ∧ ns.length ≤ 63 ∧ ∀ H', Q (.bl true) H'
theorem ok_law {f fK fD fM fB fE fX : Addr} {fd fdK fdD fdM fdB fdE fdX : FuncData} (F : Fun K "law" "law" sLaw f fd)
    (DK : FnOk P w K mg base CX0 1 fK fdK ["_law_script"] (spDeck K)) (FK : Fun K "_law_deck" "_law_deck" sDeck fK fdK) (bK : Binds K fdK ["_law_script"] []) (gK : mg "_law_deck" = some (.ref fK))
    (D : FnOk P w K mg base CX0 1 fD fdD ["_law_deck_here", "_law_many"] spDraw) (FD : Fun K "_law_draw" "_law_draw" sDraw fD fdD) (bD : Binds K fdD ["_law_deck_here", "_law_many"] []) (gD : mg "_law_draw" = some (.ref fD))
    (M : FnOk P w K mg base CX0 3 fM fdM ["_law_deck_here", "_law_letters", "_law_most"] (spMach K)) (FM : Fun K "_law_machine" "_law_machine" sMach fM fdM) (bM : Binds K fdM ["_law_deck_here", "_law_letters", "_law_most"] []) (gM : mg "_law_machine" = some (.ref fM))
    (BT : FnOk P w K mg base CX0 6 fB fdB ["_law_deck_here", "_law_value", "_law_deep"] (spBent K 3)) (FB : Fun K "_law_bent" "_law_bent" sBent fB fdB) (bB : Binds K fdB ["_law_deck_here", "_law_value", "_law_deep"] []) (gB : mg "_law_bent" = some (.ref fB))
    (ER : FnOk P w K mg base CX0 3 fE fdE ["_law_value"] (spErr K)) (FE : Fun K "_law_error" "_law_error" sError fE fdE) (bE : Binds K fdE ["_law_value"] []) (gE : mg "_law_error" = some (.ref fE))
    (ME : FnOk P w K mg base CX0 4 fX fdX ["value"] (spErr K)) (FX : Fun K "machine_error" "machine_error" sMerr fX fdX) (bX : Binds K fdX ["value"] []) (gX : mg "machine_error" = some (.ref fX)) (T : Mg mg) :
    GRun P w K mg base 7 f fd ["_law_script"] (spLaw K) := by
  refine grun F scLaw (fun cdv A outer s H vs Q hG0 hr h => ?_)
  obtain ⟨l, ns, rfl, hS, hlen, k⟩ := h
  have hG : (A.deeper (envOfC "law" (defScope sLaw) s.heap.objs.size f cdv)).guards = some [] := hG0
  have hu := hr.units
  refine ⟨_, pss_cons (ps_set (i := 1) scLaw.nd rfl (.inr rfl) (pe_call DK (hr.mono (by decide)) (by rfl) gK FK.kp bK .nil pass0 (pa_cons (pv 0) pa_nil)))
    (pss_cons (ps_for PassesOwn.never rfl (pi_range1 (by rfl) T.range (pa_cons pe_int pa_nil)) (pg_name (i := 2) scLaw.nd rfl (.inl rfl))
        (pss_cons (ps_set (i := 3) scLaw.nd rfl (.inl rfl) (pe_op op_add pe_int (pe_call D (hr.mono (by decide)) (by rfl) gD FD.kp bD .nil pass0 (pa_cons (pv 1) (pa_cons pe_int pa_nil)))))
        (pss_cons (ps_set (i := 4) scLaw.nd rfl (.inr rfl) (pe_call M (hr.mono (by decide)) (by rfl) gM FM.kp bM .nil pass0 (pa_cons (pv 1) (pa_cons (pv 3) (pa_cons pe_int pa_nil)))))
        (pss_cons (ps_par (i := 5) (j := 6) rfl scLaw.nd rfl rfl (by decide) rfl rfl (pa_cons (pe_ix ix_tup (pv 4) pe_int (fun _ _ => rfl)) (pa_cons (pe_ix ix_tup (pv 4) pe_int (fun _ _ => rfl)) pa_nil)) (by rfl))
        (pss_cons (ps_set (i := 7) scLaw.nd rfl (.inl rfl) (pe_call BT (hr.mono (by decide)) (by rfl) gB FB.kp bB .nil pass0 (pa_cons (pv 1) (pa_cons (pv 4) (pa_cons pe_int pa_nil)))))
        (pss_cons (ps_set (i := 8) scLaw.nd rfl (.inl rfl) (pe_lst (pa_cons (pv 4) (pa_cons (pv 7) (pa_cons (pe_call BT (hr.mono (by decide)) (by rfl) gB FB.kp bB .nil pass0 (pa_cons (pv 1) (pa_cons (pv 7) (pa_cons pe_int pa_nil)))) (pa_cons (pe_slice sl_tupS (pv 4) po_none (po_some pe_int)) (pa_cons (pe_op op_catS (pv 4) (pe_tup (pa_cons pe_int pa_nil))) (pa_cons (pe_callTy call_listN (by rfl) T.list (by decide +kernel) (pa_cons (pv 4) pa_nil)) (pa_cons (pe_rev3 (pv 4)) pa_nil)))))))))
        (pss_cons (ps_set (i := 8) scLaw.nd rfl (.inl rfl) (pe_op op_cat (pv 8) (pe_lst (pa_cons (pe_op op_catS (pe_tup (pa_cons pe_int pa_nil)) (pe_slice sl_tupS (pv 4) (po_some pe_int) po_none)) (pa_cons (pe_op op_catS (pe_tup (pa_cons pe_int pa_nil)) (pe_slice sl_tupS (pv 4) (po_some pe_int) po_none)) (pa_cons (pe_op op_catS (pe_tup (pa_cons pe_bl pa_nil)) (pe_slice sl_tupS (pv 4) (po_some pe_int) po_none)) (pa_cons (pe_tup (pa_cons (pv 3) (pa_cons (pe_tup pa_nil) (pa_cons (pe_tup pa_nil) pa_nil)))) pa_nil)))))))
        (pss_cons (ps_set (i := 8) scLaw.nd rfl (.inl rfl) (pe_op op_cat (pv 8) (pe_lst (pa_cons (pe_tup (pa_cons (pv 3) (pa_cons (pe_op op_catS (pv 5) (pe_slice sl_tupS (pv 5) po_none (po_some pe_int))) (pa_cons (pv 6) pa_nil)))) (pa_cons (pe_tup (pa_cons (pv 3) (pa_cons (pv 5) (pa_cons (pe_op op_catS (pv 6) (pe_tup (pa_cons pe_bl pa_nil))) pa_nil)))) (pa_cons (pe_tup (pa_cons (pv 3) (pa_cons (pv 5) (pa_cons (pe_slice sl_tupS (pv 6) (po_some pe_int) po_none) pa_nil)))) pa_nil))))))
        (pss_cons (ps_set (i := 8) scLaw.nd rfl (.inl rfl) (pe_op op_cat (pv 8) (pe_lst (pa_cons (pe_tup (pa_cons (pv 3) (pa_cons (pv 5) (pa_cons (pe_callTy (r := rTup K) call_tuple_of (by rfl) T.tuple PyProof.Rows.boot_tuple (pa_cons (pe_lc (own := [("_law_end", 9)]) (g := gName 9) (tt := tYes) rfl scLaw.nd (pi_tup (pv 6)) (blkOk_by (N := ["_law_script", "_law_deck_here", "_law_turn", "_law_letters", "_law_machine_here", "_law_rows", "_law_ends", "_law_bent_here", "_law_values", "_law_end", "_law_many", "_law_k", "_law_value", "_law_shown", "_law_due"]) (sc := defScope sLaw) (by decide +kernel)) (fun _ _ _ _ _ => pg_name (i := 9) scLaw.nd rfl (Or.inl rfl)) (fun _ _ _ _ _ => pts_nil) (fun _ _ _ _ _ => pe_callTy call_int1 (by rfl) T.int PyProof.Rows.boot_int (pa_cons (pv 9) pa_nil))) pa_nil)) pa_nil)))) (pa_cons (pe_tup (pa_cons (pv 3) (pa_cons (pe_callTy call_listN (by rfl) T.list (by decide +kernel) (pa_cons (pv 5) pa_nil)) (pa_cons (pv 6) pa_nil)))) pa_nil)))))
        (pss_cons (ps_expr (pe_bm PySem.F.plainAttrs_list PySem.F.slot_list_append PySem.F.type_list_append mt_append (pv 8) (pa_cons (pe_tup (pa_cons (pv 3) (pa_cons (pe_op op_catS (pe_slice sl_tupS (pv 5) po_none (po_some (pe_un un_neg pe_int))) (pe_tup (pa_cons (pe_op op_repS (pe_tup (pa_cons (pe_callB (r := rLen K) call_len_seq (by rfl) T.len PySem.boot_len (pa_cons (pv 5) pa_nil)) pa_nil)) (pv 3)) pa_nil))) (pa_cons (pv 6) pa_nil)))) pa_nil)))
        (pss_cons (ps_expr (pe_bm PySem.F.plainAttrs_list PySem.F.slot_list_append PySem.F.type_list_append mt_append (pv 8) (pa_cons (pe_tup (pa_cons (pv 3) (pa_cons (pe_op op_catS (pe_slice sl_tupS (pv 5) po_none (po_some (pe_un un_neg pe_int))) (pe_tup (pa_cons (pe_op op_repS (pe_tup (pa_cons (pe_op op_sub (pe_callB (r := rLen K) call_len_seq (by rfl) T.len PySem.boot_len (pa_cons (pv 5) pa_nil)) pe_int) pa_nil)) (pv 3)) pa_nil))) (pa_cons (pv 6) pa_nil)))) pa_nil)))
        (pss_cons (ps_for PassesOwn.never rfl (pi_tup (pe_tup (pa_cons pe_int (pa_cons pe_int pa_nil)))) (pg_name (i := 10) scLaw.nd rfl (.inl rfl)) (pss_one (ps_expr (pe_bm PySem.F.plainAttrs_list PySem.F.slot_list_append PySem.F.type_list_append mt_append (pv 8) (pa_cons (pe_tup (pa_cons (pv 3) (pa_cons (pe_op op_repS (pe_tup (pa_cons (pe_op op_repS (pe_tup (pa_cons (pe_op op_sub (pv 10) pe_int) pa_nil)) (pv 3)) pa_nil)) (pv 10)) (pa_cons (pe_op op_repS (pe_tup (pa_cons pe_bl pa_nil)) (pv 10)) pa_nil)))) pa_nil)))))
        (pss_one (ps_for PassesOwn.never rfl (pi_list (pe_op op_cat (pv 8) (pe_lc (own := [("_law_k", 11)]) (g := gName 11) (tt := tYes) rfl scLaw.nd (pi_range1 (by rfl) T.range (pa_cons pe_int pa_nil)) (blkOk_by (N := ["_law_script", "_law_deck_here", "_law_turn", "_law_letters", "_law_machine_here", "_law_rows", "_law_ends", "_law_bent_here", "_law_values", "_law_end", "_law_many", "_law_k", "_law_value", "_law_shown", "_law_due"]) (sc := defScope sLaw) (by decide +kernel)) (fun _ _ _ _ _ => pg_name (i := 11) scLaw.nd rfl (Or.inl rfl)) (fun _ _ _ _ _ => pts_nil) (fun _ _ _ _ _ => (pe_call BT (hr.mono (by decide)) (by rfl) gB FB.kp bB .nil pass0 (pa_cons (pv 1) (pa_cons (pv 4) (pa_cons pe_int pa_nil)))))))) (pg_name (i := 12) scLaw.nd rfl (.inl rfl)) (pss_cons (ps_par (i := 13) (j := 14) rfl scLaw.nd rfl rfl (by decide) rfl rfl (pa_cons (pe_callB (call_reprD hG hu) (by rfl) T.repr (by decide +kernel) (pa_cons (pv 12) pa_nil)) (pa_cons (pe_call ER (hr.mono (by decide)) (by rfl) gE FE.kp bE .nil pass0 (pa_cons (pv 12) pa_nil)) pa_nil)) (by rfl)) (pss_one (ps_if (PW.pt (pw_or (pt_cmpR op_ne (pe_callB (call_reprP hG hu) (by rfl) T.repr (by decide +kernel) (pa_cons (pe_lst (pa_cons (pe_call ME (hr.mono (by decide)) (by rfl) gX FX.kp bX .nil pass0 (pa_cons (pv 12) pa_nil)) (pa_cons (pe_call ME (hr.mono (by decide)) (by rfl) gX FX.kp bX .nil pass0 (pa_cons (pv 12) pa_nil)) pa_nil))) pa_nil)) (pe_callB (call_reprP hG hu) (by rfl) T.repr (by decide +kernel) (pa_cons (pe_lst (pa_cons (pv 14) (pa_cons (pv 14) pa_nil))) pa_nil)) (nomark _)) (pw_or1 (pt_cmpR op_ne (pe_callB (call_reprD hG hu) (by rfl) T.repr (by decide +kernel) (pa_cons (pv 12) pa_nil)) (pv 13) (nomark _))))) (pss_one (ps_ret pe_bl)) pss_nil)))))))))))))))))
    (pss_one (ps_ret pe_bl))), ?_⟩
  refine ⟨_, rfl, l, ns, rfl, hS, hlen, fun H1 a c cells0 s1 na nc dk0 => ?_⟩
  refine ⟨8, rfl, by decide, by decide, for_range (lo := 0) (n := 8) (fun i σ H' => (∃ y2 y3 y4 y5 y6 y7 y8 y9 y10 y11 y12 y13 y14, σ = [some (V.ref l), some (V.ref a), y2, y3, y4, y5, y6, y7, y8, y9, y10, y11, y12, y13, y14]) ∧ ∃ cells n, DeckAt a c cells n H' ∧ 0 ≤ n ∧ n ≤ 1000 * (i : Int)) ⟨⟨none, none, none, none, none, none, none, none, none, none, none, none, none, rfl⟩, cells0, 0, dk0, Int.le_refl _, by omega⟩ ?_ (fun σ H' _ => k H')⟩
  rintro i σ H2 hi ⟨⟨y2, y3, y4, y5, y6, y7, y8, y9, y10, y11, y12, y13, y14, rfl⟩, cells, n, dk, n0, n1⟩
  -- letters, machine
  refine ⟨_, rfl, a, c, cells, n, 3, rfl, dk, by decide, by decide, n0, by omega, fun H3 cells3 r r0 r3 dk3 k3 => ?_⟩
  refine ⟨1, r, rfl, rfl, _, rfl, _, rfl, a, c, cells3, n + 1, 1 + r, 6, rfl, dk3, by omega, by omega, by omega, by omega, by decide, by decide, fun H4 cells4 n4 vm rs es dk4 n4a n4b k4 hm => ?_⟩
  have tb4 : TB (Bd a c) H4 := fun b z e => deck_off dk4 e z
  obtain ⟨m, pr, pe, rvs, evs, rfl, bun4, rne, r6, e6, gb, hdm, smm, nm34, dm3⟩ := bun_mach (K := K) (B := Bd a c) tb4 (fun b => Iff.rfl) dk4 hm (by omega) (by omega)
  clear hm
  -- rows, ends
  refine ⟨_, rfl, m, _, 1, .ref pr, rfl, rfl, .inl bun4.rm, atI_nat (j := 1) rfl, _, rfl, m, _, 2, .ref pe, rfl, rfl, .inl bun4.rm, atI_nat (j := 2) rfl, _, _, rfl, ?_⟩
  -- bent
  refine ⟨_, rfl, _, rfl, Bd a c, a, c, cells4, n4, .ref m, _, rfl, fun b z => z, tb4, dk4, by omega, by omega, by decide, hdm, smm, by omega, fun H5 cells5 n5 vb db dk5 n5a n5b k5 hdb smb nb db' => ?_⟩
  have bun5 := (bun4.drawn dk5 k5).add (v := vb) ⟨db, hdb, smb, nb, db'⟩ (by omega) (by omega)
  -- the first seven values
  refine ⟨_, rfl, vb, rfl, _, rfl, vb, rfl, Bd a c, a, c, cells5, n5, vb, db, rfl, fun b z => z, bun5.tb, dk5, by omega, by omega, by decide, hdb, smb, by omega, fun H6 cells6 n6 vc dc dk6 n6a n6b k6 hdc smc nc' dc' => ?_⟩
  have bun6 := (bun5.drawn dk6 k6).add (v := vc) ⟨dc, hdc, smc, nc', dc'⟩ (by omega) (by omega)
  refine ⟨_, rfl, 2, rfl, m, _, rfl, bun6.rm, fun q1 H7 s7 hq1 w1 => ?_⟩
  have bun7 := (bun6.same s7).add (Tv.cut bun6.tb s7 bun6.tm bun6.rm hq1 w1).vv (by decide) (by decide)
  refine ⟨_, rfl, (by show 1 ≤ sizeLine; decide), fun u1 hu1 => ?_⟩
  have bun8 := bun7.new (.tup [.int 1]) hu1
  have tu1 := tv_new (K := K) (D := 0) bun7.tb hu1 (all1 (vv_int (i := 1) (by decide)))
  refine ⟨m, u1, _, _, rfl, rfl, bun8.rm, .inl upd_same, (by show 3 + 1 ≤ sizeLine; decide), fun q2 H9 s9 hq2 w2 => ?_⟩
  have bun9 := (bun8.same s9).add (Tv.cat bun8.tb s9 bun8.tm tu1 bun8.rm (.inl upd_same) hq2 w2).vv (by decide) (by decide)
  refine ⟨_, rfl, m, _, rfl, .inl bun9.rm, fun q3 hq3 nq3 => ?_⟩
  have bun10 := (bun9.new (.lst [.int (1 + r), .ref pr, .ref pe]) hq3).add (lst_vv bun9.tm bun9.rm bun9.tb hq3 nq3) (by decide) (by decide)
  refine ⟨_, rfl, m, _, _, _, rfl, bun10.rm, fun q4 hq4 => ?_⟩
  have bun11 := (bun10.new (.tup [.ref pe, .ref pr, .int (1 + r)]) hq4).add (rev_vv bun10.tm bun10.rm bun10.tb hq4) (by decide) (by decide)
  refine ⟨(by show 7 ≤ sizeLine; decide), fun L5 hL5 => ?_⟩
  obtain ⟨bun21, at22⟩ := bun11.newl (.lst ([.ref m, vb, vc, .ref q1, .ref q2, .ref q3, .ref q4])) hL5
  refine ⟨_, rfl, ?_⟩
  have sm23 := bun21.sm
  refine ⟨(by show 1 ≤ sizeLine; decide), fun u24 h25 => ?_⟩
  have bun31 := bun21.new (.tup [.int 0]) h25
  have sm32 := L2.Same.trans sm23 (same_new (o := .tup [.int 0]) h25)
  have tu33 := tv_new (K := K) (D := 0) bun21.tb h25 (all1 (vv_int (i := 0) (by decide)))
  refine ⟨_, rfl, 1, rfl, m, _, rfl, bun31.rm, fun q26 G27 s28 hq29 w30 => ?_⟩
  have bun34 := bun31.same s28
  have sm35 := L2.Same.trans sm32 s28
  have tq36 := Tv.cut bun31.tb s28 bun31.tm bun31.rm hq29 w30
  have tu37 := tu33.keep (Keep.same s28)
  have ru38 : Rd _ u24 (.tup [.int 0]) := same_rd s28 (.inl upd_same)
  refine ⟨u24, q26, _, _, rfl, rfl, ru38, hq29, (by show 1 + 2 ≤ sizeLine; decide), fun q39 G40 s41 hq42 w43 => ?_⟩
  have bun44 := bun34.same s41
  have sm45 := L2.Same.trans sm35 s41
  have bun46 := bun44.add (Tv.cat bun34.tb s41 tu37 tq36 ru38 hq29 hq42 w43).vv (by decide) (by decide)
  refine ⟨(by show 1 ≤ sizeLine; decide), fun u47 h48 => ?_⟩
  have bun54 := bun46.new (.tup [.int 4]) h48
  have sm55 := L2.Same.trans sm45 (same_new (o := .tup [.int 4]) h48)
  have tu56 := tv_new (K := K) (D := 0) bun46.tb h48 (all1 (vv_int (i := 4) (by decide)))
  refine ⟨_, rfl, 1, rfl, m, _, rfl, bun54.rm, fun q49 G50 s51 hq52 w53 => ?_⟩
  have bun57 := bun54.same s51
  have sm58 := L2.Same.trans sm55 s51
  have tq59 := Tv.cut bun54.tb s51 bun54.tm bun54.rm hq52 w53
  have tu60 := tu56.keep (Keep.same s51)
  have ru61 : Rd _ u47 (.tup [.int 4]) := same_rd s51 (.inl upd_same)
  refine ⟨u47, q49, _, _, rfl, rfl, ru61, hq52, (by show 1 + 2 ≤ sizeLine; decide), fun q62 G63 s64 hq65 w66 => ?_⟩
  have bun67 := bun57.same s64
  have sm68 := L2.Same.trans sm58 s64
  have bun69 := bun67.add (Tv.cat bun57.tb s64 tu60 tq59 ru61 hq52 hq65 w66).vv (by decide) (by decide)
  refine ⟨(by show 1 ≤ sizeLine; decide), fun u70 h71 => ?_⟩
  have bun77 := bun69.new (.tup [.bl true]) h71
  have sm78 := L2.Same.trans sm68 (same_new (o := .tup [.bl true]) h71)
  have tu79 := tv_new (K := K) (D := 0) bun69.tb h71 (all1 (vv_bl (b := true)))
  refine ⟨_, rfl, 1, rfl, m, _, rfl, bun77.rm, fun q72 G73 s74 hq75 w76 => ?_⟩
  have bun80 := bun77.same s74
  have sm81 := L2.Same.trans sm78 s74
  have tq82 := Tv.cut bun77.tb s74 bun77.tm bun77.rm hq75 w76
  have tu83 := tu79.keep (Keep.same s74)
  have ru84 : Rd _ u70 (.tup [.bl true]) := same_rd s74 (.inl upd_same)
  refine ⟨u70, q72, _, _, rfl, rfl, ru84, hq75, (by show 1 + 2 ≤ sizeLine; decide), fun q85 G86 s87 hq88 w89 => ?_⟩
  have bun90 := bun80.same s87
  have sm91 := L2.Same.trans sm81 s87
  have bun92 := bun90.add (Tv.cat bun80.tb s87 tu83 tq82 ru84 hq75 hq88 w89).vv (by decide) (by decide)
  refine ⟨_, rfl, ?_⟩
  refine ⟨Nat.zero_le _, fun u93 h94 => ?_⟩
  have bun95 := bun92.new (.tup []) h94
  have sm96 := L2.Same.trans sm91 (same_new (o := .tup []) h94)
  have ve97 := vv_nil (K := K) bun92.tb h94
  refine ⟨Nat.zero_le _, fun u98 h99 => ?_⟩
  have bun100 := bun95.new (.tup []) h99
  have sm101 := L2.Same.trans sm96 (same_new (o := .tup []) h99)
  have ve102 := vv_nil (K := K) bun95.tb h99
  have kx103 := Vv.keep (Keep.same (same_new (o := .tup []) h99)) ve97
  refine ⟨(by show 3 ≤ sizeLine; decide), fun p104 h105 => ?_⟩
  have bun106 := bun100.new (.tup [.int (1 + r), .ref u93, .ref u98]) h105
  have sm107 := L2.Same.trans sm101 (same_new (o := .tup [.int (1 + r), .ref u93, .ref u98]) h105)
  have bun108 := bun106.add (tv_new (K := K) (N := 10) (D := 3) bun100.tb h105 (all3 ((vv_int (i := 1 + r) (Nat.le_trans (show (1 + r).natAbs ≤ 3 by omega) (by decide))).le (by decide) (by decide)) ((kx103).le (by decide) (by decide)) ((ve102).le (by decide) (by decide)))).vv (by show 10 * 3 + 1 ≤ 6000; decide) (by decide)
  refine ⟨(by show 4 ≤ sizeLine; decide), fun X109 h110 => ?_⟩
  have bun111 := bun108.new (.lst [.ref q39, .ref q62, .ref q85, .ref p104]) h110
  have sm112 := L2.Same.trans sm107 (same_new (o := .lst [.ref q39, .ref q62, .ref q85, .ref p104]) h110)
  refine ⟨L5, X109, _, _, rfl, rfl, sm112 _ _ at22, upd_same, (by show 7 + 4 ≤ sizeLine; decide), fun L113 h114 => ?_⟩
  obtain ⟨bun115, at116⟩ := bun111.newl (.lst ([V.ref m, vb, vc, V.ref q1, V.ref q2, V.ref q3, V.ref q4] ++ [.ref q39, .ref q62, .ref q85, .ref p104])) h114
  refine ⟨_, rfl, ?_⟩
  have sm117 := bun115.sm
  refine ⟨_, rfl, ?_⟩
  refine ⟨_, rfl, ?_⟩
  refine ⟨_, rfl, 1, rfl, pr, _, rfl, bun115.rr, fun q118 G119 s120 hq121 w122 => ?_⟩
  have bun123 := bun115.same s120
  have sm124 := L2.Same.trans sm117 s120
  have tq125 := Tv.cut bun115.tb s120 bun115.tr bun115.rr hq121 w122
  have cl126 := cut_len rvs none (some 1)
  refine ⟨pr, q118, _, _, rfl, rfl, bun123.rr, hq121, sz_of (by omega), fun q127 G128 s129 hq130 w131 => ?_⟩
  have bun132 := bun123.same s129
  have sm133 := L2.Same.trans sm124 s129
  have tq134 := Tv.cat bun123.tb s129 (bun123.tr) (tq125) (bun123.rr) (hq121) hq130 w131
  refine ⟨_, rfl, ?_⟩
  refine ⟨(by show 3 ≤ sizeLine; decide), fun p135 h136 => ?_⟩
  have bun137 := bun132.new (.tup [.int (1 + r), .ref q127, .ref pe]) h136
  have sm138 := L2.Same.trans sm133 (same_new (o := .tup [.int (1 + r), .ref q127, .ref pe]) h136)
  have bun139 := bun137.add (tv_new (K := K) (N := 60) (D := 6) bun132.tb h136 (all3 ((vv_int (i := 1 + r) (Nat.le_trans (show (1 + r).natAbs ≤ 3 by omega) (by decide))).le (by decide) (by decide)) ((tq134.vv).le (by decide) (by decide)) ((bun132.te.vv).le (by decide) (by decide)))).vv (by show 60 * 3 + 1 ≤ 6000; decide) (by decide)
  refine ⟨_, rfl, _, rfl, ?_⟩
  refine ⟨_, rfl, ?_⟩
  refine ⟨(by show 1 ≤ sizeLine; decide), fun u140 h141 => ?_⟩
  have bun142 := bun139.new (.tup [.bl true]) h141
  have sm143 := L2.Same.trans sm138 (same_new (o := .tup [.bl true]) h141)
  have tu144 := tv_new (K := K) (N := 1) (D := 0) bun139.tb h141 (all1 (((vv_bl (b := true) : Vv _ K _ _ 1 0)).le (by decide) (by decide)))
  refine ⟨pe, u140, _, _, rfl, rfl, bun142.re, .inl upd_same, sz_of (by rw [List.length_singleton]; omega), fun q147 G148 s149 hq150 w151 => ?_⟩
  have bun152 := bun142.same s149
  have sm153 := L2.Same.trans sm143 s149
  have tq154 := Tv.cat bun142.tb s149 (bun142.te) (tu144) (bun142.re) (.inl upd_same) hq150 w151
  refine ⟨(by show 3 ≤ sizeLine; decide), fun p155 h156 => ?_⟩
  have bun157 := bun152.new (.tup [.int (1 + r), .ref pr, .ref q147]) h156
  have sm158 := L2.Same.trans sm153 (same_new (o := .tup [.int (1 + r), .ref pr, .ref q147]) h156)
  have bun159 := bun157.add (tv_new (K := K) (N := 60) (D := 6) bun152.tb h156 (all3 ((vv_int (i := 1 + r) (Nat.le_trans (show (1 + r).natAbs ≤ 3 by omega) (by decide))).le (by decide) (by decide)) ((bun152.tr.vv).le (by decide) (by decide)) ((tq154.vv).le (by decide) (by decide)))).vv (by show 60 * 3 + 1 ≤ 6000; decide) (by decide)
  refine ⟨_, rfl, _, rfl, ?_⟩
  refine ⟨_, rfl, 1, rfl, pe, _, rfl, bun159.re, fun q160 G161 s162 hq163 w164 => ?_⟩
  have bun165 := bun159.same s162
  have sm166 := L2.Same.trans sm158 s162
  have tq167 := Tv.cut bun159.tb s162 bun159.te bun159.re hq163 w164
  refine ⟨(by show 3 ≤ sizeLine; decide), fun p168 h169 => ?_⟩
  have bun170 := bun165.new (.tup [.int (1 + r), .ref pr, .ref q160]) h169
  have sm171 := L2.Same.trans sm166 (same_new (o := .tup [.int (1 + r), .ref pr, .ref q160]) h169)
  have bun172 := bun170.add (tv_new (K := K) (N := 60) (D := 6) bun165.tb h169 (all3 ((vv_int (i := 1 + r) (Nat.le_trans (show (1 + r).natAbs ≤ 3 by omega) (by decide))).le (by decide) (by decide)) ((bun165.tr.vv).le (by decide) (by decide)) ((tq167.vv).le (by decide) (by decide)))).vv (by show 60 * 3 + 1 ≤ 6000; decide) (by decide)
  refine ⟨(by show 3 ≤ sizeLine; decide), fun X173 h174 => ?_⟩
  have bun175 := bun172.new (.lst [.ref p135, .ref p155, .ref p168]) h174
  have sm176 := L2.Same.trans sm171 (same_new (o := .lst [.ref p135, .ref p155, .ref p168]) h174)
  refine ⟨L113, X173, _, _, rfl, rfl, sm176 _ _ at116, upd_same, (by show 11 + 3 ≤ sizeLine; decide), fun L177 h178 => ?_⟩
  obtain ⟨bun179, at180⟩ := bun175.newl (.lst (([V.ref m, vb, vc, V.ref q1, V.ref q2, V.ref q3, V.ref q4] ++ [.ref q39, .ref q62, .ref q85, .ref p104]) ++ [.ref p135, .ref p155, .ref p168])) h178
  refine ⟨_, rfl, ?_⟩
  have sm181 := bun179.sm
  refine ⟨_, rfl, _, rfl, _, rfl, pe, rfl, ⟨evs, .inl bun179.re⟩, fun D182 hD183 => ?_⟩
  refine lc_tup (K := K) (a := pe) (xs := evs) (fun j H' => Same _ H' ∧ ∃ acc : List V, H' D182 = some (.lst acc) ∧ acc.length = j ∧ ∀ v ∈ acc, ∃ z : Int, v = .int z ∧ 0 ≤ z ∧ z ≤ 1) ⟨same_new hD183, [], upd_same, rfl, fun v z => absurd z List.not_mem_nil⟩ (fun j H' _ p => .inl (same_rd p.1 bun179.re)) ?_ ?_
  · rintro j y H' hy ⟨sD, acc, hD', hl, hg⟩
    obtain ⟨b, rfl⟩ := gb y (List.mem_of_getElem? hy)
    have hj := (List.getElem?_eq_some_iff.mp hy).1
    refine ⟨rfl, _, rfl, .inr ⟨b, rfl, acc, hD', small1000 (by omega), fun x o z => ?_, _, upd_same, ?_, fun v hv => ?_⟩⟩
    · rw [upd_ne (ne_of_none z hD183)]
      exact sD _ _ z
    · rw [List.length_append, hl]
      rfl
    · rcases List.mem_append.mp hv with hv | hv
      · exact hg v hv
      · refine ⟨_, List.mem_singleton.mp hv, ?_, ?_⟩ <;> cases b <;> decide
  rintro GG ⟨sD, acc, hD', hl, hg⟩
  have bun184 := bun179.same sD
  have sm185 := L2.Same.trans sm181 sD
  refine ⟨D182, acc, rfl, .inl ⟨SqL.of hD', fun q186 h187 => ?_⟩⟩
  have bun188 := bun184.new (.tup acc) h187
  have sm189 := L2.Same.trans sm185 (same_new (o := .tup acc) h187)
  have tq190 := ((tv_new (K := K) (N := 1) (D := 0) bun184.tb h187 (fun x hx => by
    obtain ⟨z, rfl, z0, z1⟩ := hg x hx
    exact vv_int (Nat.le_trans (show z.natAbs ≤ 1 by omega) (by decide)))).vv).le (show 1 * acc.length + 1 ≤ 60 by omega) (show 0 + 1 ≤ 6 by decide)
  refine ⟨(by show 3 ≤ sizeLine; decide), fun p191 h192 => ?_⟩
  have bun193 := bun188.new (.tup [.int (1 + r), .ref pr, .ref q186]) h192
  have sm194 := L2.Same.trans sm189 (same_new (o := .tup [.int (1 + r), .ref pr, .ref q186]) h192)
  have bun195 := bun193.add (tv_new (K := K) (N := 60) (D := 6) bun188.tb h192 (all3 ((vv_int (i := 1 + r) (Nat.le_trans (show (1 + r).natAbs ≤ 3 by omega) (by decide))).le (by decide) (by decide)) ((bun188.tr.vv).le (by decide) (by decide)) ((tq190).le (by decide) (by decide)))).vv (by show 60 * 3 + 1 ≤ 6000; decide) (by decide)
  refine ⟨_, rfl, _, rfl, pr, _, rfl, .inl bun195.rr, fun q196 h197 nq198 => ?_⟩
  have bun199 := bun195.new (.lst rvs) h197
  have sm200 := L2.Same.trans sm194 (same_new (o := .lst rvs) h197)
  have lv201 := lst_vv bun195.tr bun195.rr bun195.tb h197 nq198
  refine ⟨_, rfl, ?_⟩
  refine ⟨(by show 3 ≤ sizeLine; decide), fun p202 h203 => ?_⟩
  have bun204 := bun199.new (.tup [.int (1 + r), .ref q196, .ref pe]) h203
  have sm205 := L2.Same.trans sm200 (same_new (o := .tup [.int (1 + r), .ref q196, .ref pe]) h203)
  have bun206 := bun204.add (tv_new (K := K) (N := 60) (D := 6) bun199.tb h203 (all3 ((vv_int (i := 1 + r) (Nat.le_trans (show (1 + r).natAbs ≤ 3 by omega) (by decide))).le (by decide) (by decide)) ((lv201).le (by decide) (by decide)) ((bun199.te.vv).le (by decide) (by decide)))).vv (by show 60 * 3 + 1 ≤ 6000; decide) (by decide)
  refine ⟨(by show 2 ≤ sizeLine; decide), fun X207 h208 => ?_⟩
  have bun209 := bun206.new (.lst [.ref p191, .ref p202]) h208
  have sm210 := L2.Same.trans sm205 (same_new (o := .lst [.ref p191, .ref p202]) h208)
  refine ⟨L177, X207, _, _, rfl, rfl, sm210 _ _ at180, upd_same, (by show 14 + 2 ≤ sizeLine; decide), fun L211 h212 => ?_⟩
  obtain ⟨bun213, at214, nL215⟩ := bun209.newlo (.lst ((([V.ref m, vb, vc, V.ref q1, V.ref q2, V.ref q3, V.ref q4] ++ [.ref q39, .ref q62, .ref q85, .ref p104]) ++ [.ref p135, .ref p155, .ref p168]) ++ [.ref p191, .ref p202])) h212
  refine ⟨_, rfl, .inl ⟨rfl, _, SqL.of at214⟩, _, rfl, ?_⟩
  have sm216 := bun213.sm
  refine ⟨_, rfl, 1, rfl, _, rfl, pr, _, rfl, bun213.rr, fun q217 G218 s219 hq220 w221 => ?_⟩
  have bun222 := bun213.same s219
  have sm223 := L2.Same.trans sm216 s219
  have tq224 := Tv.cut bun213.tb s219 bun213.tr bun213.rr hq220 w221
  have cl225 := cut_len rvs none (some (-1))
  refine ⟨_, rfl, pr, rvs, rfl, .inr (.inl bun222.rr), (by show 1 ≤ sizeLine; decide), fun u226 h227 => ?_⟩
  have bun228 := bun222.new (.tup [V.int (rvs.length : Int)]) h227
  have sm229 := L2.Same.trans sm223 (same_new (o := .tup [V.int (rvs.length : Int)]) h227)
  have tu230 := tv_new (K := K) (N := 1) (D := 0) bun222.tb h227 (all1 (vv_int (i := (rvs.length : Int)) (Nat.le_trans (show ((rvs.length : Int)).natAbs ≤ 6 by omega) (by decide))))
  have tq236 := tq224.keep (Keep.same (same_new (o := .tup [V.int (rvs.length : Int)]) h227))
  have hq237 := same_rd (same_new (o := .tup [V.int (rvs.length : Int)]) h227) hq220
  refine ⟨_, rfl, u226, 1 + r, _, rfl, rfl, .inl upd_same, List.cons_ne_nil _ _, by omega, by omega, (by show 1 ≤ 1000; decide), fun q231 G232 s233 hq234 w235 => ?_⟩
  have bun238 := bun228.same s233
  have sm239 := L2.Same.trans sm229 s233
  have tr240 := (tv_rep bun228.tb s233 tu230 (.inl upd_same) hq234 w235).vv.le (show 1 * [V.int (rvs.length : Int)].length * (1 + r).toNat + 1 ≤ 4 by show 1 * (1 + r).toNat + 1 ≤ 4; omega) (show 0 + 1 ≤ 1 by decide)
  have tq241 := tq236.keep (Keep.same s233)
  have hq242 := same_rd s233 hq237
  refine ⟨(by show 1 ≤ sizeLine; decide), fun u243 h244 => ?_⟩
  have bun245 := bun238.new (.tup [.ref q231]) h244
  have sm246 := L2.Same.trans sm239 (same_new (o := .tup [.ref q231]) h244)
  have tu247 := tv_new (K := K) (N := 4) (D := 1) bun238.tb h244 (all1 tr240)
  have tq248 := tq241.keep (Keep.same (same_new (o := .tup [.ref q231]) h244))
  have hq249 := same_rd (same_new (o := .tup [.ref q231]) h244) hq242
  refine ⟨q217, u243, _, _, rfl, rfl, hq249, .inl upd_same, sz_of (by rw [List.length_singleton]; omega), fun q250 G251 s252 hq253 w254 => ?_⟩
  have bun255 := bun245.same s252
  have sm256 := L2.Same.trans sm246 s252
  have tq257 := Tv.cat bun245.tb s252 (tq248) (tu247) (hq249) (.inl upd_same) hq253 w254
  refine ⟨_, rfl, ?_⟩
  refine ⟨(by show 3 ≤ sizeLine; decide), fun p258 h259 => ?_⟩
  have bun260 := bun255.new (.tup [.int (1 + r), .ref q250, .ref pe]) h259
  have sm261 := L2.Same.trans sm256 (same_new (o := .tup [.int (1 + r), .ref q250, .ref pe]) h259)
  have bun262 := bun260.add (tv_new (K := K) (N := 60) (D := 6) bun255.tb h259 (all3 ((vv_int (i := 1 + r) (Nat.le_trans (show (1 + r).natAbs ≤ 3 by omega) (by decide))).le (by decide) (by decide)) (((tq257.vv.le (show 24 + 4 * 1 + 1 ≤ 60 by decide) (show max 1 1 + 1 ≤ 6 by decide))).le (by decide) (by decide)) ((bun255.te.vv).le (by decide) (by decide)))).vv (by show 60 * 3 + 1 ≤ 6000; decide) (by decide)
  have at263 := sm261 _ _ at214
  refine ⟨L211, _, _, rfl, rfl, at263, (by show 16 < sizeLine; decide), ?_⟩
  obtain ⟨bun264, at265⟩ := bun262.storel (.lst (((([V.ref m, vb, vc, V.ref q1, V.ref q2, V.ref q3, V.ref q4] ++ [.ref q39, .ref q62, .ref q85, .ref p104]) ++ [.ref p135, .ref p155, .ref p168]) ++ [.ref p191, .ref p202]) ++ [.ref p258])) (.inr rfl) nL215
  refine ⟨_, rfl, .inl ⟨rfl, _, SqL.of at265⟩, _, rfl, ?_⟩
  have sm266 := bun264.sm
  refine ⟨_, rfl, 1, rfl, _, rfl, pr, _, rfl, bun264.rr, fun q267 G268 s269 hq270 w271 => ?_⟩
  have bun272 := bun264.same s269
  have sm273 := L2.Same.trans sm266 s269
  have tq274 := Tv.cut bun264.tb s269 bun264.tr bun264.rr hq270 w271
  have cl275 := cut_len rvs none (some (-1))
  refine ⟨_, rfl, pr, rvs, rfl, .inr (.inl bun272.rr), _, 1, rfl, rfl, (by show 1 ≤ sizeLine; decide), fun u276 h277 => ?_⟩
  have bun278 := bun272.new (.tup [V.int ((rvs.length : Int) - 1)]) h277
  have sm279 := L2.Same.trans sm273 (same_new (o := .tup [V.int ((rvs.length : Int) - 1)]) h277)
  have tu280 := tv_new (K := K) (N := 1) (D := 0) bun272.tb h277 (all1 (vv_int (i := ((rvs.length : Int) - 1)) (Nat.le_trans (show (((rvs.length : Int) - 1)).natAbs ≤ 6 by omega) (by decide))))
  have tq286 := tq274.keep (Keep.same (same_new (o := .tup [V.int ((rvs.length : Int) - 1)]) h277))
  have hq287 := same_rd (same_new (o := .tup [V.int ((rvs.length : Int) - 1)]) h277) hq270
  refine ⟨_, rfl, u276, 1 + r, _, rfl, rfl, .inl upd_same, List.cons_ne_nil _ _, by omega, by omega, (by show 1 ≤ 1000; decide), fun q281 G282 s283 hq284 w285 => ?_⟩
  have bun288 := bun278.same s283
  have sm289 := L2.Same.trans sm279 s283
  have tr290 := (tv_rep bun278.tb s283 tu280 (.inl upd_same) hq284 w285).vv.le (show 1 * [V.int ((rvs.length : Int) - 1)].length * (1 + r).toNat + 1 ≤ 4 by show 1 * (1 + r).toNat + 1 ≤ 4; omega) (show 0 + 1 ≤ 1 by decide)
  have tq291 := tq286.keep (Keep.same s283)
  have hq292 := same_rd s283 hq287
  refine ⟨(by show 1 ≤ sizeLine; decide), fun u293 h294 => ?_⟩
  have bun295 := bun288.new (.tup [.ref q281]) h294
  have sm296 := L2.Same.trans sm289 (same_new (o := .tup [.ref q281]) h294)
  have tu297 := tv_new (K := K) (N := 4) (D := 1) bun288.tb h294 (all1 tr290)
  have tq298 := tq291.keep (Keep.same (same_new (o := .tup [.ref q281]) h294))
  have hq299 := same_rd (same_new (o := .tup [.ref q281]) h294) hq292
  refine ⟨q267, u293, _, _, rfl, rfl, hq299, .inl upd_same, sz_of (by rw [List.length_singleton]; omega), fun q300 G301 s302 hq303 w304 => ?_⟩
  have bun305 := bun295.same s302
  have sm306 := L2.Same.trans sm296 s302
  have tq307 := Tv.cat bun295.tb s302 (tq298) (tu297) (hq299) (.inl upd_same) hq303 w304
  refine ⟨_, rfl, ?_⟩
  refine ⟨(by show 3 ≤ sizeLine; decide), fun p308 h309 => ?_⟩
  have bun310 := bun305.new (.tup [.int (1 + r), .ref q300, .ref pe]) h309
  have sm311 := L2.Same.trans sm306 (same_new (o := .tup [.int (1 + r), .ref q300, .ref pe]) h309)
  have bun312 := bun310.add (tv_new (K := K) (N := 60) (D := 6) bun305.tb h309 (all3 ((vv_int (i := 1 + r) (Nat.le_trans (show (1 + r).natAbs ≤ 3 by omega) (by decide))).le (by decide) (by decide)) (((tq307.vv.le (show 24 + 4 * 1 + 1 ≤ 60 by decide) (show max 1 1 + 1 ≤ 6 by decide))).le (by decide) (by decide)) ((bun305.te.vv).le (by decide) (by decide)))).vv (by show 60 * 3 + 1 ≤ 6000; decide) (by decide)
  have at313 := sm311 _ _ at265
  refine ⟨L211, _, _, rfl, rfl, at313, (by show 17 < sizeLine; decide), ?_⟩
  obtain ⟨bun314, at315⟩ := bun312.storel (.lst ((((([V.ref m, vb, vc, V.ref q1, V.ref q2, V.ref q3, V.ref q4] ++ [.ref q39, .ref q62, .ref q85, .ref p104]) ++ [.ref p135, .ref p155, .ref p168]) ++ [.ref p191, .ref p202]) ++ [.ref p258]) ++ [.ref p308])) (.inr rfl) nL215
  refine ⟨(by show 2 ≤ sizeLine; decide), fun tp316 h317 => ⟨tp316, rfl, ⟨_, SqT.of upd_same⟩, ?_⟩⟩
  have sT := same_new (o := .tup [.int 400, .int 401]) h317
  have bunT := bun314.new (.tup [.int 400, .int 401]) h317
  have atT := sT _ _ at315
  refine for_tup (K := K) (a := tp316) (xs := [.int 400, .int 401]) (fun j σ H' => (∃ z, σ = [some (V.ref l), some (V.ref a), some (V.int (0 + i)), some (V.int (1 + r)), some (V.ref m), some (V.ref pr), some (V.ref pe), some vb, some (V.ref L211), y9, z, y11, y12, y13, y14]) ∧ ∃ vals', Bun K (fun b => Bd a c b ∨ b = L211) a c cells6 n6 m pr pe (1 + r) rvs evs vals' H' ∧ H' L211 = some (.lst vals') ∧ vals'.length ≤ 18 + j ∧ SqT K H' tp316 [.int 400, .int 401]) ⟨⟨y10, rfl⟩, _, bunT, atT, (by show 18 ≤ 18 + 0; decide), SqT.of upd_same⟩ (fun j σ H' _ q => by obtain ⟨_, _, _, _, _, hT⟩ := q; exact hT) ?_ ?_
  · rintro j y σ G hy ⟨⟨z, rfl⟩, vals', bn, at', hv, hT⟩
    obtain ⟨mk, rfl, h400, h401⟩ : ∃ mk : Int, y = .int mk ∧ 400 ≤ mk ∧ mk ≤ 401 := by
      have hm := List.mem_of_getElem? hy
      simp only [List.mem_cons, List.not_mem_nil, or_false] at hm
      rcases hm with hm | hm <;> exact ⟨_, hm, by decide, by decide⟩
    have hj := (List.getElem?_eq_some_iff.mp hy).1
    have hj : j < 2 := hj
    refine ⟨_, rfl, .inl ⟨rfl, _, SqL.of at'⟩, _, rfl, ?_⟩
    have sm318 := bn.sm
    refine ⟨_, rfl, mk, 1, rfl, rfl, (by show 1 ≤ sizeLine; decide), fun u319 h320 => ?_⟩
    have bun321 := bn.new (.tup [V.int (mk - 1)]) h320
    have sm322 := L2.Same.trans sm318 (same_new (o := .tup [V.int (mk - 1)]) h320)
    have tu323 := tv_new (K := K) (N := 1) (D := 0) bn.tb h320 (all1 (vv_int (i := mk - 1) (Nat.le_trans (show (mk - 1).natAbs ≤ 400 by omega) (by decide))))
    refine ⟨_, rfl, u319, 1 + r, _, rfl, rfl, .inl upd_same, List.cons_ne_nil _ _, by omega, by omega, (by show 1 ≤ 1000; decide), fun q324 G325 s326 hq327 w328 => ?_⟩
    have bun329 := bun321.same s326
    have sm330 := L2.Same.trans sm322 s326
    have tr331 := (tv_rep bun321.tb s326 tu323 (.inl upd_same) hq327 w328).vv.le (show 1 * [V.int (mk - 1)].length * (1 + r).toNat + 1 ≤ 4 by show 1 * (1 + r).toNat + 1 ≤ 4; omega) (show 0 + 1 ≤ 1 by decide)
    refine ⟨(by show 1 ≤ sizeLine; decide), fun u332 h333 => ?_⟩
    have bun334 := bun329.new (.tup [V.ref q324]) h333
    have sm335 := L2.Same.trans sm330 (same_new (o := .tup [V.ref q324]) h333)
    have tu336 := tv_new (K := K) (N := 4) (D := 1) bun329.tb h333 (all1 (tr331))
    refine ⟨_, rfl, u332, mk, _, rfl, rfl, .inl upd_same, List.cons_ne_nil _ _, by omega, by omega, (by show 1 ≤ 1000; decide), fun q337 G338 s339 hq340 w341 => ?_⟩
    have bun342 := bun334.same s339
    have sm343 := L2.Same.trans sm335 s339
    have tr344 := (tv_rep bun334.tb s339 tu336 (.inl upd_same) hq340 w341).vv.le (show 4 * [V.ref q324].length * (mk).toNat + 1 ≤ 1605 by show 4 * (mk).toNat + 1 ≤ 1605; omega) (show 1 + 1 ≤ 2 by decide)
    refine ⟨(by show 1 ≤ sizeLine; decide), fun u345 h346 => ?_⟩
    have bun347 := bun342.new (.tup [V.bl false]) h346
    have sm348 := L2.Same.trans sm343 (same_new (o := .tup [V.bl false]) h346)
    have tu349 := tv_new (K := K) (N := 1) (D := 0) bun342.tb h346 (all1 (vv_bl (b := false)))
    refine ⟨_, rfl, u345, mk, _, rfl, rfl, .inl upd_same, List.cons_ne_nil _ _, by omega, by omega, (by show 1 ≤ 1000; decide), fun q350 G351 s352 hq353 w354 => ?_⟩
    have bun355 := bun347.same s352
    have sm356 := L2.Same.trans sm348 s352
    have tr357 := (tv_rep bun347.tb s352 tu349 (.inl upd_same) hq353 w354).vv.le (show 1 * [V.bl false].length * (mk).toNat + 1 ≤ 402 by show 1 * (mk).toNat + 1 ≤ 402; omega) (show 0 + 1 ≤ 1 by decide)
    have tb358 := (tr344.keep (Keep.same (same_new (o := .tup [V.bl false]) h346))).keep (Keep.same s352)
    refine ⟨(by show 3 ≤ sizeLine; decide), fun p359 h360 => ?_⟩
    have bun361 := bun355.new (.tup [.int (1 + r), .ref q337, .ref q350]) h360
    have sm362 := L2.Same.trans sm356 (same_new (o := .tup [.int (1 + r), .ref q337, .ref q350]) h360)
    have bun363 := bun361.add (tv_new (K := K) (N := 1605) (D := 3) bun355.tb h360 (all3 ((vv_int (i := 1 + r) (Nat.le_trans (show (1 + r).natAbs ≤ 3 by omega) (by decide))).le (by decide) (by decide)) ((tb358).le (by decide) (by decide)) ((tr357).le (by decide) (by decide)))).vv (by show 1605 * 3 + 1 ≤ 6000; decide) (by decide)
    have at364 := sm362 _ _ at'
    refine ⟨L211, _, _, rfl, rfl, at364, small1000 (by omega), ?_⟩
    obtain ⟨bnn, atn⟩ := bun363.storel (.lst (vals' ++ [.ref p359])) (.inr rfl) nL215
    refine ⟨⟨_, rfl⟩, _, bnn, atn, by rw [List.length_append, List.length_singleton]; omega, seqT_store (same_seqT sm362 hT) at364⟩
  · rintro σ G ⟨⟨z10, rfl⟩, vals', bn, at', hv, hT⟩
    have hv : vals'.length ≤ 20 := hv
    refine ⟨_, rfl, 8, rfl, by decide, by decide, fun D hD => ?_⟩
    obtain ⟨bnD, atD, nD⟩ := bn.newlo (.lst []) hD
    have atL := (same_new (o := .lst []) hD) _ _ at'
    have nLD : L211 ≠ D := ne_of_none at' hD
    have bnD' : Bun K (fun b => (Bd a c b ∨ b = L211) ∨ b = D) a c cells6 n6 m pr pe (1 + r) rvs evs (vals' ++ []) (upd G D (.lst [])) := by
      rw [List.append_nil]
      exact bnD
    refine lc_range (lo := 0) (n := 8) (fun j H' => ∃ cells' n' acc, Bun K (fun b => (Bd a c b ∨ b = L211) ∨ b = D) a c cells' n' m pr pe (1 + r) rvs evs (vals' ++ acc) H' ∧ n6 ≤ n' ∧ n' ≤ n6 + 16 * (j : Int) ∧ H' D = some (.lst acc) ∧ H' L211 = some (.lst vals') ∧ acc.length = j)
      ⟨cells6, n6, [], bnD', Int.le_refl _, by omega, atD, atL, rfl⟩ ?_ ?_
    · rintro j H' hj ⟨cells', n', acc, b', hn1, hn2, hD', hL', hl⟩
      obtain ⟨dm, e1, e2, e3, e4⟩ := b'.tm.vv
      refine ⟨rfl, _, rfl, _, rfl, _, a, c, cells', n', .ref m, dm, rfl, b'.hB, b'.tb, b'.dk, by omega, by omega, by decide, e1, e2, by omega, fun H3 cells3 n3 v3 d3 dk3 m1 m2 k3 hd3 hs3 hn3 hp3 => ?_⟩
      have b3 := b'.drawn dk3 k3
      have hD3 := k3 _ _ nD hD'
      have hL3 := k3 _ _ nL215 hL'
      have b4 := b3.add (v := v3) ⟨d3, hd3, hs3, hn3, hp3⟩ (by omega) (by omega)
      rw [List.append_assoc] at b4
      obtain ⟨b5, at5⟩ := b4.storel (.lst (acc ++ [v3])) (.inr rfl) nD
      refine ⟨acc, hD3, small1000 (by omega), cells3, n3, acc ++ [v3], b5, by omega, by omega, at5, ?_, by rw [List.length_append, hl]; rfl⟩
      rw [upd_ne nLD]
      exact hL3
    · rintro H' ⟨cells', n', acc, b', hn1, hn2, hD', hL', hl⟩
      refine ⟨L211, D, vals', acc, rfl, rfl, hL', hD', sz_of (by omega), fun Lf hLf => ?_⟩
      have bf := b'.new (.lst (vals' ++ acc)) hLf
      have hf : (upd H' Lf (.lst (vals' ++ acc))) Lf = some (.lst (vals' ++ acc)) := upd_same
      refine ⟨Lf, rfl, ⟨_, SqL.of hf⟩, ?_⟩
      refine for_list (K := K) (a := Lf) (xs := vals' ++ acc) (fun j σ H'' => (∃ z12 z13 z14, σ = [some (V.ref l), some (V.ref a), some (V.int (0 + i)), some (V.int (1 + r)), some (V.ref m), some (V.ref pr), some (V.ref pe), some vb, some (V.ref L211), y9, z10, y11, z12, z13, z14]) ∧ Same (upd H' Lf (.lst (vals' ++ acc))) H'')
        ⟨⟨_, _, _, rfl⟩, L2.Same.refl _⟩ (fun j σ H'' _ q => SqL.of (q.2 _ _ hf)) ?_ ?_
      · rintro j v σ H'' hv2 ⟨⟨z12, z13, z14, rfl⟩, sf⟩
        obtain ⟨d, hd0, hs0, hn0, hp0⟩ := bf.vs v (List.mem_of_getElem? hv2)
        have hd := same_dt sf hd0
        have hsh := sm_show d hs0
        have hfit := sm_fits hs0 (by omega)
        obtain ⟨o1, o2, o3, o4⟩ := optD_sm d
        refine ⟨_, rfl, v, d, _, rfl, hd, hsh, by omega, hfit, _, rfl, _, v, d, rfl, hd, by omega, fun H3 s3 => ⟨_, _, rfl, ?_⟩⟩
        have hd3 := same_dt s3 hd
        refine ⟨_, rfl, _, v, d, rfl, hd3, by omega, fun H4 s4 => ?_⟩
        have hd4 := same_dt s4 hd3
        refine ⟨_, rfl, _, v, d, rfl, hd4, by omega, fun H5 s5 => ?_⟩
        refine ⟨(by show 2 ≤ sizeLine; decide), fun x hx => ?_⟩
        refine ⟨x, [optD (merr d), optD (merr d)], rfl, .lst (SqL.of upd_same) (.cons (optD_dp _) (.cons (optD_dp _) .nil)), sm_show _ o1, o3, o4, sm_fits o1 (by omega), ?_⟩
        have s6 := same_new (o := .lst [optV (merr d), optV (merr d)]) hx
        refine ⟨_, rfl, _, rfl, (by show 2 ≤ sizeLine; decide), fun y hy => ?_⟩
        have s7 := same_new (o := .lst [optV (merr d), optV (merr d)]) hy
        refine ⟨y, [optD (merr d), optD (merr d)], rfl, .lst (SqL.of upd_same) (.cons (optD_dp _) (.cons (optD_dp _) .nil)), sm_show _ o1, o3, o4, sm_fits o1 (by omega), rfl, _, rfl, ite2 (fun h => absurd h (str_ne_false _)) (fun _ => ?_)⟩
        have s37 := L2.Same.trans s4 (L2.Same.trans s5 (L2.Same.trans s6 s7))
        have hd7 := same_dt s37 hd3
        refine ⟨_, rfl, v, d, _, rfl, hd7, hsh, by omega, hfit, _, rfl, rfl, _, rfl, ite2 (fun h => absurd h (str_ne_false _)) (fun _ => ?_)⟩
        exact ⟨⟨_, _, _, rfl⟩, L2.Same.trans sf (L2.Same.trans s3 s37)⟩
      · rintro σ H'' ⟨⟨z12, z13, z14, rfl⟩, sf⟩
        exact ⟨⟨_, _, _, _, _, _, _, _, _, _, _, _, _, rfl⟩, cells', n', deck_same sf bf.dk, by omega, by omega⟩
end
end Ver
namespace Ver
open PySem PySem.Spec PyProof.Rows L2
theorem all_mk {l : PySem.W.OpenLaw} {w : World} {K : PySem.W.Frag} {h : Heap} {mg : Str → Option Value} {fa f0 f1 f2 f3 f4 f5 f6 f7 f8 f9 f10 f11 : Addr} (inK : K.In h) (atG : h.Ns mainGlobals mg) (hfa : mg "law" = some (.ref fa))
    {odd0 and0 odd1 and1 odd2 and2 odd3 and3 odd4 and4 odd5 and5 odd6 and6 odd7 and7 odd8 and8 odd9 and9 odd10 and10 odd11 and11 : Option Addr} {sld0 sld1 sld2 sld3 sld4 sld5 sld6 sld7 sld8 sld9 sld10 sld11 : Array (Option Value)} {ocd0 kVd0 dcd0 pmd0 cdd0 ctd0 ocd1 kVd1 dcd1 pmd1 cdd1 ctd1 ocd2 kVd2 dcd2 pmd2 cdd2 ctd2 ocd3 kVd3 dcd3 pmd3 cdd3 ctd3 ocd4 kVd4 dcd4 pmd4 cdd4 ctd4 ocd5 kVd5 dcd5 pmd5 cdd5 ctd5 ocd6 kVd6 dcd6 pmd6 cdd6 ctd6 ocd7 kVd7 dcd7 pmd7 cdd7 ctd7 ocd8 kVd8 dcd8 pmd8 cdd8 ctd8 ocd9 kVd9 dcd9 pmd9 cdd9 ctd9 ocd10 kVd10 dcd10 pmd10 cdd10 ctd10 ocd11 kVd11 dcd11 pmd11 cdd11 ctd11 : Value} {t0 t1 : Tok}
    (a0 : PySem.W.nsIn K mainGlobals "is_integer" = some (some (.ref f0)))
    (l0 : K.lookup f0 = some ⟨ocd0, odd0, .func (PySem.W.fnOf "is_integer" "is_integer" (defArgs sInteger) (defBody sInteger) (defScope sInteger) .none kVd0 dcd0 pmd0 and0 cdd0 ctd0), sld0⟩)
    (c0 : PySem.W.codeIn K cdd0 "is_integer" = true)
    (k0 : PySem.W.keepIn K (.ref f0) = true)
    (a1 : PySem.W.nsIn K mainGlobals "is_number" = some (some (.ref f1)))
    (l1 : K.lookup f1 = some ⟨ocd1, odd1, .func (PySem.W.fnOf "is_number" "is_number" (defArgs sNumber) (defBody sNumber) (defScope sNumber) .none kVd1 dcd1 pmd1 and1 cdd1 ctd1), sld1⟩)
    (c1 : PySem.W.codeIn K cdd1 "is_number" = true)
    (k1 : PySem.W.keepIn K (.ref f1) = true)
    (a2 : PySem.W.nsIn K mainGlobals "is_row" = some (some (.ref f2)))
    (l2 : K.lookup f2 = some ⟨ocd2, odd2, .func (PySem.W.fnOf "is_row" "is_row" (defArgs sIsRow) (defBody sIsRow) (defScope sIsRow) .none kVd2 dcd2 pmd2 and2 cdd2 ctd2), sld2⟩)
    (c2 : PySem.W.codeIn K cdd2 "is_row" = true)
    (k2 : PySem.W.keepIn K (.ref f2) = true)
    (a3 : PySem.W.nsIn K mainGlobals "machine_error" = some (some (.ref f3)))
    (l3 : K.lookup f3 = some ⟨ocd3, odd3, .func (PySem.W.fnOf "machine_error" "machine_error" (defArgs sMerr) (defBody sMerr) (defScope sMerr) .none kVd3 dcd3 pmd3 and3 cdd3 ctd3), sld3⟩)
    (c3 : PySem.W.codeIn K cdd3 "machine_error" = true)
    (k3 : PySem.W.keepIn K (.ref f3) = true)
    (a4 : PySem.W.nsIn K mainGlobals "_law_deck" = some (some (.ref f4)))
    (l4 : K.lookup f4 = some ⟨ocd4, odd4, .func (PySem.W.fnOf "_law_deck" "_law_deck" (defArgs sDeck) (defBody sDeck) (defScope sDeck) .none kVd4 dcd4 pmd4 and4 cdd4 ctd4), sld4⟩)
    (c4 : PySem.W.codeIn K cdd4 "_law_deck" = true)
    (k4 : PySem.W.keepIn K (.ref f4) = true)
    (a5 : PySem.W.nsIn K mainGlobals "_law_draw" = some (some (.ref f5)))
    (l5 : K.lookup f5 = some ⟨ocd5, odd5, .func (PySem.W.fnOf "_law_draw" "_law_draw" (defArgs sDraw) (defBody sDraw) (defScope sDraw) .none kVd5 dcd5 pmd5 and5 cdd5 ctd5), sld5⟩)
    (c5 : PySem.W.codeIn K cdd5 "_law_draw" = true)
    (k5 : PySem.W.keepIn K (.ref f5) = true)
    (a6 : PySem.W.nsIn K mainGlobals "_law_one" = some (some (.ref f6)))
    (l6 : K.lookup f6 = some ⟨ocd6, odd6, .func (PySem.W.fnOf "_law_one" "_law_one" (defArgs sOne) (defBody sOne) (defScope sOne) .none kVd6 dcd6 pmd6 and6 cdd6 ctd6), sld6⟩)
    (c6 : PySem.W.codeIn K cdd6 "_law_one" = true)
    (k6 : PySem.W.keepIn K (.ref f6) = true)
    (a7 : PySem.W.nsIn K mainGlobals "_law_machine" = some (some (.ref f7)))
    (l7 : K.lookup f7 = some ⟨ocd7, odd7, .func (PySem.W.fnOf "_law_machine" "_law_machine" (defArgs sMach) (defBody sMach) (defScope sMach) .none kVd7 dcd7 pmd7 and7 cdd7 ctd7), sld7⟩)
    (c7 : PySem.W.codeIn K cdd7 "_law_machine" = true)
    (k7 : PySem.W.keepIn K (.ref f7) = true)
    (a8 : PySem.W.nsIn K mainGlobals "_law_bent" = some (some (.ref f8)))
    (l8 : K.lookup f8 = some ⟨ocd8, odd8, .func (PySem.W.fnOf "_law_bent" "_law_bent" (defArgs sBent) (defBody sBent) (defScope sBent) .none kVd8 dcd8 pmd8 and8 cdd8 ctd8), sld8⟩)
    (c8 : PySem.W.codeIn K cdd8 "_law_bent" = true)
    (k8 : PySem.W.keepIn K (.ref f8) = true)
    (a9 : PySem.W.nsIn K mainGlobals "_law_whole" = some (some (.ref f9)))
    (l9 : K.lookup f9 = some ⟨ocd9, odd9, .func (PySem.W.fnOf "_law_whole" "_law_whole" (defArgs sWhole) (defBody sWhole) (defScope sWhole) .none kVd9 dcd9 pmd9 and9 cdd9 ctd9), sld9⟩)
    (c9 : PySem.W.codeIn K cdd9 "_law_whole" = true)
    (k9 : PySem.W.keepIn K (.ref f9) = true)
    (a10 : PySem.W.nsIn K mainGlobals "_law_error" = some (some (.ref f10)))
    (l10 : K.lookup f10 = some ⟨ocd10, odd10, .func (PySem.W.fnOf "_law_error" "_law_error" (defArgs sError) (defBody sError) (defScope sError) .none kVd10 dcd10 pmd10 and10 cdd10 ctd10), sld10⟩)
    (c10 : PySem.W.codeIn K cdd10 "_law_error" = true)
    (k10 : PySem.W.keepIn K (.ref f10) = true)
    (a11 : PySem.W.nsIn K mainGlobals "law" = some (some (.ref f11)))
    (l11 : K.lookup f11 = some ⟨ocd11, odd11, .func (PySem.W.fnOf "law" "law" (defArgs sLaw) (defBody sLaw) (defScope sLaw) .none kVd11 dcd11 pmd11 and11 cdd11 ctd11), sld11⟩)
    (c11 : PySem.W.codeIn K cdd11 "law" = true)
    (k11 : PySem.W.keepIn K (.ref f11) = true)
    (z0 : PySem.W.nsIn K mainGlobals "len" = some none)
    (z1 : PySem.W.nsIn K mainGlobals "int" = some none)
    (z2 : PySem.W.nsIn K mainGlobals "range" = some none)
    (z3 : PySem.W.nsIn K mainGlobals "tuple" = some none)
    (z4 : PySem.W.nsIn K mainGlobals "list" = some none)
    (z5 : PySem.W.nsIn K mainGlobals "isinstance" = some none)
    (z6 : PySem.W.nsIn K mainGlobals "all" = some none)
    (z7 : PySem.W.nsIn K mainGlobals "abs" = some none)
    (z8 : PySem.W.nsIn K mainGlobals "bool" = some none)
    (z9 : PySem.W.nsIn K mainGlobals "repr" = some none)
    (m0 : PySem.W.nsIn K mainGlobals "MAX_LETTERS" = some (some (.int 3 t0)))
    (m1 : PySem.W.nsIn K mainGlobals "MAX_ROWS" = some (some (.int 400 t1))) :
    ∃ fd : FuncData, (∀ (s : Shared) (v : Value), BindsTo s fd ⟨[v], []⟩ [("_law_script", v)]) ∧ ∀ base : Heap, K.In base → base.Ns mainGlobals mg → GRun l.prog w K mg base 7 fa fd ["_law_script"] (spLaw K) := by
  have e := hfa.symm.trans (PySem.W.mg_of inK atG a11)
  cases e
  have T : Mg mg := ⟨PySem.W.mg_none_of inK atG z0, PySem.W.mg_none_of inK atG z1, PySem.W.mg_none_of inK atG z2, PySem.W.mg_none_of inK atG z3, PySem.W.mg_none_of inK atG z4, PySem.W.mg_none_of inK atG z5, PySem.W.mg_none_of inK atG z6, PySem.W.mg_none_of inK atG z7, PySem.W.mg_none_of inK atG z8, PySem.W.mg_none_of inK atG z9, ⟨_, PySem.W.mg_of inK atG m0⟩, ⟨_, PySem.W.mg_of inK atG m1⟩⟩
  have F0 := fun_mk (st := sInteger) l0 c0 k0
  have b0 := F0.binds (ps := ["value"]) fun _ _ _ _ _ _ us hl => match us, hl with | [_], _ => rfl
  have g0 := PySem.W.mg_of inK atG a0
  have F1 := fun_mk (st := sNumber) l1 c1 k1
  have b1 := F1.binds (ps := ["value", "least", "most"]) fun _ _ _ _ _ _ us hl => match us, hl with | [_, _, _], _ => rfl
  have g1 := PySem.W.mg_of inK atG a1
  have F2 := fun_mk (st := sIsRow) l2 c2 k2
  have b2 := F2.binds (ps := ["value", "letters", "states"]) fun _ _ _ _ _ _ us hl => match us, hl with | [_, _, _], _ => rfl
  have g2 := PySem.W.mg_of inK atG a2
  have F3 := fun_mk (st := sMerr) l3 c3 k3
  have b3 := F3.binds (ps := ["value"]) fun _ _ _ _ _ _ us hl => match us, hl with | [_], _ => rfl
  have g3 := PySem.W.mg_of inK atG a3
  have F4 := fun_mk (st := sDeck) l4 c4 k4
  have b4 := F4.binds (ps := ["_law_script"]) fun _ _ _ _ _ _ us hl => match us, hl with | [_], _ => rfl
  have g4 := PySem.W.mg_of inK atG a4
  have F5 := fun_mk (st := sDraw) l5 c5 k5
  have b5 := F5.binds (ps := ["_law_deck_here", "_law_many"]) fun _ _ _ _ _ _ us hl => match us, hl with | [_, _], _ => rfl
  have g5 := PySem.W.mg_of inK atG a5
  have F6 := fun_mk (st := sOne) l6 c6 k6
  have b6 := F6.binds (ps := ["_law_deck_here", "_law_items"]) fun _ _ _ _ _ _ us hl => match us, hl with | [_, _], _ => rfl
  have g6 := PySem.W.mg_of inK atG a6
  have F7 := fun_mk (st := sMach) l7 c7 k7
  have b7 := F7.binds (ps := ["_law_deck_here", "_law_letters", "_law_most"]) fun _ _ _ _ _ _ us hl => match us, hl with | [_, _, _], _ => rfl
  have g7 := PySem.W.mg_of inK atG a7
  have F8 := fun_mk (st := sBent) l8 c8 k8
  have b8 := F8.binds (ps := ["_law_deck_here", "_law_value", "_law_deep"]) fun _ _ _ _ _ _ us hl => match us, hl with | [_, _, _], _ => rfl
  have g8 := PySem.W.mg_of inK atG a8
  have F9 := fun_mk (st := sWhole) l9 c9 k9
  have b9 := F9.binds (ps := ["_law_value", "_law_least", "_law_most"]) fun _ _ _ _ _ _ us hl => match us, hl with | [_, _, _], _ => rfl
  have g9 := PySem.W.mg_of inK atG a9
  have F10 := fun_mk (st := sError) l10 c10 k10
  have b10 := F10.binds (ps := ["_law_value"]) fun _ _ _ _ _ _ us hl => match us, hl with | [_], _ => rfl
  have g10 := PySem.W.mg_of inK atG a10
  have F11 := fun_mk (st := sLaw) l11 c11 k11
  refine ⟨PySem.W.fnOf "law" "law" (defArgs sLaw) (defBody sLaw) (defScope sLaw) .none kVd11 dcd11 pmd11 and11 cdd11 ctd11, fun s v => .of_eq rfl, fun base _ _ => ?_⟩
  have I := ok_Integer (P := l.prog) (w := w) (mg := mg) (base := base) F0 T
  have N := ok_Number F1 I F0 b0 g0
  have R := ok_isRow F2 N F1 b1 g1 T
  have ME := ok_merr F3 N F1 b1 g1 R F2 b2 g2 T
  have DK := ok_deck (P := l.prog) (w := w) (mg := mg) (base := base) F4 T.abs
  have D := ok_draw (P := l.prog) (w := w) (mg := mg) (base := base) F5 T.len T.int
  have O := ok_one F6 D F5 b5 g5 T.len
  have M := ok_mach F7 D F5 b5 g5 O F6 b6 g6 T
  have BT := ok_bent F8 g8 b8 D F5 b5 g5 O F6 b6 g6 T 3
  have W := ok_Whole (P := l.prog) (w := w) (mg := mg) (base := base) F9 T
  have ER := ok_error F10 W F9 b9 g9 T
  exact ok_law F11 DK F4 b4 g4 D F5 b5 g5 M F7 b7 g7 BT F8 b8 g8 ER F10 b10 g10 ME F3 b3 g3 T
end Ver
open PySem PySem.W PyProof.Rows in
set_option maxRecDepth 100000 in
set_option maxHeartbeats 0 in
theorem PySem.Challenge.cw_sortedshelves_k10_what_are_no_machines_holds : PySem.Challenge.rw_sortedshelves_k10_what_are_no_machines.Holds := by
  w_on; o_law; k_head; (case hw => w_witness2)
  k_fill
  refine Ver.gwalk (l := PySem.Challenge.rw_sortedshelves_k10_what_are_no_machines) (n := 63) (k := 7) (x := "_law_script") (sp := fun w => Ver.spLaw _) rfl (by decide) rfl ⟨rfl, by decide, by decide⟩ (fun w h Y => PySem.W.kIn_of Y) ?F (fun _ _ a ns hl hS => ⟨a, ns, rfl, hS, hl, fun _ => rfl⟩)
  case F =>
    intro w mg fa h inK atG hmg
    refine' Ver.all_mk inK atG hmg ?a0 ?l0 ?c0 ?k0 ?a1 ?l1 ?c1 ?k1 ?a2 ?l2 ?c2 ?k2 ?a3 ?l3 ?c3 ?k3 ?a4 ?l4 ?c4 ?k4 ?a5 ?l5 ?c5 ?k5 ?a6 ?l6 ?c6 ?k6 ?a7 ?l7 ?c7 ?k7 ?a8 ?l8 ?c8 ?k8 ?a9 ?l9 ?c9 ?k9 ?a10 ?l10 ?c10 ?k10 ?a11 ?l11 ?c11 ?k11 ?z0 ?z1 ?z2 ?z3 ?z4 ?z5 ?z6 ?z7 ?z8 ?z9 ?m0 ?m1
    (case a0 => k_is)
    (case l0 => k_is)
    (case c0 => k_is)
    (case k0 => k_is)
    (case a1 => k_is)
    (case l1 => k_is)
    (case c1 => k_is)
    (case k1 => k_is)
    (case a2 => k_is)
    (case l2 => k_is)
    (case c2 => k_is)
    (case k2 => k_is)
    (case a3 => k_is)
    (case l3 => k_is)
    (case c3 => k_is)
    (case k3 => k_is)
    (case a4 => k_is)
    (case l4 => k_is)
    (case c4 => k_is)
    (case k4 => k_is)
    (case a5 => k_is)
    (case l5 => k_is)
    (case c5 => k_is)
    (case k5 => k_is)
    (case a6 => k_is)
    (case l6 => k_is)
    (case c6 => k_is)
    (case k6 => k_is)
    (case a7 => k_is)
    (case l7 => k_is)
    (case c7 => k_is)
    (case k7 => k_is)
    (case a8 => k_is)
    (case l8 => k_is)
    (case c8 => k_is)
    (case k8 => k_is)
    (case a9 => k_is)
    (case l9 => k_is)
    (case c9 => k_is)
    (case k9 => k_is)
    (case a10 => k_is)
    (case l10 => k_is)
    (case c10 => k_is)
    (case k10 => k_is)
    (case a11 => k_is)
    (case l11 => k_is)
    (case c11 => k_is)
    (case k11 => k_is)
    (case z0 => k_is)
    (case z1 => k_is)
    (case z2 => k_is)
    (case z3 => k_is)
    (case z4 => k_is)
    (case z5 => k_is)
    (case z6 => k_is)
    (case z7 => k_is)
    (case z8 => k_is)
    (case z9 => k_is)
    (case m0 => k_is)
    (case m1 => k_is)
#print axioms PySem.Challenge.cw_sortedshelves_k10_what_are_no_machines_holds
