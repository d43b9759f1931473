import PyProof.Rows.All
import Wide.All
import OpenK.AllK
import Wide.FinOn
import Lean
import HandS.ForMost
import HandS.Strs
import HandS.Conv
import HandS.TupAny
import HandS.TupMul
import HandS.Zip
import HandS.Deep
import HandS.Codes
import HandS.Wide
import HandS.IsInst
import HandS.AnyAll
import HandS.GenList
import HandS.Defaults
import HandS.Head0
import HandS.Head1
import HandS.Head2
import HandS.HeadEnd
import HandS.HeadHook1
import HandS.HeadHook2
import HandS.HeadHook4
import HandS.HeadWalk
import HandS.EndTab
import PyProof.ReprRoads
import PySem.Challenge.RW_clipforms_k71_whole_programs_refused
import HandS.JoinGen
import PyProof.GenCompT
import PyProof.WalksPairs
import PyProof.SumAny
import PyProof.NeKinds
import PyProof.NeData
import PyProof.ReprLen
import PyProof.StrOps2
import HandS.Star
import KE.KDictList
import HandS.FStr
import HandS.StrMore
import PyProof.StrLawsTight
import HandS.DictComp
import HandS.ExcInit
import HandS.ExcValue
import HandS.ExcIs
import HandS.ExcField
import HandS.NoneIn
import HandS.ExcOwn
import HandS.TryOnly
import KE.IntTextLaws
import HandS.Style
import HandS.NestedK
section
set_option Elab.async false
set_option linter.all false
set_option maxRecDepth 100000
set_option maxHeartbeats 4000000
/-! Own layer: defs that are called where no repr runs (FnG), repr of data, unions. -/
namespace Vf
open PySem PySem.Spec PyProof.Rows L2

/-- as FnOk, for calls where no repr is under way -/
structure FnG (P : Program) (w : World) (K : PySem.W.Frag) (mg : Str → Option Value) (base : Heap) (CX : CXT) (k : Nat) (f : Addr) (fd : FuncData) (ps : List Str) (sp : Sp) : Prop where
  len : ∀ vs H Q E, sp vs H Q E → vs.length = ps.length
  run : ∀ (A : Around) (outer : List Env) (s : Shared) (H : Hp) (args : Args) (us : List Value) (vs : List V) (Q : VK) (E : XK), A.guards = some [] → Room k A → Env0 P w K mg base A outer s H →
    BindsTo s fd args (ps.zip us) → Vals vs us → sp vs H Q E → codeAny (model P w) A (.call (.ref f) args) (CR CX outer P w H s Q E) s
section
variable {P : Program} {w : World} {K : PySem.W.Frag} {mg : Str → Option Value} {base : Heap} {CX : CXT} {k : Nat} {f : Addr} {fd : FuncData} {ps : List Str} {sp : Sp}
theorem FnG.of (F : FnOk P w K mg base CX k f fd ps sp) : FnG P w K mg base CX k f fd ps sp :=
  ⟨F.len, fun A outer s H args us vs Q E _ => F.run A outer s H args us vs Q E⟩
theorem deeper_guards {A : Around} {env : Env} (h : A.guards = some []) : (A.deeper env).guards = some [] := h

/-- a def's body where no repr is under way -/
theorem okG {x qual : Str} {params : Arguments} {body : List Stmt} {scope : Scope} {dvs : List V} {kws : List (Str × V)} {N : List Str}
    (F : FunD K x qual params body scope dvs kws f fd) (S : FnScope N ps scope) (len : ∀ vs H Q E, sp vs H Q E → vs.length = ps.length)
    (hbody : ∀ (cdv : Value) (hcv : fd.code = cdv) (A : Around) (outer : List Env) (s : Shared) (H : Hp) (vs : List V) (Q : VK) (E : XK), A.guards = some [] → Room k (A.deeper (envOfC qual scope s.heap.objs.size f cdv)) → sp vs H Q E →
      ∃ t, PSs (cxOf CX P w K mg base N qual scope f cdv A outer s H E) body t ∧ t { nx := fun _ H' => Q .non H', rt := Q } (start N vs) H) :
    FnG P w K mg base CX (k + 1) f fd ps sp := by
  obtain ⟨oc, od, dV, kV, doc, pm, an, cdv, ct, osl, rfl, lk, hcd, _, _⟩ := F.ex
  refine ⟨len, ?_⟩
  intro A outer s H args us vs Q E hg hr e0 hb r hsp
  have inS : K.In s.heap := e0.mod.kin.keeps (fun b o e => (e0.bs b o e).1)
  have noL : s.heap.NoLimit := e0.mod.nolimit.keeps (fun b o e => (e0.bs b o e).1)
  obtain ⟨t, ht, hq⟩ := hbody cdv rfl A outer s H vs Q E hg (hr.deeper _) hsp
  refine codeAny_call_function hr.depth (inS _ _ lk) rfl S.co S.gen rfl (PySem.W.codeRec_of inS hcd) (hb _ _ _ _ (wpAny_newFunctionEnv_cells S.kind ?_ ?_))
  · rintro ⟨n, v⟩ hy
    rcases S.par n (List.of_mem_zip hy).1 with q | q
    · exact Or.inl q
    · exact Or.inr ⟨q, PySem.W.cellsFrom_some _ _ _ (Or.inl q)⟩
  · intro env he s1 x
    subst he
    have I := inv_start (CX := CX) (E := E) (f := f) (cd := cdv) (qual := qual) S hr.hd e0 (len _ _ _ _ hsp) r x
    refine ⟨noL.keeps x.toInCall.keep, codeAny_func (wpAny_mono (ht.run [] s1 (start N vs) H _ I hq) ?_ (fun e s' hs => hs))⟩
    intro fl s' hs
    cases fl with
    | ret u =>
      obtain ⟨v, σ', H', J, rv, q⟩ := hs
      exact ⟨v, H', J.os, J.bare, J.base, J.hok, rv, q⟩
    | next =>
      obtain ⟨σ', H', J, q⟩ := hs
      exact ⟨V.non, H', J.os, J.bare, J.base, J.hok, rfl, q⟩
    | brk => exact hs.elim fun _ z => z.elim fun _ y => y.2.elim
    | cont => exact hs.elim fun _ z => z.elim fun _ y => y.2.elim
end

section
variable {X : Cx} {CX : CXT} {k : Nat} {f : Addr} {fd : FuncData} {ps : List Str} {sp : Sp} {dvs : List V} {ds : List Value} {E : XK} {x : Str} {p pos : Pos} {e : Expr} {es : List Expr} {t : TA}
/-- f(e, ..), f a def of this kind -/
theorem pe_callG (hgu : X.A.guards = some []) (F : FnG X.prog X.w X.K X.mg X.base CX k f fd ps sp) (hr : Room k X.A) (hg : Gl X x) (hm : X.mg x = some (.ref f)) (hk : PySem.W.keepIn X.K (.ref f) = true) (hb : Binds X.K fd ps ds)
    (hd : Vals dvs ds) (hx : Passes CX X E) (ha : PA X (e :: es) t) (hdb : (x == ("__debug__" : Str)) = false := by decide) (he : starEach (e :: es) X.env = (false, eval e X.env) :: starEach es X.env := by rfl)
    (hpl : (backTo pos (starEach es X.env)).any (·.1) = false := by rfl) : PE X (.Call (.Name x p) (e :: es) [] pos) (tCall sp dvs E t) := by
  refine ⟨fun pins s σ H Q I h => wpAny_Call_Name_kw (ld_glob I hg hm ?_ hdb)⟩
  refine PySem.W.callWith_K (h₀ := X.base) I.ok.mod.kin hk (thn (ha.run pos pins s σ H _ I h) ?_) he hpl
  rintro us s1 ⟨vs, H1, I1, r, q⟩
  refine ⟨I1.kIn, ?_⟩
  have r2 : Vals (vs ++ dvs) (us ++ ds) := r.append hd
  have hl : (us ++ ds).length = ps.length := by rw [← r2.length]; exact F.len _ _ _ _ q
  refine wpAny_call (codeAny_mono (F.run X.A X.stack s1 H1 ⟨us, []⟩ (us ++ ds) (vs ++ dvs) Q E hgu hr I1.env0 (hb s1 us I1.kIn hl) r2 q) ?_)
  intro r s' hq
  cases r with
  | error e => exact hx pins σ H1 s1 e s' I1 hq
  | ok fl =>
    cases fl with
    | ret u => exact I1.after hq
    | next => exact hq.elim
    | brk => exact hq.elim
    | cont => exact hq.elim

end
/-! ### data, empty dicts too -/
mutual
inductive Dd (K : PySem.W.Frag) (H : Hp) : V → PyData → Prop
  | non : Dd K H .non .none
  | bl (b : Bool) : Dd K H (.bl b) (.bool b)
  | int (i : Int) : Dd K H (.int i) (.int i)
  | str (x : Str) : Dd K H (.str x) (.str x)
  | lst {a : Addr} {xs : List V} {ds : List PyData} : SqL K H a xs → DdAll K H xs ds → Dd K H (.ref a) (.list ds)
  | tup {a : Addr} {xs : List V} {ds : List PyData} : SqT K H a xs → DdAll K H xs ds → Dd K H (.ref a) (.tuple ds)
  | dct {a : Addr} : H a = some (.dK []) → Dd K H (.ref a) (.dict [])
inductive DdAll (K : PySem.W.Frag) (H : Hp) : List V → List PyData → Prop
  | nil : DdAll K H [] []
  | cons {v : V} {vs : List V} {d : PyData} {ds : List PyData} : Dd K H v d → DdAll K H vs ds → DdAll K H (v :: vs) (d :: ds)
end
mutual
/-- no list within -/
def noLst : PyData → Bool
  | .list _ => false
  | .tuple ds => noLstA ds
  | _ => true
def noLstA : List PyData → Bool
  | [] => true
  | d :: ds => noLst d && noLstA ds
end
section
variable {X : Cx} {pins : List (Addr × Obj)} {σ : L2.St} {H : Hp} {s : Shared}
mutual
theorem Dd.reads (I : Inv X pins σ H s) : ∀ (d : PyData) (v : V) (u : Value), Dd X.K H v d → RelV v u → ∃ as, Reads s.heap u d as ∧ (noLst d = true → sysModules ∉ as)
  | .none, _, _, h, r => by
    cases h; cases r
    exact ⟨_, Reads.none, fun _ => by simp⟩
  | .bool b, _, _, h, r => by
    cases h; cases r
    exact ⟨_, Reads.bool b, fun _ => by simp⟩
  | .int i, _, _, h, r => by
    cases h
    obtain ⟨t, rfl⟩ := r
    exact ⟨_, Reads.int i t, fun _ => by simp⟩
  | .str x, _, _, h, r => by
    cases h
    obtain ⟨t, rfl⟩ := r
    exact ⟨_, Reads.str x t, fun _ => by simp⟩
  | .list ds, _, _, h, r => by
    cases h with
    | lst hs ha =>
      cases r
      obtain ⟨its, rv, ⟨o, n, ho, hc, _, hd⟩, _⟩ := I.list hs
      obtain ⟨as, hr, _⟩ := DdAll.reads I ds _ its ha rv
      exact ⟨_, Reads.list ho hc hd hr, fun z => by simp [noLst] at z⟩
  | .tuple ds, _, _, h, r => by
    cases h with
    | tup hs ha =>
      cases r
      obtain ⟨its, rv, ⟨o, ho, hc, n, hd⟩, _⟩ := I.tuple hs
      obtain ⟨as, hr, hn⟩ := DdAll.reads I ds _ its ha rv
      exact ⟨_, Reads.tuple ho hc hd hr, fun z => hn (by simpa [noLst] using z)⟩
  | .dict kvs, _, _, h, r => by
    cases h with
    | dct hs =>
      cases r
      obtain ⟨_, hne, vs, kv, hd⟩ := I.hok _ _ hs
      cases kv
      obtain ⟨o, es, ep, ho, hx, hda, _, hp, _⟩ := hd
      have e0 : es.toList = [] := by
        generalize es.toList = l at hp
        cases hp
        rfl
      refine ⟨_, Reads.dict (kvs := []) ho hx.1 hda (by rw [e0]; exact ReadsAll.nil) (by rw [e0]; exact ReadsAll.nil), fun _ z => ?_⟩
      simp at z
      rw [← z] at hne
      simp at hne
theorem DdAll.reads (I : Inv X pins σ H s) : ∀ (ds : List PyData) (vs : List V) (us : List Value), DdAll X.K H vs ds → Vals vs us → ∃ as, ReadsAll s.heap us ds as ∧ (noLstA ds = true → sysModules ∉ as)
  | [], _, _, h, r => by
    cases h; cases r
    exact ⟨_, ReadsAll.nil, fun _ => by simp⟩
  | d :: ds, _, _, h, r => by
    cases h with
    | cons h1 h2 =>
      cases r with
      | cons r1 r2 =>
        obtain ⟨as, q1, n1⟩ := Dd.reads I d _ _ h1 r1
        obtain ⟨bs, q2, n2⟩ := DdAll.reads I ds _ _ h2 r2
        refine ⟨_, ReadsAll.cons q1 q2, fun z => ?_⟩
        simp only [noLstA, Bool.and_eq_true] at z
        intro m
        rcases List.mem_append.mp m with m | m
        · exact n1 z.1 m
        · exact n2 z.2 m
end
/-- repr(x) of data -/
theorem call_reprD (hgu : X.A.guards = some []) (hu : X.A.units + 64 < cLine) : CallR X (.builtin "repr") (fun xs H Q => ∃ v d, xs = [v] ∧ Dd X.K H v d ∧ d.showable = true ∧ (d.hasDict = true → noLst d = true) ∧ d.depth < 60 ∧ d.shown.length ≤ sizeLine ∧ Q (.str d.shown) H) := by
  intro pins s σ H xs us Q I r h
  obtain ⟨v, d, rfl, hd, hs, hdd, hdp, hz, q⟩ := h
  obtain ⟨u, rfl, rv⟩ := vals1 r
  have fin : ∀ a as, u = .ref a → Reads s.heap (.ref a) d as → (noLst d = true → sysModules ∉ as) → wpAny (model X.prog X.w) X.A (call (.builtin "repr") [u]) (EP X pins σ Q) X.xe s := by
    rintro a as rfl rd hn
    refine PySem.repr_of_reads' rd hs (fun z => hn (hdd z)) hgu (by omega) (fun _ _ e => e) (fun h' u tk k => ?_) hz
    exact ⟨.str d.shown, H, I.kept k, ⟨_, rfl⟩, q⟩
  cases hd with
  | non => cases rv; exact PySem.P.repr_of_none ⟨.str _, H, I.tok _, ⟨_, rfl⟩, q⟩
  | bl b => cases rv; exact PySem.P.repr_of_bool ⟨.str _, H, I.tok _, ⟨_, rfl⟩, q⟩
  | int i => obtain ⟨t, rfl⟩ := rv; exact PySem.P.repr_of_int (by simpa [PyData.showable] using hs) ⟨.str _, H, I.tok _, ⟨_, rfl⟩, q⟩
  | str y => obtain ⟨t, rfl⟩ := rv; exact PySem.P.repr_of_str ⟨.str _, H, I.tok _, ⟨_, rfl⟩, q⟩ hz
  | lst h1 h2 =>
    obtain ⟨as, rd, hn⟩ := Dd.reads I _ _ _ (Dd.lst h1 h2) rv
    cases rv
    exact fin _ as rfl rd hn
  | tup h1 h2 =>
    obtain ⟨as, rd, hn⟩ := Dd.reads I _ _ _ (Dd.tup h1 h2) rv
    cases rv
    exact fin _ as rfl rd hn
  | dct h1 =>
    obtain ⟨as, rd, hn⟩ := Dd.reads I _ _ _ (Dd.dct h1) rv
    cases rv
    exact fin _ as rfl rd hn
end
end Vf
end
section
set_option Elab.async false
set_option linter.all false
set_option maxRecDepth 100000
set_option maxHeartbeats 4000000
/-! The end of a law's row whose law is such a def. -/
namespace Vf
open PySem PySem.Spec PyProof.Rows L2 GxR
section
variable {P : Program} {w : World} {K : PySem.W.Frag} {mg mb : Str → Option Value} {CX : CXT} {k : Nat} {fa a : Addr} {cs : List (Addr × Addr)} {fd : FuncData} {x : Str} {sp : Sp} {s₁ : Shared} {vs : List Value} {ns : List Int}

/-- the script's own object -/
abbrev lo (vs : List Value) : Obj := { cls := .type "list", data := .seq vs.toArray }
/-- what is tracked where the law is called -/
def H1st (K : PySem.W.Frag) (T : List Addr) (a : Addr) (vs : List Value) (ns : List Int) : Hp := fun b =>
  if b ∈ T then some (.tbl #[]) else if b = a ∧ K.lookup a = none then some (.frz (lo vs) (.lst (ns.map V.int))) else none
theorem H1st_tab {T : List Addr} {b : Addr} (h : b ∈ T) : H1st K T a vs ns b = some (.tbl #[]) := if_pos h
theorem H1st_cases (T : List Addr) (b : Addr) : (b ∈ T ∧ H1st K T a vs ns b = some (.tbl #[])) ∨ (b ∉ T ∧ b = a ∧ K.lookup a = none ∧ H1st K T a vs ns b = some (.frz (lo vs) (.lst (ns.map V.int)))) ∨ (b ∉ T ∧ H1st K T a vs ns b = none) := by
  unfold H1st
  by_cases h1 : b ∈ T
  · exact Or.inl ⟨h1, if_pos h1⟩
  · by_cases h2 : b = a ∧ K.lookup a = none
    · exact Or.inr (Or.inl ⟨h1, h2.1, h2.2, by rw [if_neg h1, if_pos h2]⟩)
    · exact Or.inr (Or.inr ⟨h1, by rw [if_neg h1, if_neg h2]⟩)

theorem law_callG (inK : K.In s₁.heap) (gl : s₁.heap.Ns mainGlobals mg) (bl : s₁.heap.Ns builtinsNs mb) (bb : ∀ x : Str, x ≠ "__name__" → mb x = bootBuiltins x) (nl : s₁.heap.NoLimit) (ge : s₁.gens = #[])
    (tE : ∀ p ∈ cs, s₁.heap.get? p.2 = some { cls := .none, data := .fields #[] }) (tK : ∀ p ∈ cs, K.lookup p.2 = none) (cH : ∀ p ∈ cs, PySem.W.CodeHd s₁.heap p.1 p.2)
    (bM : ∃ (bm : Addr) (ob : Obj), mg "__builtins__" = some (.ref bm) ∧ bm ≠ builtinsNs ∧ s₁.heap.get? bm = some ob ∧ ob.cls = .type "module" ∧ ob.dict = some builtinsNs ∧ ob.data = .plain)
    (aL : s₁.heap.get? a = some (lo vs)) (iA : IntsAre vs ns) (nz : ns.length ≤ sizeLine) (hr : Room k callerA)
    (F : ∀ base : Heap, K.In base → base.Ns mainGlobals mg → (∀ p ∈ cs, TabB base mg p.1 p.2) → FnG P w K mg base CX k fa fd [x] sp) (bnd : ∀ (s : Shared) (u : Value), BindsTo s fd ⟨[u], []⟩ [(x, u)])
    (hsp : ∀ H : Hp, (∀ p ∈ cs, H p.2 = some (.tbl #[])) → (∀ b, H b = none ∨ b ∈ cs.map (·.2) ∨ b = a) → SqL K H a (ns.map V.int) → sp [.ref a] H (fun v _ => v = .bl true) fun _ _ _ => False)
    (nX : ∀ H e s', CX [] H s₁ (fun _ _ _ => False) e s' → False) :
    codeAny (model P w) callerA (.call (.ref fa) ⟨[.ref a], []⟩) (fun r s' => r = .ok (.ret (.bool true)) ∧ OldK s₁.heap s'.heap ∧ s'.os = s₁.os ∧ AllBare s'.gens) s₁ := by
  have vl := vals_ints iA
  have ln := iA.length
  generalize eT : cs.map (·.2) = T at hsp
  have inT : ∀ p ∈ cs, p.2 ∈ T := fun p hp => eT ▸ List.mem_map.mpr ⟨p, hp, rfl⟩
  have ofT : ∀ b ∈ T, ∃ p ∈ cs, p.2 = b := fun b hb => by
    rw [← eT] at hb
    exact List.mem_map.mp hb
  have tO : ∀ b ∈ T, s₁.heap.get? b = some { cls := .none, data := .fields #[] } := fun b hb => by
    obtain ⟨p, hp, rfl⟩ := ofT b hb
    exact tE p hp
  have aT : a ∉ T := fun z => by
    have q := tO a z
    rw [aL] at q
    exact nomatch congrArg Obj.data (Option.some.inj q)
  generalize eH : H1st K T a vs ns = H
  have cas := fun b => eH ▸ H1st_cases (K := K) (a := a) (vs := vs) (ns := ns) T b
  have hT : ∀ b ∈ T, H b = some (.tbl #[]) := fun b hb => eH ▸ H1st_tab hb
  -- an object that is neither a list nor an empty record is not tracked
  have plainO : ∀ {b : Addr} {o : Obj}, s₁.heap.get? b = some o → (∀ ys m, o.data ≠ .seq ys m) → o.data ≠ .fields #[] → H b = none := by
    intro b o e h1 h2
    rcases cas b with ⟨hb, _⟩ | ⟨_, rfl, _, _⟩ | ⟨_, h⟩
    · rw [tO b hb] at e
      exact (h2 (Option.some.inj e ▸ rfl)).elim
    · rw [aL] at e
      cases e
      exact (h1 _ _ rfl).elim
    · exact h
  have nsT : ∀ {b : Addr} {m : Str → Option Value}, s₁.heap.Ns b m → (hidT s₁.heap H).Ns b m := by
    rintro b m ⟨o, es, ep, e, d, r⟩
    exact ⟨o, es, ep, hidT_get e (plainO e (fun ys m z => nomatch d.symm.trans z) fun z => nomatch d.symm.trans z), d, r⟩
  have inB : K.In (hidT s₁.heap H) := fun b o e => by
    refine hidT_get (inK b o e) ?_
    rcases cas b with ⟨hb, _⟩ | ⟨_, rfl, h, _⟩ | ⟨_, h⟩
    · obtain ⟨p, hp, rfl⟩ := ofT b hb
      exact nomatch (tK p hp).symm.trans e
    · exact nomatch h.symm.trans e
    · exact h
  have M : L2.Mod K mg (hidT s₁.heap H) := by
    refine ⟨inB, nsT gl, ⟨mb, nsT bl, bb⟩, ?_⟩
    obtain ⟨mc, h1, h2⟩ := nl
    exact ⟨mc, nsT h1, h2⟩
  have TB : ∀ p ∈ cs, TabB (hidT s₁.heap H) mg p.1 p.2 := by
    intro p hp
    refine ⟨?_, ?_, ?_⟩
    · obtain ⟨o, us, file, tf, flags, tg, inF, text, tt, e1, r1, r2, r3, rest⟩ := cH p hp
      exact ⟨o, us, file, tf, flags, tg, inF, text, tt, hidT_get e1 (plainO e1 (fun ys m z => nomatch r2.symm.trans z) fun z => by
        rw [r2] at z
        injection z with z
        rw [z] at r3
        simp at r3), r1, r2, r3, rest⟩
    · obtain ⟨bm, ob, b1, b2, b3, b4, b5, b6⟩ := bM
      have d1 : ∀ ys m, ob.data ≠ .seq ys m := fun ys m z => nomatch b6.symm.trans z
      have d2 : ob.data ≠ .fields #[] := fun z => nomatch b6.symm.trans z
      refine ⟨bm, ob, b1, b2, ?_, ?_, hidT_get b3 (plainO b3 d1 d2), b4, b5, b6⟩
      · rintro rfl
        obtain ⟨o, es, ep, e, hd, _⟩ := gl
        rw [b3] at e
        rw [Option.some.inj e] at b6
        exact nomatch hd.symm.trans b6
      · rintro rfl
        rw [tE p hp] at b3
        exact d2 (Option.some.inj b3 ▸ rfl)
    · intro z
      obtain ⟨o, es, ep, e, hd, _⟩ := gl
      rw [z, tE p hp] at e
      rw [← Option.some.inj e] at hd
      exact nomatch hd
  have ok : HOk P w H s₁.heap := fun b u e => by
    rcases cas b with ⟨hb, h⟩ | ⟨_, rfl, _, h⟩ | ⟨_, h⟩
    · rw [h] at e
      cases e
      exact tO b hb
    · rw [h] at e
      cases e
      exact ⟨aL, by rw [List.length_map]; exact nz, vs, _, vl, aL⟩
    · rw [h] at e
      cases e
  have SQ : SqL K H a (ns.map V.int) := by
    rcases cas a with ⟨hb, _⟩ | ⟨_, _, _, h⟩ | ⟨_, h⟩
    · exact (aT hb).elim
    · exact Or.inl (Or.inr ⟨_, h⟩)
    · cases q : K.lookup a with
      | none =>
        rw [← eH] at h
        unfold H1st at h
        rw [if_neg aT, if_pos ⟨rfl, q⟩] at h
        cases h
      | some o =>
        have e := inK a o q
        rw [aL] at e
        cases e
        exact Or.inr ⟨_, vs.toArray, _, q, rfl, rfl, rfl, by rw [List.size_toArray, ln]; exact nz, by simpa using vl⟩
  have E0 : Env0 P w K mg (hidT s₁.heap H) callerA [] s₁ H := ⟨rfl, M, fun b o e => of_hidT e, Nat.le_of_eq (hidT_size _ _), trivial, fun b hb => absurd (show b ∈ ([] : List Addr) from hb) (by simp), ok, AllBare.of_eq ge⟩
  have go := (F _ inB (nsT gl) TB).run callerA [] s₁ H ⟨[.ref a], []⟩ [.ref a] [.ref a] _ _ rfl hr E0 (bnd s₁ (.ref a)) (.cons rfl .nil) (hsp H (fun p hp => hT _ (inT p hp)) (fun b => by
    rcases cas b with ⟨hb, _⟩ | ⟨_, h, _, _⟩ | ⟨_, h⟩
    · exact Or.inr (Or.inl hb)
    · exact Or.inr (Or.inr h)
    · exact Or.inl h) SQ)
  refine codeAny_mono go ?_
  intro r s' h
  cases r with
  | error e => exact (nX H e s' h).elim
  | ok fl =>
    cases fl with
    | next => exact h.elim
    | brk => exact h.elim
    | cont => exact h.elim
    | ret u =>
      obtain ⟨v, H', os, bare, un, ok', r', q⟩ := h
      cases (show v = .bl true from q)
      cases (show u = Value.bool true from r')
      have same : ∀ b o, b ∉ T → s₁.heap.get? b = some o → s'.heap.get? b = some o := by
        intro b o nb e
        rcases cas b with ⟨hb, _⟩ | ⟨_, rfl, _, h⟩ | ⟨_, h⟩
        · exact (nb hb).elim
        · rw [aL] at e
          cases e
          exact (ok' b _ (un.frzs b _ _ h)).1
        · exact un.keep b o e h (fun z => absurd (show b ∈ ([] : List Addr) from z) (by simp)) (by simp)
      have grew : ∀ b ∈ T, ∃ more : Array Value, s'.heap.get? b = some { cls := .none, data := .fields more } := fun b hb => by
        obtain ⟨more, z⟩ := un.tbls b #[] (hT b hb)
        exact ⟨_, ok' b _ z⟩
      refine ⟨rfl, ⟨?_, ?_⟩, os, bare⟩
      · intro b o e
        by_cases hb : b ∈ T
        · obtain ⟨more, hm⟩ := grew b hb
          rw [tO b hb] at e
          cases e
          obtain ⟨p, hp, rfl⟩ := ofT b hb
          exact Or.inr (Or.inl ⟨((cH p hp).tab (tE p hp)).isCodeTable, rfl, #[], more, rfl, by rw [Array.empty_append]; exact hm⟩)
        · exact Or.inl (same b o hb e)
      · intro b o e
        by_cases hb : b ∈ T
        · obtain ⟨more, hm⟩ := grew b hb
          exact ⟨_, hm⟩
        · exact ⟨o, same b o hb e⟩
end
/-- what is known of the law at the head's heap -/
def LawAtG (l : PySem.W.OpenLaw) (w : World) (K : PySem.W.Frag) (CX : CXT) (k n : Nat) (x : Str) (mg : Str → Option Value) (fa : Addr) (h : Heap) : Prop :=
  ∃ (fd : FuncData) (cs : List (Addr × Addr)) (sp : Sp), (∀ p ∈ cs, h.get? p.2 = some { cls := .none, data := .fields #[] }) ∧ (∀ p ∈ cs, K.lookup p.2 = none) ∧ (∀ p ∈ cs, PySem.W.CodeHd h p.1 p.2) ∧
    (∀ (s : Shared) (u : Value), BindsTo s fd ⟨[u], []⟩ [(x, u)]) ∧
    (∀ (H : Hp) (a : Addr) (ns : List Int), ns.length ≤ n → (∀ z ∈ ns, Builtin.Int.intBits z ≤ 1048576) → (∀ p ∈ cs, H p.2 = some (.tbl #[])) → (∀ b, H b = none ∨ b ∈ cs.map (·.2) ∨ b = a) → SqL K H a (ns.map V.int) →
      sp [.ref a] H (fun v _ => v = .bl true) fun _ _ _ => False) ∧
    ∀ base : Heap, K.In base → base.Ns mainGlobals mg → (∀ p ∈ cs, TabB base mg p.1 p.2) → FnG l.prog w K mg base CX k fa fd [x] sp
theorem walkG {l : PySem.W.OpenLaw} {n k : Nat} {q : Program} {loose : List Str} {XP : (Str → Option Value) → Heap → Prop} {YP : World → Heap → Prop} {d : DefRec} {CX : World → CXT} {x : Str}
    (hn : l.most = some n) (n2 : n ≤ sizeLine) (nd : d.params.defaults = []) (hr : Room k callerA)
    (F : ∀ (w : World) (mg : Str → Option Value) (fa : Addr) (h : Heap), YP w h → h.Ns mainGlobals mg → mg d.name = some (.ref fa) → ∃ K : PySem.W.Frag, K.In h ∧ LawAtG l w K (CX w) k n x mg fa h)
    (nX : ∀ (w : World) (H : Hp) (s : Shared) (e : Value) (s' : Shared), CX w [] H s (fun _ _ _ => False) e s' → False) :
    PySem.W.WalkO q loose XP YP l.row.toRowW d [] (fun f vs => PySem.call f vs) := by
  refine Att.attach_callB hn nd ?_
  intro w s₀ s₁ mg mb fa o pm cd doc a vs ns G Y ho hd hcd hmg hobj hints hlen hbits hg
  obtain ⟨K, KX, fd, cs, sp, h1, h2, h3, h4, h5, h6⟩ := F w mg fa _ Y G.T.g hmg
  exact law_callG KX G.T.g G.T.b G.T.builtins G.T.nolimit hg h1 h2 h3 G.T.bmain hobj hints (Nat.le_trans hlen n2) hr h6 h4 (fun H hH hO hS => h5 H a ns hlen hbits hH hO hS) fun H e s' => nX w H s₁ e s'
end Vf
end
section
set_option Elab.async false
set_option linter.all false
set_option maxRecDepth 100000
set_option maxHeartbeats 4000000
/-! any, all of a generator expression whose element may call defs. -/
namespace Vf
open PySem PySem.Spec PyProof.Rows L2 GxR

/-- a generator expression's own names, over the names N of the def around (scope sc): own, the slots that it hides -/
structure GOk (N : List Str) (sc scope : Scope) (x : Str) (own : List Nat) : Prop where
  kind : scope.kind = .function
  co : scope.isCoroutine = false
  cell : ∀ y ∈ scope.names, y.2 ≠ .cell
  dot : scope.names.lookup (".0" : Str) = some NameKind.local
  loc : scope.names.lookup x = some .local
  free : ∀ y ∈ scope.names, y.2 = .free → sc.names.lookup y.1 = some .cell ∨ sc.names.lookup y.1 = some .free
  own : ∀ p ∈ N.zipIdx, scope.names.lookup p.1 = some .local → p.2 ∈ own
def gokB (N : List Str) (sc scope : Scope) (x : Str) (own : List Nat) : Bool :=
  (match scope.kind with | .function => true | _ => false) && !scope.isCoroutine && scope.names.all (fun y => decide (y.2 ≠ .cell)) && decide (scope.names.lookup (".0" : Str) = some NameKind.local) && decide (scope.names.lookup x = some .local) &&
  scope.names.all (fun y => decide (y.2 ≠ .free) || decide (sc.names.lookup y.1 = some .cell) || decide (sc.names.lookup y.1 = some .free)) &&
  N.zipIdx.all (fun p => decide (scope.names.lookup p.1 ≠ some .local) || own.contains p.2)
theorem gok_by {N : List Str} {sc scope : Scope} {x : Str} {own : List Nat} (h : gokB N sc scope x own = true) : GOk N sc scope x own := by
  unfold gokB at h
  simp only [Bool.and_eq_true, List.all_eq_true, decide_eq_true_eq, Bool.or_eq_true, Bool.not_eq_true'] at h
  obtain ⟨⟨⟨⟨⟨⟨h1, h2⟩, h3⟩, h4⟩, h5⟩, h6⟩, h7⟩ := h
  refine ⟨?_, h2, h3, h4, h5, fun y hy e => ?_, fun p hp e => ?_⟩
  · split at h1
    · assumption
    · cases h1
  · rcases h6 y hy with (q | q) | q
    · exact absurd e q
    · exact Or.inl q
    · exact Or.inr q
  · rcases h7 p hp with q | q
    · exact absurd e q
    · exact List.contains_iff_mem.mp q

/-- the frame of the generator while it runs: A around it, s and H where it was made, fp its iterator's objects -/
abbrev gcx (X : Cx) (A : Around) (s : Shared) (H : Hp) (genv : Env) (fp : List Addr) : Cx :=
  { X with A := A, s_0 := s, H_0 := H, env := genv, outer := X.stack, stack := genv :: X.stack, ex := fp, fn := fun _ => false, calm := true, pn := [], xe := fun _ _ => False }

theorem over_comp {A : Around} {elt tg iter : Expr} {ifs : List Expr} {scope : Scope} {pos : Pos} {it acc : Value} {env : Env} :
    A.over (.compLoop (.GeneratorExp elt [⟨tg, iter, ifs, 0⟩] scope pos) 0 it acc env) [] = A.deeper env := by
  first
    | rfl
    | (obtain ⟨hd, d, fr, gs, u⟩ := A; simp [Around.over, Around.deeper, marksOver, frameCount, unitsOf, envsOf, guardsOf, pushEnvs, pushGuards, Code.envs, Code.env?, Code.isFrame, Code.guards, Code.isGuard, Code.weight, Code.frames, Code.isCreation, Code.isCaller, Code.cUnits])
theorem over_start {A : Around} {elt tg iter : Expr} {ifs : List Expr} {scope : Scope} {pos : Pos} {it acc : Value} {env : Env} :
    A.over (.compStart (.GeneratorExp elt [⟨tg, iter, ifs, 0⟩] scope pos) 0 it acc env) [] = A.deeper env := by
  first
    | rfl
    | (obtain ⟨hd, d, fr, gs, u⟩ := A; simp [Around.over, Around.deeper, marksOver, frameCount, unitsOf, envsOf, guardsOf, pushEnvs, pushGuards, Code.envs, Code.env?, Code.isFrame, Code.guards, Code.isGuard, Code.weight, Code.frames, Code.isCreation, Code.isCaller, Code.cUnits])

section
variable {X : Cx} {pins : List (Addr × Obj)} {σ : L2.St} {H : Hp} {s : Shared}

/-- the generator's frame as it is made -/
theorem gen_start {A : Around} {scope : Scope} {x : Str} {own : List Nat} {fp : List Addr} {it : Value} {code : Value} {h' h5 : Heap} {g5 : Array GenState} {t5 : Nat} {go : Obj} {a : Addr}
    (hA : A.handled = none) (hAf : A.frames = some (genEnv scope (cloFrom X.env.cells scope.names []) s.heap.objs.size code builtinsNs X.env :: X.stack))
    (I : Inv X pins σ H s) (ok : GOk X.N X.env.scope scope x own) (hfp : ∀ b ∈ fp, FpOk X pins H b ∧ b < s.heap.objs.size)
    (k5 : ∀ b o, s.heap.get? b = some o → h5.get? b = some o) (n5 : h5.Ns s.heap.objs.size (fun y => if y = (".0" : Str) then some it else none)) (b5 : AllBare g5)
    (ha : s.heap.objs.size < a) (ga : h5.get? a = some go) (gd : ∀ v, go.data ≠ .cell v) :
    Inv (gcx X A s H (genEnv scope (cloFrom X.env.cells scope.names []) s.heap.objs.size code builtinsNs X.env) fp) [(a, go)] (wipe σ own) H { s with heap := h5, gens := g5, toks := t5 } := by
  have hfree : ∀ y, (y, NameKind.free) ∈ scope.names → ∃ c, X.env.cells.lookup y = some c := fun y hy => by
    rcases ok.free _ hy rfl with k | k
    · exact I.ok.has _ (.inl k)
    · exact I.ok.has _ (.inr k)
  have cm : ∀ {y c}, (y, c) ∈ cloFrom X.env.cells scope.names [] → X.env.cells.lookup y = some c := fun {y c} hm => by
    rcases cloFrom_mem hm with hm | ⟨h1, rfl⟩
    · cases hm
    · obtain ⟨c, hc⟩ := hfree _ h1
      rw [hc]; rfl
  have cl : ∀ {y c}, (cloFrom X.env.cells scope.names []).lookup y = some c → X.env.cells.lookup y = some c := fun {y c} e => cm (PySem.mem_of_lookup e)
  have lk : ∀ {y}, scope.names.lookup y = some .free → ∃ c, (cloFrom X.env.cells scope.names []).lookup y = some c ∧ X.env.cells.lookup y = some c := fun {y} hl => by
    obtain ⟨c', e'⟩ := mem_lookup (cloFrom_has (cells := X.env.cells) (acc := []) (PySem.mem_of_lookup hl))
    exact ⟨c', e', cl e'⟩
  have nC : ∀ b, b ∈ fp → b ≠ s.heap.objs.size := fun b hb => Nat.ne_of_lt (hfp b hb).2
  refine ⟨⟨I.ok.mod, ok.kind, I.ok.glob, rfl, Nat.le_refl _, fun y z c e1 e2 => I.ok.inj y z c (cl e1) (cl e2), fun y hy => ?_, fun y c e => Bool.noConfusion (show false = true from e), fun _ => hA, hAf, .inr ⟨rfl, rfl⟩, fun b hb => ⟨nC b hb, fun y c e z => ?_⟩, I.bs,
      Nat.le_trans I.ok.bsz I.sz, fun b o e hb => ?_, fun b hb z => ?_, I.stack, I.stkFree⟩, rfl, b5, Un.kept k5, ⟨_, n5, fun i y v e1 e2 e3 => ?_⟩, fun y c e => ?_, I.hok.fresh (Nat.le_refl _), fun y c e => I.freeC y c (cl e), fun p hp => ?_, I.hok.kept k5, by rw [wipe_length]; exact I.len⟩
  · have hy : scope.names.lookup y = some .cell ∨ scope.names.lookup y = some .free := hy
    rcases hy with hy | hy
    · exact absurd rfl (ok.cell _ (PySem.mem_of_lookup hy))
    · obtain ⟨c, h1, _⟩ := lk hy
      exact ⟨c, h1⟩
  · exact (hfp b hb).1.2.2.2.2.1 y c (cl e) z
  · rcases (hfp b hb).1.2.2.2.1 with z | z
    · exact I.ok.noex b o e z
    · exact absurd (Nat.lt_of_lt_of_le (Heap.lt_size e) (Nat.le_trans I.ok.bsz z)) (Nat.lt_irrefl _)
  · rcases List.mem_cons.mp (I.stkSub b z) with z | z
    · exact (hfp b hb).1.2.1 z
    · exact (hfp b hb).1.2.2.1 z
  · obtain ⟨e2, hne⟩ := wipe_some e2
    have e3 : scope.names.lookup y = some .local ∨ scope.names.lookup y = some .cell ∨ scope.names.lookup y = some .free := e3
    have e1' : X.N[i]? = some y := e1
    rcases e3 with e3 | e3 | e3
    · have hm : (y, i) ∈ X.N.zipIdx := by
        rw [List.mem_zipIdx_iff_getElem?]
        exact e1'
      exact absurd (ok.own _ hm e3) hne
    · exact absurd rfl (ok.cell _ (PySem.mem_of_lookup e3))
    · obtain ⟨m, hn, hl⟩ := I.loc
      have hsc := ok.free _ (PySem.mem_of_lookup e3) rfl
      obtain ⟨u, r, q⟩ := hl i y v e1' e2 (hsc.elim (fun k => .inr (.inl k)) fun k => .inr (.inr k))
      obtain ⟨c, h1, h2⟩ := lk e3
      refine ⟨u, r, .inr ⟨.inr e3, c, h1, ?_⟩⟩
      rcases q with ⟨k, _⟩ | ⟨_, c', e', z⟩
      · have k : X.env.scope.names.lookup y = some .local := k
        rcases hsc with k' | k' <;> (have k' : X.env.scope.names.lookup y = _ := k'; rw [k] at k'; cases k')
      · rw [h2] at e'; cases e'
        exact z.keeps k5
  · obtain ⟨v, z⟩ := I.cell y c (cl e)
    exact ⟨v, z.keeps k5⟩
  · have hp : p ∈ ([] : List (Addr × Obj)) ++ [(a, go)] := hp
    simp only [List.nil_append, List.mem_singleton] at hp
    subst hp
    refine ⟨ga, I.hok.fresh (Nat.le_of_lt ha), Nat.ne_of_gt ha, fun z => ?_, gd⟩
    have z : a ∈ frs X.stack := z
    rcases List.mem_cons.mp (I.stkSub a z) with z | z
    · have := I.lt
      rw [← z] at this
      exact absurd (Nat.lt_trans this ha) (Nat.lt_irrefl _)
    · exact I.nofs (Nat.le_of_lt ha) z
end
end Vf
end
section
set_option Elab.async false
set_option linter.all false
set_option maxRecDepth 100000
set_option maxHeartbeats 4000000
namespace Vf
open PySem PySem.Spec PyProof.Rows L2 GxR

/-- while the generator sleeps nothing happens to the heap -/
structure Slp (s s' : Shared) : Prop where
  os : s'.os = s.os
  bare : AllBare s'.gens
  heap : s'.heap = s.heap
theorem Inv.slp {X : Cx} {pins : List (Addr × Obj)} {σ : L2.St} {H : Hp} {s s' : Shared} (I : Inv X pins σ H s) (z : Slp s s') : Inv X pins σ H s' := by
  obtain ⟨h1, h2, h3⟩ := z
  exact I.call' (ch := []) h1 (by rw [h3]; exact Un.refl) (by rw [h3]; exact I.hok) h2 (fun b hb => absurd hb (by simp))

/-- what the turns of an any (cont false), an all (cont true) are to reach -/
def Turns (cont : Bool) (j : Nat) (σ0 : L2.St) (tt : TT) (te : TE) (J : It) (Q : VK) (W : Nat → Nat → Hp → Prop) : Prop :=
  ∀ i m H, W i m H → (J.stop i H ∧ Q (.bl cont) H) ∨ (J.go i H ∧ ∃ Nx : Hp → Prop, (∀ H', Nx H' → ∃ m', m' < m ∧ W (i + 1) m' H') ∧ ∀ y H', J.yld i H y H' →
    tt (σ0.set j (some y)) H' fun b H3 => if b = true then te (σ0.set j (some y)) H3 fun z H4 => ∃ c, z = .bl c ∧ (if c = cont then Nx H4 else Q (.bl (!cont)) H4) else Nx H3)
def GPr (Xg : Cx) (pin : List (Addr × Obj)) (σ0 : L2.St) (Q : VK) (cont : Bool) : Protocol := fun n s₀ v s kap =>
  ∃ c H, v = .bool c ∧ Inv Xg pin σ0 H s ∧ (if c = cont then ∀ s', Slp s s' → kap (.send .none) s' else Q (.bl (!cont)) H)
def GRe (Xg : Cx) (pin : List (Addr × Obj)) (σ0 : L2.St) (Q : VK) (cont : Bool) : GenEnd := fun n s₀ r s => r = .ok .next ∧ ∃ H, Inv Xg pin σ0 H s ∧ Q (.bl cont) H

section
variable {Xg : Cx} {A : Around} {elt iter : Expr} {ifs : List Expr} {x : Str} {px : Pos} {scope : Scope} {pos : Pos} {it : Addr} {fp : List Addr} {tn : Nat → Heap → Prop} {J : It} {pin : List (Addr × Obj)} {j : Nat} {tt : TT} {te : TE} {σ0 : L2.St}
  {Q : VK} {W : Nat → Nat → Hp → Prop} {cont : Bool}
theorem seg_gl (hc : Xg.calm = true) (hov : A.deeper Xg.env = Xg.A) (T : Turn Xg.prog Xg.w Xg.K (.Name x px) J fp it tn) (hpn : Xg.pn = []) (hex : Xg.ex = fp) (hpin : ∀ p ∈ pin, p.1 ∉ fp)
    (pg : PG Xg (.Name x px) (gName j)) (pt : PTs Xg ifs tt) (pe : PE Xg elt te) (h0 : ∀ v, σ0[j]? ≠ some (some v)) (hco : Xg.env.scope.isCoroutine = false) (hxe : Xg.xe = fun _ _ => False) (tu : Turns cont j σ0 tt te J Q W) :
    ∀ (m n i : Nat) (s₀ s : Shared) (H : Hp), m < n → Inv Xg pin σ0 H s → tn i s.heap → (∀ b ∈ fp, H b = none) → W i m H →
      Seg (model Xg.prog Xg.w) A (GRe Xg pin σ0 Q cont) (GPr Xg pin σ0 Q cont) n s₀ (.compLoop (.GeneratorExp elt [⟨.Name x px, iter, ifs, 0⟩] scope pos) 0 (.ref it) .none Xg.env)
        ((model Xg.prog Xg.w).den (.compLoop (.GeneratorExp elt [⟨.Name x px, iter, ifs, 0⟩] scope pos) 0 (.ref it) .none Xg.env)) [] s := by
  have stat : ∀ {σ' : L2.St} {H' : Hp} {s' : Shared}, Inv Xg pin σ' H' s' → (∀ b ∈ fp, H' b = none) → ∀ b ∈ fp, FpOk Xg pin H' b := fun {σ' H' s'} I' hn b hb => by
    have hb' : b ∈ Xg.ex := hex ▸ hb
    refine ⟨hn b hb, (I'.ok.exf b hb').1, I'.ok.exfs b hb', .inl hb', fun x c e => (I'.ok.exf b hb').2 x c e, fun p hp z => ?_⟩
    rw [hpn, List.nil_append] at hp
    exact hpin p hp (z ▸ hb)
  have oA : A.over (.compLoop (.GeneratorExp elt [⟨.Name x px, iter, ifs, 0⟩] scope pos) 0 (.ref it) .none Xg.env) [] = Xg.A := over_comp.trans hov
  intro m
  induction m using Nat.strongRecOn with
  | _ m ih =>
  intro n i s₀ s H hmn I st nf w
  show Seg _ A _ _ _ s₀ _ ((compTurn (.GeneratorExp elt [⟨.Name x px, iter, ifs, 0⟩] scope pos) 0 (.ref it) .none Xg.env).onRaise (leaving Xg.env)) [] s
  rw [compTurn_gen, Sem.onRaise_eq_wrap]
  refine seg_bind_wrap (wpAny_standAt ?_)
  rcases tu i m H w with ⟨stop, qq⟩ | ⟨go, Nx, hNx, step⟩
  · refine seg_bind_wrap ?_
    rw [oA]
    refine thnF (T.done Xg rfl rfl rfl hc i pin s _ H (fun _ _ => False) I (stat I nf) st stop) fun r s1 ⟨hr, I1⟩ => ?_
    subst hr
    exact seg_end (.ok .next) ⟨rfl, H, I1, qq⟩
  · refine seg_bind_wrap ?_
    rw [oA]
    refine thnF (T.item Xg rfl rfl rfl hc i pin s _ H (fun _ _ => False) I (stat I nf) st go) fun r s1 ⟨u, hr, h1⟩ => ?_
    subst hr
    refine seg_bind_wrap ?_
    rw [oA]
    refine thnF h1 fun _ s2 ⟨y, H2, I2, r2, y2, st2, n2⟩ => ?_
    have I2' := I2.pinned (stat I2 n2) (T.obj _ _ st2)
    refine seg_bind_wrap ?_
    rw [oA]
    refine wpAny_mono (pg.run _ s2 _ H2 y u (fun σ' H' => σ' = σ0.set j (some y) ∧ H' = H2) I2' r2 ⟨rfl, rfl⟩) (fun _ s3 ⟨σ3, H3, I3, e3, e4⟩ => ?_) (fun e s' z => by rw [hxe] at z; exact z.elim)
    subst e3
    subst e4
    -- the turn's end
    have fin : ∀ {s' : Shared} {H' : Hp}, Inv Xg (pin ++ pinsAt fp s2.heap) (σ0.set j (some y)) H' s' → Inv Xg pin σ0 H' s' ∧ tn (i + 1) s'.heap ∧ ∀ b ∈ fp, H' b = none := fun {s' H'} I' => by
      have pin' : ∀ b ∈ fp, ∀ o, s2.heap.get? b = some o → s'.heap.get? b = some o ∧ H' b = none := fun b hb o e =>
        let z := I'.pin (b, o) (List.mem_append_right _ (List.mem_append_right _ (mem_pinsAt hb e)))
        ⟨z.1, z.2.1⟩
      refine ⟨I'.unpinned.weak (by rw [List.length_set]) (fun k v e => ?_), T.keep _ _ _ st2 fun b hb o e => (pin' b hb o e).1, fun b hb => ?_⟩
      · by_cases hk : j = k
        · subst hk
          exact absurd e (h0 v)
        · rw [List.getElem?_set_ne hk]
          exact e
      · obtain ⟨o, e, _⟩ := T.obj _ _ st2 b hb
        exact (pin' b hb o e).2
    refine seg_bind_wrap ?_
    rw [oA]
    refine wpAny_mono (pt.run _ s3 _ H3 _ I3 (step y H3 y2)) (fun b s4 ⟨H4, I4, q4⟩ => ?_) (fun e s' z => by rw [hxe] at z; exact z.elim)
    cases b with
    | false =>
      simp only [Bool.false_eq_true, if_false] at q4 ⊢
      obtain ⟨m', hm, w'⟩ := hNx _ q4
      obtain ⟨I5, st5, n5⟩ := fin I4
      exact seg_again rfl (ih m' hm n (i + 1) s₀ s4 H4 (by omega) I5 st5 n5 w')
    | true =>
      simp only [if_true] at q4 ⊢
      have hy : ∀ v, yieldOut Xg.env v = yieldValue v := fun v => by simp only [yieldOut, hco, Bool.false_eq_true, if_false]
      simp only [hy]
      rw [Sem.bind_eq_wrap', Sem.bind_eq_wrap', Sem.wrap_wrap, Sem.wrap_wrap]
      refine seg_wrap ?_
      rw [oA]
      refine wpAny_mono (pe.run _ s4 _ H4 _ I4 q4) (fun v s5 ⟨z, H5, I5, r5, c, hz, q5⟩ => ?_) (fun e s' z => by rw [hxe] at z; exact z.elim)
      subst hz
      cases r5
      obtain ⟨I6, st6, n6⟩ := fin I5
      obtain ⟨n', rfl⟩ : ∃ n', n = n' + 1 := ⟨n - 1, by omega⟩
      refine seg_at (seg_yield rfl rfl rfl ⟨c, H5, rfl, I6, ?_⟩)
      by_cases hcc : c = cont
      · rw [if_pos hcc] at q5 ⊢
        intro s6 z6
        obtain ⟨m', hm, w'⟩ := hNx _ q5
        exact seg_again rfl (ih m' hm n' (i + 1) s6 s6 H5 (by omega) (Inv.slp I6 z6) (by rw [z6.heap]; exact st6) n6 w')
      · rw [if_neg hcc] at q5 ⊢
        exact q5
end
end Vf
end
section
set_option Elab.async false
set_option linter.all false
set_option maxRecDepth 100000
set_option maxHeartbeats 4000000
namespace Vf
open PySem PySem.Spec PyProof.Rows L2 GxR GenW
section
variable {Xg : Cx} {A : Around} {elt iter : Expr} {ifs : List Expr} {x : Str} {px : Pos} {scope : Scope} {pos : Pos} {it : Addr} {fp : List Addr} {tn : Nat → Heap → Prop} {J : It} {pin : List (Addr × Obj)} {j : Nat} {tt : TT} {te : TE} {σ0 : L2.St}
  {Q : VK} {W : Nat → Nat → Hp → Prop} {cont : Bool}
theorem seg_gst (hov : A.deeper Xg.env = Xg.A) (T : Turn Xg.prog Xg.w Xg.K (.Name x px) J fp it tn) {n : Nat} {s₀ s : Shared} (st : tn 0 s.heap)
    (loop : Seg (model Xg.prog Xg.w) A (GRe Xg pin σ0 Q cont) (GPr Xg pin σ0 Q cont) n s₀ (.compLoop (.GeneratorExp elt [⟨.Name x px, iter, ifs, 0⟩] scope pos) 0 (.ref it) .none Xg.env)
        ((model Xg.prog Xg.w).den (.compLoop (.GeneratorExp elt [⟨.Name x px, iter, ifs, 0⟩] scope pos) 0 (.ref it) .none Xg.env)) [] s) :
      Seg (model Xg.prog Xg.w) A (GRe Xg pin σ0 Q cont) (GPr Xg pin σ0 Q cont) n s₀ (.compStart (.GeneratorExp elt [⟨.Name x px, iter, ifs, 0⟩] scope pos) 0 (.ref it) .none Xg.env)
        ((model Xg.prog Xg.w).den (.compStart (.GeneratorExp elt [⟨.Name x px, iter, ifs, 0⟩] scope pos) 0 (.ref it) .none Xg.env)) [] s := by
  show Seg _ A _ _ _ s₀ _ ((compStart (.GeneratorExp elt [⟨.Name x px, iter, ifs, 0⟩] scope pos) 0 (.ref it) .none Xg.env).onRaise (leaving Xg.env)) [] s
  unfold compStart
  rw [Sem.onRaise_eq_wrap]
  show Seg _ A _ _ _ s₀ _ ((ask >>= _).wrap _ _ _ _) [] s
  refine seg_bind_wrap (wpAny_askSetting ?_)
  split
  · exact seg_again rfl loop
  · first
      | exact seg_bind_wrap (wpAny_rule (seg_bind_wrap (wpAny_standAt (seg_bind_wrap (T.self _ 0 s _ _ st (seg_again rfl loop))))))
      | (refine seg_bind_wrap (wpAny_rule ?_); show Seg _ A _ _ _ s₀ _ ((standAt iter.pos >>= _).wrap _ _ _ _) [] s; exact seg_bind_wrap (wpAny_standAt (seg_bind_wrap (T.self _ 0 s _ _ st (seg_again rfl loop)))))

/-- all over such a generator -/
theorem all_loop {R : Result → Shared → Prop} {a : Addr} {g : Nat} {go : Obj} (hh : A.handled = none) (hd : A.depth < recursionLimit) (hgo : ∀ h : Heap, h.get? a = some go → h.IsGen a g)
    (hR : ∀ b H' s', Inv Xg [(a, go)] σ0 H' s' → Q (.bl b) H' → R (.ok (.ret (.bool b))) s') :
    ∀ (n : Nat) (s : Shared) (H : Hp), Inv Xg [(a, go)] σ0 H s →
      (∃ gs, s.gens[g]? = some gs ∧ gs.Goes (model Xg.prog Xg.w) A.in1.in1 (GRe Xg [(a, go)] σ0 Q true) (GPr Xg [(a, go)] σ0 Q true) n (.send .none) (s.setGen g .running)) →
      codeAny (model Xg.prog Xg.w) A (.builtin "all.loop" ⟨[.ref a], []⟩) R s := by
  intro n
  induction n with
  | zero =>
    intro s H I ⟨gs, hgs, go1⟩
    have pa : s.heap.get? a = some go := (I.pin (a, go) (List.mem_append_right _ (List.mem_singleton.mpr rfl))).1
    refine codeAny_builtin F.entry_all_loop ?_
    rw [Around.under_plainId F.plain_all_loop _]
    show wpAny _ A.in1 (pyNext (.ref a) >>= _) _ _ s
    refine wpAny_bind (wpAny_pyNext_genexpQ (A := A.in1) (P := fun n s₀ s₁ => ∃ H', Inv Xg [(a, go)] σ0 H' s₁ ∧ Q (.bl true) H') hh I.nolimit hd (hgo _ pa) hgs go1 (fun v s1 gs' hb hv => ?_) (fun s1 hp h' hk => ?_))
    · obtain ⟨c, H1, rfl, I1, q1⟩ := hv
      by_cases hc : c = true
      · rw [if_pos hc] at q1
        exact (q1 s1 ⟨rfl, I1.bare, rfl⟩).elim
      · rw [if_neg hc] at q1
        have hc' : c = false := by simpa using hc
        subst hc'
        refine wpAny_bind (wpAny_holding (wpAny_truthy_bool ?_))
        refine wpAny_bind (wpAny_letGo ?_)
        simp only [Bool.false_eq_true, if_false]
        exact wpAny_bind (wpAny_rule (wpAny_pure (hR false H1 _ (Inv.slp I1 ⟨rfl, allBare_setGen I1.bare hb, rfl⟩) q1)))
    · obtain ⟨H1, I1, q1⟩ := hp
      refine wpAny_bind (wpAny_rule (wpAny_pure (hR true H1 _ ?_ q1)))
      exact I1.call' (ch := []) rfl (Un.kept hk) (I1.hok.kept hk) (allBare_setGen I1.bare rfl) (fun b hb => absurd hb (by simp))
  | succ m ih =>
    intro s H I ⟨gs, hgs, go1⟩
    have pa : s.heap.get? a = some go := (I.pin (a, go) (List.mem_append_right _ (List.mem_singleton.mpr rfl))).1
    have hgl : g < s.gens.size := (Array.getElem?_eq_some_iff.mp hgs).1
    refine codeAny_builtin F.entry_all_loop ?_
    rw [Around.under_plainId F.plain_all_loop _]
    show wpAny _ A.in1 (pyNext (.ref a) >>= _) _ _ s
    refine wpAny_bind (wpAny_gsz (n := g + 1) hgl (wpAny_pyNext_genexpQ (A := A.in1) (P := fun n s₀ s₁ => ∃ H', Inv Xg [(a, go)] σ0 H' s₁ ∧ Q (.bl true) H') hh I.nolimit hd (hgo _ pa) hgs go1 (fun v s1 gs' hb hv => ?_) (fun s1 hp h' hk => ?_)))
    · intro hsz
      obtain ⟨c, H1, rfl, I1, q1⟩ := hv
      have I2 := Inv.slp I1 (s' := s1.setGen g gs') ⟨rfl, allBare_setGen I1.bare hb, rfl⟩
      by_cases hc : c = true
      · rw [if_pos hc] at q1
        subst hc
        refine wpAny_bind (wpAny_holding (wpAny_truthy_bool ?_))
        refine wpAny_bind (wpAny_letGo ?_)
        simp only [if_true]
        have hsz1 : g < s1.gens.size := by
          have q : (s1.setGen g gs').gens.size = s1.gens.size := setGen_size _ _ _
          have hsz' : g + 1 ≤ (s1.setGen g gs').gens.size := hsz
          omega
        refine wpAny_pure ⟨plainId_quiet F.plain_all_loop _, ih _ H1 I2 ⟨gs', setGen_at hsz1, ?_⟩⟩
        exact q1 _ ⟨rfl, allBare_setGen (s := s1.setGen g gs') (allBare_setGen I1.bare hb) rfl, rfl⟩
      · rw [if_neg hc] at q1
        have hc' : c = false := by simpa using hc
        subst hc'
        refine wpAny_bind (wpAny_holding (wpAny_truthy_bool ?_))
        refine wpAny_bind (wpAny_letGo ?_)
        simp only [Bool.false_eq_true, if_false]
        exact wpAny_bind (wpAny_rule (wpAny_pure (hR false H1 _ I2 q1)))
    · intro _
      obtain ⟨H1, I1, q1⟩ := hp
      refine wpAny_bind (wpAny_rule (wpAny_pure (hR true H1 _ ?_ q1)))
      exact I1.call' (ch := []) rfl (Un.kept hk) (I1.hok.kept hk) (allBare_setGen I1.bare rfl) (fun b hb => absurd hb (by simp))
/-- any over such a generator -/
theorem any_loop {R : Result → Shared → Prop} {a : Addr} {g : Nat} {go : Obj} (hh : A.handled = none) (hd : A.depth < recursionLimit) (hgo : ∀ h : Heap, h.get? a = some go → h.IsGen a g)
    (hR : ∀ b H' s', Inv Xg [(a, go)] σ0 H' s' → Q (.bl b) H' → R (.ok (.ret (.bool b))) s') :
    ∀ (n : Nat) (s : Shared) (H : Hp), Inv Xg [(a, go)] σ0 H s →
      (∃ gs, s.gens[g]? = some gs ∧ gs.Goes (model Xg.prog Xg.w) A.in1.in1 (GRe Xg [(a, go)] σ0 Q false) (GPr Xg [(a, go)] σ0 Q false) n (.send .none) (s.setGen g .running)) →
      codeAny (model Xg.prog Xg.w) A (.builtin "any.loop" ⟨[.ref a], []⟩) R s := by
  intro n
  induction n with
  | zero =>
    intro s H I ⟨gs, hgs, go1⟩
    have pa : s.heap.get? a = some go := (I.pin (a, go) (List.mem_append_right _ (List.mem_singleton.mpr rfl))).1
    refine codeAny_builtin F.entry_any_loop ?_
    rw [Around.under_plainId F.plain_any_loop _]
    show wpAny _ A.in1 (pyNext (.ref a) >>= _) _ _ s
    refine wpAny_bind (wpAny_pyNext_genexpQ (A := A.in1) (P := fun n s₀ s₁ => ∃ H', Inv Xg [(a, go)] σ0 H' s₁ ∧ Q (.bl false) H') hh I.nolimit hd (hgo _ pa) hgs go1 (fun v s1 gs' hb hv => ?_) (fun s1 hp h' hk => ?_))
    · obtain ⟨c, H1, rfl, I1, q1⟩ := hv
      by_cases hc : c = false
      · rw [if_pos hc] at q1
        exact (q1 s1 ⟨rfl, I1.bare, rfl⟩).elim
      · rw [if_neg hc] at q1
        have hc' : c = true := by simpa using hc
        subst hc'
        refine wpAny_bind (wpAny_holding (wpAny_truthy_bool ?_))
        refine wpAny_bind (wpAny_letGo ?_)
        simp only [if_true]
        exact wpAny_bind (wpAny_rule (wpAny_pure (hR true H1 _ (Inv.slp I1 ⟨rfl, allBare_setGen I1.bare hb, rfl⟩) q1)))
    · obtain ⟨H1, I1, q1⟩ := hp
      refine wpAny_bind (wpAny_rule (wpAny_pure (hR false H1 _ ?_ q1)))
      exact I1.call' (ch := []) rfl (Un.kept hk) (I1.hok.kept hk) (allBare_setGen I1.bare rfl) (fun b hb => absurd hb (by simp))
  | succ m ih =>
    intro s H I ⟨gs, hgs, go1⟩
    have pa : s.heap.get? a = some go := (I.pin (a, go) (List.mem_append_right _ (List.mem_singleton.mpr rfl))).1
    have hgl : g < s.gens.size := (Array.getElem?_eq_some_iff.mp hgs).1
    refine codeAny_builtin F.entry_any_loop ?_
    rw [Around.under_plainId F.plain_any_loop _]
    show wpAny _ A.in1 (pyNext (.ref a) >>= _) _ _ s
    refine wpAny_bind (wpAny_gsz (n := g + 1) hgl (wpAny_pyNext_genexpQ (A := A.in1) (P := fun n s₀ s₁ => ∃ H', Inv Xg [(a, go)] σ0 H' s₁ ∧ Q (.bl false) H') hh I.nolimit hd (hgo _ pa) hgs go1 (fun v s1 gs' hb hv => ?_) (fun s1 hp h' hk => ?_)))
    · intro hsz
      obtain ⟨c, H1, rfl, I1, q1⟩ := hv
      have I2 := Inv.slp I1 (s' := s1.setGen g gs') ⟨rfl, allBare_setGen I1.bare hb, rfl⟩
      by_cases hc : c = false
      · rw [if_pos hc] at q1
        subst hc
        refine wpAny_bind (wpAny_holding (wpAny_truthy_bool ?_))
        refine wpAny_bind (wpAny_letGo ?_)
        simp only [Bool.false_eq_true, if_false]
        have hsz1 : g < s1.gens.size := by
          have q : (s1.setGen g gs').gens.size = s1.gens.size := setGen_size _ _ _
          have hsz' : g + 1 ≤ (s1.setGen g gs').gens.size := hsz
          omega
        refine wpAny_pure ⟨plainId_quiet F.plain_any_loop _, ih _ H1 I2 ⟨gs', setGen_at hsz1, ?_⟩⟩
        exact q1 _ ⟨rfl, allBare_setGen (s := s1.setGen g gs') (allBare_setGen I1.bare hb) rfl, rfl⟩
      · rw [if_neg hc] at q1
        have hc' : c = true := by simpa using hc
        subst hc'
        refine wpAny_bind (wpAny_holding (wpAny_truthy_bool ?_))
        refine wpAny_bind (wpAny_letGo ?_)
        simp only [if_true]
        exact wpAny_bind (wpAny_rule (wpAny_pure (hR true H1 _ I2 q1)))
    · intro _
      obtain ⟨H1, I1, q1⟩ := hp
      refine wpAny_bind (wpAny_rule (wpAny_pure (hR false H1 _ ?_ q1)))
      exact I1.call' (ch := []) rfl (Un.kept hk) (I1.hok.kept hk) (allBare_setGen I1.bare rfl) (fun b hb => absurd hb (by simp))
end
end Vf
end
section
set_option Elab.async false
set_option linter.all false
set_option maxRecDepth 100000
set_option maxHeartbeats 4000000
namespace Vf
open PySem PySem.Spec PyProof.Rows L2 GxR GenW
/-- H' is H but for the table at P, which has grown -/
def Tabb (P : Addr) (H H' : Hp) : Prop := ∃ ps more : Array Value, H P = some (.tbl ps) ∧ TriplesOk ps.toList ∧ TriplesOk (ps ++ more).toList ∧ H' = upd H P (.tbl (ps ++ more))
section
variable {X : Cx} {pins : List (Addr × Obj)} {σ : L2.St} {H : Hp} {s : Shared}
/-- a generator that has been made -/
structure GM (X : Cx) (pins : List (Addr × Obj)) (σ : L2.St) (own : List Nat) (elt iter : Expr) (ifs : List Expr) (x : Str) (px gpos : Pos) (scope : Scope) (J : It) (H4 : Hp) (a : Addr) (s5 : Shared) (s4 : Shared) (genv : Env) (fp : List Addr) (tn : Nat → Heap → Prop) (it : Addr) (go : Obj) (g : Nat) : Prop where
  outer : Inv X pins σ H4 s4
  inner : ∀ A : Around, A.handled = none → A.frames = some (genv :: X.stack) → Inv (gcx X A s4 H4 genv fp) [(a, go)] (wipe σ own) H4 s5
  turn : Turn X.prog X.w X.K (.Name x px) J fp it tn
  at0 : tn 0 s5.heap
  fpo : ∀ b ∈ fp, FpOk X pins H4 b
  gen : ∀ h : Heap, h.get? a = some go → h.IsGen a g
  fresh : s5.gens[g]? = some (.fresh (.compStart (.GeneratorExp elt [⟨.Name x px, iter, ifs, 0⟩] scope gpos) 0 (.ref it) .none genv))
  env : ∃ C code, genv = genEnv scope (cloFrom X.env.cells scope.names []) C code builtinsNs X.env
  nfp : a ∉ fp
theorem gen_mk {c P : Addr} {elt iter : Expr} {ifs : List Expr} {x : Str} {px gpos : Pos} {scope : Scope} {own : List Nat} {wi : TI} {k : Nat} {R : It → Hp → Prop}
    (hr : Room k X.A) (TB : TabB X.base X.mg c P) (hcode : X.env.code = .ref c) (ok : GOk X.N X.env.scope scope x own) (hi : PI X (.Name x px) iter wi)
    (hs : ∀ v, genFold iter X.env v = pure v) (I : Inv X pins σ H s) (h : wi σ H fun J H1 => TabG H1 P ∧ ∀ H2, Tabb P H1 H2 → R J H2) :
    wpAny (model X.prog X.w) X.A (eval (.GeneratorExp elt [⟨.Name x px, iter, ifs, 0⟩] scope gpos) X.env)
      (fun gv s5 => ∃ J H4 a s4 genv fp tn it go g, gv = .ref a ∧ R J H4 ∧ GM X pins σ own elt iter ifs x px gpos scope J H4 a s5 s4 genv fp tn it go g) X.xe s := by
  have hfree : ∀ y ∈ scope.names, y.2 = .free → ∃ c, X.env.cells.lookup y.1 = some c := fun y hy e => by
    rcases ok.free y hy e with k | k
    · exact I.ok.has _ (.inl k)
    · exact I.ok.has _ (.inr k)
  refine wpAny_GeneratorExp_make ok.co (closure_ok hfree) ok.cell ok.dot ok.kind (by have := hr.dp; omega) ?_ hs
  refine thn (hi.run pins s σ H _ I h) fun xv s1 hx => thn hx fun itv s2 h2 => ?_
  obtain ⟨it, fp, tn, J, H2, e, I2, T, st2, f2, ⟨ps, hP, ht⟩, hR⟩ := h2
  subst e
  refine ⟨I2.nolimit, ?_⟩
  have oP : s2.heap.get? P = some { cls := .none, data := .fields ps } := I2.hok P _ hP
  have nPfp : ∀ b ∈ fp, b ≠ P := fun b hb z => by
    have q := (f2 b hb).1
    rw [z, hP] at q
    cases q
  have cd : PySem.W.CodeHd s2.heap c P := TB.code.keeps I2.bk
  have fin : ∀ (code : Value) (h3 : Heap) (tk : Nat) (ps' : Array Value), Heap.ExtBut P s2.heap h3 → h3.get? P = some { cls := .none, data := .fields ps' } → (∃ more, ps' = ps ++ more) → TriplesOk ps'.toList →
      wpAny (model X.prog X.w) X.A (builtinsFor X.env.globals X.env.builtins) (fun bi s4 => ∀ h' : Heap, h'.Ns s4.heap.objs.size (fun y => if y = (".0" : Str) then some (.ref it) else none) →
        Heap.SameBut s4.heap.objs.size (s4.heap.push { cls := .type "frame", data := .dict #[] }) h' →
        ∃ J H4 a s4' genv fp tn it' go g, (Value.ref h'.objs.size) = .ref a ∧ R J H4 ∧ GM X pins σ own elt iter ifs x px gpos scope J H4 a { s4 with
            gens := s4.gens.push (.fresh (.compStart (.GeneratorExp elt [⟨.Name x px, iter, ifs, 0⟩] scope gpos) 0 (.ref it) .none (genEnv scope (cloFrom X.env.cells scope.names []) s4.heap.objs.size code bi X.env))), toks := s4.toks + 1 + 1 + 1,
            heap := h'.push { cls := .type "generator", data := .fields #[.int s4.gens.size 0, .str "<genexpr>" (s4.toks + 1), .str (X.env.qual ++ "<genexpr>") (s4.toks + 1 + 1)] } } s4' genv fp tn it' go g) X.xe { s2 with heap := h3, toks := tk } := by
    intro code h3 tk ps' hx hP3 ⟨more, em⟩ ht3
    obtain ⟨bm, ob, e1, e2, e3, e4, e5, e6, e7, e8⟩ := TB.bm
    have kp3 : ∀ b u, b ≠ P → s2.heap.get? b = some u → h3.get? b = some u := fun b u hb q => hx b u hb q
    refine wpAny_builtinsFor (m := X.mg) (by rw [I2.ok.glob]; exact (I2.mod.glob.keeps I2.bk).extBut hx TB.gP) e1 e2 (kp3 _ _ e4 (I2.bk _ _ e5)) e6 e7 e8 ?_
    have I3 : Inv X pins σ (upd H2 P (.tbl ps')) { s2 with heap := h3, toks := tk } := by
      subst em
      exact inv_tab (g' := s2.gens) (d' := s2.drawn) I2 hP kp3 hP3 I2.bare
    generalize hs3 : ({ s2 with heap := h3, toks := tk } : Shared) = s3 at I3
    have eh3 : s3.heap = h3 := by rw [← hs3]
    have st3 : tn 0 s3.heap := by
      rw [eh3]
      exact T.keep _ _ _ st2 fun b hb o e => kp3 b o (nPfp b hb) e
    have f3 : ∀ b ∈ fp, FpOk X pins (upd H2 P (.tbl ps')) b := fun b hb => ⟨by rw [upd_ne (nPfp b hb)]; exact (f2 b hb).1, (f2 b hb).2⟩
    have sz3 : ∀ b ∈ fp, b < s3.heap.objs.size := fun b hb => by
      obtain ⟨o, e, _⟩ := T.obj _ _ st3 b hb
      exact Heap.lt_size e
    intro h' hn' hs'
    have hsz : h'.objs.size = s3.heap.objs.size + 1 := by rw [hs'.1, Heap.size_push]
    have k' : ∀ b o, s3.heap.get? b = some o → h'.get? b = some o := fun b o e => hs'.extBut b o (Nat.ne_of_lt (Heap.lt_size e)) (Heap.get?_push_of_some _ e)
    have gp : ∀ h : Heap, (h.push ({ cls := .type "generator", data := .fields #[.int s3.gens.size 0, .str "<genexpr>" (s3.toks + 1), .str (X.env.qual ++ "<genexpr>") (s3.toks + 1 + 1)] } : Obj)).get? h.objs.size = some ({ cls := .type "generator", data := .fields #[.int s3.gens.size 0, .str "<genexpr>" (s3.toks + 1), .str (X.env.qual ++ "<genexpr>") (s3.toks + 1 + 1)] } : Obj) := fun h => Heap.get?_push_size _ rfl
    have gfd : ∃ nm qn, ({ cls := .type "generator", data := .fields #[.int s3.gens.size 0, .str "<genexpr>" (s3.toks + 1), .str (X.env.qual ++ "<genexpr>") (s3.toks + 1 + 1)] } : Obj).cls = .type "generator" ∧ ({ cls := .type "generator", data := .fields #[.int s3.gens.size 0, .str "<genexpr>" (s3.toks + 1), .str (X.env.qual ++ "<genexpr>") (s3.toks + 1 + 1)] } : Obj).data = .fields #[.int s3.gens.size 0, nm, qn] ∧ ({ cls := .type "generator", data := .fields #[.int s3.gens.size 0, .str "<genexpr>" (s3.toks + 1), .str (X.env.qual ++ "<genexpr>") (s3.toks + 1 + 1)] } : Obj).slots = #[] := ⟨_, _, rfl, rfl, rfl⟩
    generalize ({ cls := .type "generator", data := .fields #[.int s3.gens.size 0, .str "<genexpr>" (s3.toks + 1), .str (X.env.qual ++ "<genexpr>") (s3.toks + 1 + 1)] } : Obj) = go at gp gfd ⊢
    obtain ⟨nm, qn, g1, g2, g3⟩ := gfd
    have ga : (h'.push go).get? h'.objs.size = some go := gp h'
    have k5 : ∀ b o, s3.heap.get? b = some o → (h'.push go).get? b = some o := fun b o e => Heap.get?_push_of_some _ (k' b o e)
    have bare5 : AllBare (s3.gens.push (.fresh (.compStart (.GeneratorExp elt [⟨.Name x px, iter, ifs, 0⟩] scope gpos) 0 (.ref it) .none (genEnv scope (cloFrom X.env.cells scope.names []) s3.heap.objs.size code builtinsNs X.env)))) := I3.bare.push rfl
    refine ⟨J, upd H2 P (.tbl ps'), h'.objs.size, s3, genEnv scope (cloFrom X.env.cells scope.names []) s3.heap.objs.size code builtinsNs X.env, fp, tn, it, go, s3.gens.size, rfl, hR _ (by subst em; exact ⟨ps, more, hP, ht, ht3, rfl⟩), I3, ?_, T, ?_, f3, ?_, ?_, ⟨s3.heap.objs.size, code, rfl⟩, ?_⟩
    · intro A hA hAf
      exact gen_start (h' := h') hA hAf I3 ok (fun b hb => ⟨f3 b hb, sz3 b hb⟩) k5 (hn'.push _) bare5 (by rw [hsz]; exact Nat.lt_succ_self _) ga (fun v q => by rw [g2] at q; cases q)
    · exact T.keep _ _ _ st3 fun b _ o e => k5 b o e
    · intro h e
      exact ⟨go, nm, qn, e, g1, g2, g3⟩
    · exact Array.getElem?_push_size ..
    · intro z
      have q : h'.objs.size < s3.heap.objs.size := sz3 h'.objs.size z
      rw [hsz] at q
      exact absurd q (Nat.not_lt.mpr (Nat.le_succ _))
  cases hf : codeAmong gpos ps.toList with
  | none =>
    refine wpAny_genexprCodeX hcode (cd.code oP ht) (cd.tab oP) hf fun c' h' tk hx hge hlt hco' _ htab' _ => ?_
    obtain ⟨o1, vs, f1, tf, fl, tg, inF, tx, tt, op, _, _, _, _, _, _, _, _, _, htr, _⟩ := hco'
    exact fin _ h' tk _ hx htab'.2 ⟨_, rfl⟩ htr
  | some cv =>
    refine wpAny_genexprCode_hit hcode (cd.code oP ht) hf ?_
    exact fin cv s2.heap s2.toks ps (Heap.ExtBut.refl _ _) oP ⟨#[], by simp⟩ ht

/-- any (cont false), all (cont true) of (elt for x in iter if ..) -/
def tGen (cont : Bool) (P : Addr) (wi : TI) (j : Nat) (own : List Nat) (tt : TT) (te : TE) : TE := fun σ H Q =>
  wi σ H fun J H1 => TabG H1 P ∧ ∀ H2, Tabb P H1 H2 → ∃ W : Nat → Nat → Hp → Prop, (∃ m, W 0 m H2) ∧ Turns cont j (wipe σ own) tt te J Q W
theorem wipe_own {σ : L2.St} {own : List Nat} {j : Nat} (hj : j ∈ own) : ∀ v, (wipe σ own)[j]? ≠ some (some v) := fun v e => (wipe_some e).2 hj
section
variable {c P : Addr} {elt iter : Expr} {ifs : List Expr} {x : Str} {px p pos gpos : Pos} {scope : Scope} {own : List Nat} {wi : TI} {tt : TT} {te : TE} {k j : Nat}
theorem gen_room {A : Around} {genv : Env} (hr : Room (k + 1) A) : Room k (A.in1.in1.deeper genv) :=
  ⟨hr.hd, by have := hr.dp; show A.depth + 1 + 3 * k + 5 < _; omega, by have := hr.un; show A.units + 1 + 1 + 3 + 16 * k + 200 < _; omega⟩
theorem pe_allL (hr : Room (k + 1) X.A) (hg : Gl X "all") (hm : X.mg "all" = none) (hb : bootBuiltins "all" = some (.builtin "all")) (TB : TabB X.base X.mg c P) (hcode : X.env.code = .ref c) (ok : GOk X.N X.env.scope scope x own) (hN : X.N.Nodup) (hj : X.N[j]? = some x) (hjo : j ∈ own) (hi : PI X (.Name x px) iter wi)
    (ht : ∀ (A : Around) (s : Shared) (H : Hp) (C : Addr) (code : Value) (fp : List Addr), Room k A → PTs (gcx X A s H (genEnv scope (cloFrom X.env.cells scope.names []) C code builtinsNs X.env) fp) ifs tt)
    (hel : ∀ (A : Around) (s : Shared) (H : Hp) (C : Addr) (code : Value) (fp : List Addr), Room k A → PE (gcx X A s H (genEnv scope (cloFrom X.env.cells scope.names []) C code builtinsNs X.env) fp) elt te)
    (hs : ∀ v, genFold iter X.env v = pure v := by intro _; rfl)
    (he : starEach [.GeneratorExp elt [⟨.Name x px, iter, ifs, 0⟩] scope gpos] X.env = (false, eval (.GeneratorExp elt [⟨.Name x px, iter, ifs, 0⟩] scope gpos) X.env) :: starEach [] X.env := by rfl) :
    PE X (.Call (.Name "all" p) [.GeneratorExp elt [⟨.Name x px, iter, ifs, 0⟩] scope gpos] [] pos) (tGen true P wi j own tt te) := by
  refine ⟨fun pins s σ H Q I h => ?_⟩
  refine wpAny_Call_Name_kw (ld_blt I hg hm hb ?_)
  refine PyProof.Rows.callWith_builtin1 ?_ he (by rfl)
  rw [he]
  show wpAny _ _ (spliced ((false, eval (.GeneratorExp elt [⟨.Name x px, iter, ifs, 0⟩] scope gpos) X.env) :: backTo pos (starEach [] X.env))) _ _ s
  refine Calls.spliced_cons (thn (gen_mk (R := fun J H2 => ∃ W : Nat → Nat → Hp → Prop, (∃ m, W 0 m H2) ∧ Turns true j (wipe σ own) tt te J Q W) hr TB hcode ok hi hs I h) fun gv s5 ⟨J, H4, a, s4, genv, fp, tn, it, go, g, e, ⟨W, ⟨m, w0⟩, tu⟩, G⟩ => ?_)
  subst e
  refine Calls.spliced_nil ?_
  obtain ⟨C, code, eg⟩ := G.env
  have hAh : (X.A.in1.in1.deeper genv).handled = none := hr.hd
  have hAf : (X.A.in1.in1.deeper genv).frames = some (genv :: X.stack) := Around.frames_deeper (A := X.A.in1.in1) I.ok.frames
  have Ig := G.inner _ hAh hAf
  have room : Room k (X.A.in1.in1.deeper genv) := gen_room hr
  have pgx : PG (gcx X (X.A.in1.in1.deeper genv) s4 H4 genv fp) (.Name x px) (gName j) := pg_name (X := gcx X (X.A.in1.in1.deeper genv) s4 H4 genv fp) hN hj (.inl (by subst eg; exact ok.loc)) (.inr (by subst eg; exact ok.loc))
  have pa : s5.heap.get? a = some go := (Ig.pin (a, go) (List.mem_append_right _ (List.mem_singleton.mpr rfl))).1
  refine call_function_tree F.kind_all F.plain_all F.entry_all (F.args_all1 _) ?_
  unfold Builtin.«all»
  refine wpAny_bind (m := oneArg "all" _) (wpAny_pure ?_)
  refine wpAny_bind (wpAny_pyIter_gen (G.gen _ pa) ?_)
  refine wpAny_pure ⟨plainId_quiet F.plain_all_loop _, ?_⟩
  refine all_loop (Xg := gcx X (X.A.in1.in1.deeper genv) s4 H4 genv fp) (A := X.A) (σ0 := wipe σ own) (Q := Q) hr.hd (by have := hr.dp; omega) G.gen (fun b H' s' Ig' q => ?_) (m + 1) s5 H4 Ig ⟨_, G.fresh, rfl, ?_⟩
  · exact ⟨.bl b, H', G.outer.call' (ch := fp) Ig'.os Ig'.base Ig'.hok Ig'.bare fun b hb => ⟨(G.fpo b hb).2.2.2.1, (G.fpo b hb).2.1, (G.fpo b hb).2.2.2.2.1, (G.fpo b hb).2.2.2.2.2⟩, rfl, q⟩
  · have Ig2 := Inv.slp Ig (s' := s5.setGen g .running) ⟨rfl, allBare_setGen Ig.bare rfl, rfl⟩
    refine seg_gst (Xg := gcx X (X.A.in1.in1.deeper genv) s4 H4 genv fp) (A := X.A.in1.in1) rfl G.turn G.at0 ?_
    refine seg_gl (Xg := gcx X (X.A.in1.in1.deeper genv) s4 H4 genv fp) (A := X.A.in1.in1) rfl rfl G.turn rfl rfl (fun p hp => by rw [List.mem_singleton.mp hp]; exact G.nfp) pgx (by subst eg; exact ht _ s4 H4 C code fp room) (by subst eg; exact hel _ s4 H4 C code fp room) (wipe_own hjo) (by subst eg; exact ok.co) rfl tu m (m + 1) 0 _ _ H4 (Nat.lt_succ_self _) Ig2 G.at0 (fun b hb => (G.fpo b hb).1) w0
theorem pe_anyL (hr : Room (k + 1) X.A) (hg : Gl X "any") (hm : X.mg "any" = none) (TB : TabB X.base X.mg c P) (hcode : X.env.code = .ref c) (ok : GOk X.N X.env.scope scope x own) (hN : X.N.Nodup) (hj : X.N[j]? = some x) (hjo : j ∈ own) (hi : PI X (.Name x px) iter wi)
    (ht : ∀ (A : Around) (s : Shared) (H : Hp) (C : Addr) (code : Value) (fp : List Addr), Room k A → PTs (gcx X A s H (genEnv scope (cloFrom X.env.cells scope.names []) C code builtinsNs X.env) fp) ifs tt)
    (hel : ∀ (A : Around) (s : Shared) (H : Hp) (C : Addr) (code : Value) (fp : List Addr), Room k A → PE (gcx X A s H (genEnv scope (cloFrom X.env.cells scope.names []) C code builtinsNs X.env) fp) elt te)
    (hs : ∀ v, genFold iter X.env v = pure v := by intro _; rfl)
    (he : starEach [.GeneratorExp elt [⟨.Name x px, iter, ifs, 0⟩] scope gpos] X.env = (false, eval (.GeneratorExp elt [⟨.Name x px, iter, ifs, 0⟩] scope gpos) X.env) :: starEach [] X.env := by rfl) :
    PE X (.Call (.Name "any" p) [.GeneratorExp elt [⟨.Name x px, iter, ifs, 0⟩] scope gpos] [] pos) (tGen false P wi j own tt te) := by
  refine ⟨fun pins s σ H Q I h => ?_⟩
  refine wpAny_Call_Name_kw (ld_blt I hg hm boot_any ?_)
  refine PyProof.Rows.callWith_builtin1 ?_ he (by rfl)
  rw [he]
  show wpAny _ _ (spliced ((false, eval (.GeneratorExp elt [⟨.Name x px, iter, ifs, 0⟩] scope gpos) X.env) :: backTo pos (starEach [] X.env))) _ _ s
  refine Calls.spliced_cons (thn (gen_mk (R := fun J H2 => ∃ W : Nat → Nat → Hp → Prop, (∃ m, W 0 m H2) ∧ Turns false j (wipe σ own) tt te J Q W) hr TB hcode ok hi hs I h) fun gv s5 ⟨J, H4, a, s4, genv, fp, tn, it, go, g, e, ⟨W, ⟨m, w0⟩, tu⟩, G⟩ => ?_)
  subst e
  refine Calls.spliced_nil ?_
  obtain ⟨C, code, eg⟩ := G.env
  have hAh : (X.A.in1.in1.deeper genv).handled = none := hr.hd
  have hAf : (X.A.in1.in1.deeper genv).frames = some (genv :: X.stack) := Around.frames_deeper (A := X.A.in1.in1) I.ok.frames
  have Ig := G.inner _ hAh hAf
  have room : Room k (X.A.in1.in1.deeper genv) := gen_room hr
  have pgx : PG (gcx X (X.A.in1.in1.deeper genv) s4 H4 genv fp) (.Name x px) (gName j) := pg_name (X := gcx X (X.A.in1.in1.deeper genv) s4 H4 genv fp) hN hj (.inl (by subst eg; exact ok.loc)) (.inr (by subst eg; exact ok.loc))
  have pa : s5.heap.get? a = some go := (Ig.pin (a, go) (List.mem_append_right _ (List.mem_singleton.mpr rfl))).1
  refine call_function_tree F.kind_any F.plain_any F.entry_any (F.args_any1 _) ?_
  unfold Builtin.«any»
  refine wpAny_bind (m := oneArg "any" _) (wpAny_pure ?_)
  refine wpAny_bind (wpAny_pyIter_gen (G.gen _ pa) ?_)
  refine wpAny_pure ⟨plainId_quiet F.plain_any_loop _, ?_⟩
  refine any_loop (Xg := gcx X (X.A.in1.in1.deeper genv) s4 H4 genv fp) (A := X.A) (σ0 := wipe σ own) (Q := Q) hr.hd (by have := hr.dp; omega) G.gen (fun b H' s' Ig' q => ?_) (m + 1) s5 H4 Ig ⟨_, G.fresh, rfl, ?_⟩
  · exact ⟨.bl b, H', G.outer.call' (ch := fp) Ig'.os Ig'.base Ig'.hok Ig'.bare fun b hb => ⟨(G.fpo b hb).2.2.2.1, (G.fpo b hb).2.1, (G.fpo b hb).2.2.2.2.1, (G.fpo b hb).2.2.2.2.2⟩, rfl, q⟩
  · have Ig2 := Inv.slp Ig (s' := s5.setGen g .running) ⟨rfl, allBare_setGen Ig.bare rfl, rfl⟩
    refine seg_gst (Xg := gcx X (X.A.in1.in1.deeper genv) s4 H4 genv fp) (A := X.A.in1.in1) rfl G.turn G.at0 ?_
    refine seg_gl (Xg := gcx X (X.A.in1.in1.deeper genv) s4 H4 genv fp) (A := X.A.in1.in1) rfl rfl G.turn rfl rfl (fun p hp => by rw [List.mem_singleton.mp hp]; exact G.nfp) pgx (by subst eg; exact ht _ s4 H4 C code fp room) (by subst eg; exact hel _ s4 H4 C code fp room) (wipe_own hjo) (by subst eg; exact ok.co) rfl tu m (m + 1) 0 _ _ H4 (Nat.lt_succ_self _) Ig2 G.at0 (fun b hb => (G.fpo b hb).1) w0
end
end
end Vf
end
section
set_option Elab.async false
set_option linter.all false
set_option maxRecDepth 100000
set_option maxHeartbeats 4000000
/-! Operators that take what kind they meet; defs by their names; heaps that have only grown. -/
namespace Vf
open PySem PySem.Spec PyProof.Rows L2 GxR GenW

/-! ### one rule an operator -/
section
variable {X : Cx}
structure rAdd (K : PySem.W.Frag) (x y : V) (H : Hp) (Q : VK) : Prop where
  h : (∃ i j, x = .int i ∧ y = .int j ∧ Q (.int (i + j)) H) ∨ (∃ i j, x = .str i ∧ y = .str j ∧ i.length + j.length ≤ sizeLine ∧ Q (.str (i ++ j)) H) ∨ rCat x y H Q ∨ rCatA K x y H Q
theorem u_add {K : PySem.W.Frag} (hK : X.K = K) : OpR X (binaryOp .Add) (rAdd K) := by
  subst hK
  exact fun pins s σ H x y v u Q I rx ry h => (OpR.or op_add (OpR.or op_add_str (OpR.or op_cat op_catA))) pins s σ H x y v u Q I rx ry h.h
structure rMd (x y : V) (H : Hp) (Q : VK) : Prop where
  h : ∃ i j, x = .int i ∧ y = .int j ∧ j ≠ 0 ∧ Q (.int (i.fmod j)) H
theorem u_mod : OpR X (binaryOp .Mod) rMd := fun pins s σ H x y v u Q I rx ry h => op_modN pins s σ H x y v u Q I rx ry h.h
structure rPw (x y : V) (H : Hp) (Q : VK) : Prop where
  h : ∃ i j, x = .int i ∧ y = .int j ∧ CPow i j ∧ Q (.int (i ^ j.toNat)) H
theorem u_pow : OpR X (binaryOp .Pow) rPw := fun pins s σ H x y v u Q I rx ry h => op_pow pins s σ H x y v u Q I rx ry h.h
structure rGe (x y : V) (H : Hp) (Q : VK) : Prop where
  h : ∃ i j, x = .int i ∧ y = .int j ∧ Q (.bl (decide (j ≤ i))) H
theorem u_ge : OpR X (compareOp .GtE) rGe := fun pins s σ H x y v u Q I rx ry h => op_ge pins s σ H x y v u Q I rx ry h.h
structure rGt (x y : V) (H : Hp) (Q : VK) : Prop where
  h : ∃ i j, x = .int i ∧ y = .int j ∧ Q (.bl (decide (j < i))) H
theorem u_gt : OpR X (compareOp .Gt) rGt := fun pins s σ H x y v u Q I rx ry h => op_gt pins s σ H x y v u Q I rx ry h.h
structure rSb (x y : V) (H : Hp) (Q : VK) : Prop where
  h : ∃ i j, x = .int i ∧ y = .int j ∧ Q (.int (i - j)) H
theorem u_sub : OpR X (binaryOp .Sub) rSb := fun pins s σ H x y v u Q I rx ry h => op_sub pins s σ H x y v u Q I rx ry h.h
structure rFd (x y : V) (H : Hp) (Q : VK) : Prop where
  h : (∃ i j, x = .int i ∧ y = .int j ∧ CDivN i j ∧ Q (.int (i.fdiv j)) H) ∨ (∃ i j, x = .int i ∧ y = .int j ∧ CDivW i j ∧ Q (.int (i / j)) H)
theorem u_fdiv : OpR X (binaryOp .FloorDiv) rFd := fun pins s σ H x y v u Q I rx ry h => (OpR.or op_fdivN op_fdivW) pins s σ H x y v u Q I rx ry h.h
structure rMu (K : PySem.W.Frag) (x y : V) (H : Hp) (Q : VK) : Prop where
  h : (∃ i j, x = .int i ∧ y = .int j ∧ CMul i j ∧ Q (.int (i * j)) H) ∨ (∃ i j, x = .int i ∧ y = .int j ∧ CMulW i j ∧ Q (.int (i * j)) H) ∨ rRep x y H Q ∨ rRepT K x y H Q
theorem u_mul {K : PySem.W.Frag} (hK : X.K = K) : OpR X (binaryOp .Mult) (rMu K) := by
  subst hK
  exact fun pins s σ H x y v u Q I rx ry h => (OpR.or op_mul (OpR.or op_mulW (OpR.or op_rep op_repT))) pins s σ H x y v u Q I rx ry h.h
structure rEqU (K : PySem.W.Frag) (x y : V) (H : Hp) (Q : VK) : Prop where
  h : rEq x y H Q ∨ rEqD K x y H Q
theorem u_eq {K : PySem.W.Frag} (hK : X.K = K) (hu : X.A.units + 64 < cLine) : OpR X (compareOp .Eq) (rEqU K) := by
  subst hK
  exact fun pins s σ H x y v u Q I rx ry h => (OpR.or op_eq (op_eqD hu)) pins s σ H x y v u Q I rx ry h.h
structure rNeU (K : PySem.W.Frag) (x y : V) (H : Hp) (Q : VK) : Prop where
  h : rNe x y H Q ∨ rNeD K x y H Q
theorem u_ne {K : PySem.W.Frag} (hK : X.K = K) (hu : X.A.units + 64 < cLine) : OpR X (compareOp .NotEq) (rNeU K) := by
  subst hK
  exact fun pins s σ H x y v u Q I rx ry h => (OpR.or op_ne (op_neD hu)) pins s σ H x y v u Q I rx ry h.h
structure rLtU (x y : V) (H : Hp) (Q : VK) : Prop where
  h : (∃ i j, x = .int i ∧ y = .int j ∧ Q (.bl (decide (i < j))) H) ∨ (∃ i j, x = .str i ∧ y = .str j ∧ Q (.bl (decide (i.cps.toList < j.cps.toList))) H)
theorem u_lt : OpR X (compareOp .Lt) rLtU := fun pins s σ H x y v u Q I rx ry h => (OpR.or op_lt op_lt_str) pins s σ H x y v u Q I rx ry h.h
structure rLeU (x y : V) (H : Hp) (Q : VK) : Prop where
  h : (∃ i j, x = .int i ∧ y = .int j ∧ Q (.bl (decide (i ≤ j))) H) ∨ (∃ i j, x = .str i ∧ y = .str j ∧ Q (.bl (!decide (j.cps.toList < i.cps.toList))) H)
theorem u_le : OpR X (compareOp .LtE) rLeU := fun pins s σ H x y v u Q I rx ry h => (OpR.or op_le op_le_str) pins s σ H x y v u Q I rx ry h.h
structure rInU (K : PySem.W.Frag) (x y : V) (H : Hp) (Q : VK) : Prop where
  h : (∃ i j, x = .str i ∧ y = .str j ∧ Q (.bl (!(Builtin.Str.occurrences j i 0 j.length 1).isEmpty)) H) ∨ (∃ (c : Nat) (z : Str), x = .str ⟨#[c]⟩ ∧ y = .str z ∧ Q (.bl (decide (c ∈ z.cps.toList))) H) ∨ rIn K false x y H Q
theorem u_in {K : PySem.W.Frag} (hK : X.K = K) : OpR X (compareOp .In) (rInU K) := by
  subst hK
  exact fun pins s σ H x y v u Q I rx ry h => (OpR.or op_in_str (OpR.or op_in_sign op_in_seq)) pins s σ H x y v u Q I rx ry h.h
structure rNiU (K : PySem.W.Frag) (x y : V) (H : Hp) (Q : VK) : Prop where
  h : (∃ i j, x = .str i ∧ y = .str j ∧ Q (.bl (!(!(Builtin.Str.occurrences j i 0 j.length 1).isEmpty))) H) ∨ (∃ (c : Nat) (z : Str), x = .str ⟨#[c]⟩ ∧ y = .str z ∧ Q (.bl (!decide (c ∈ z.cps.toList))) H) ∨ rIn K true x y H Q
theorem u_ni {K : PySem.W.Frag} (hK : X.K = K) : OpR X (compareOp .NotIn) (rNiU K) := by
  subst hK
  exact fun pins s σ H x y v u Q I rx ry h => (OpR.or op_notin_str (OpR.or op_notIn_sign op_notIn_seq)) pins s σ H x y v u Q I rx ry h.h
structure rSlU (K : PySem.W.Frag) (x : V) (lo hi : Option Int) (H : Hp) (Q : VK) : Prop where
  h : rSlL K x lo hi H Q ∨ rSlA K x lo hi H Q ∨ rSlS x lo hi H Q
theorem u_sl {K : PySem.W.Frag} (hK : X.K = K) : SlR X (rSlU K) := by
  subst hK
  exact fun pins s σ H x v vl vu lo hi sl Q I rx hs pl pu h => (SlR.or sl_list (SlR.or sl_tupA sl_str)) pins s σ H x v vl vu lo hi sl Q I rx hs pl pu h.h
structure rIxU (K : PySem.W.Frag) (x y : V) (H : Hp) (Q : VK) : Prop where
  h : rIx K x y H Q
theorem u_ix {K : PySem.W.Frag} (hK : X.K = K) : IxR X (rIxU K) := by
  subst hK
  exact fun a b pins s σ H x y v u Q I rx ry h hs => ix_seq a b pins s σ H x y v u Q I rx ry h.h hs
end

/-! ### their answers -/
section
variable {K : PySem.W.Frag} {H : Hp} {Q : VK}
theorem a_ii {i j : Int} (q : Q (.int (i + j)) H) : rAdd K (.int i) (.int j) H Q := ⟨.inl ⟨_, _, rfl, rfl, q⟩⟩
theorem a_ss {i j : Str} (h : i.length + j.length ≤ sizeLine) (q : Q (.str (i ++ j)) H) : rAdd K (.str i) (.str j) H Q := ⟨.inr (.inl ⟨_, _, rfl, rfl, h, q⟩)⟩
theorem a_ll {l b : Addr} {xs zs : List V} (h1 : H l = some (.lst xs)) (h2 : H b = some (.lst zs)) (h : xs.length + zs.length ≤ sizeLine) (q : ∀ p, H p = none → Q (.ref p) (upd H p (.lst (xs ++ zs)))) : rAdd K (.ref l) (.ref b) H Q := ⟨.inr (.inr (.inl ⟨_, _, _, _, rfl, rfl, h1, h2, h, q⟩))⟩
theorem a_tt {a b : Addr} {xs ys : List V} (h1 : SqT K H a xs) (h2 : SqT K H b ys) (h : xs.length + ys.length ≤ sizeLine) (q1 : xs = [] → Q (.ref b) H) (q2 : xs ≠ [] → ys = [] → Q (.ref a) H) (q3 : xs ≠ [] → ys ≠ [] → ∀ p, H p = none → Q (.ref p) (upd H p (.tup (xs ++ ys)))) : rAdd K (.ref a) (.ref b) H Q := ⟨.inr (.inr (.inr ⟨_, _, _, _, rfl, rfl, h1, h2, h, q1, q2, q3⟩))⟩
theorem m_ii {i j : Int} (h : CMul i j) (q : Q (.int (i * j)) H) : rMu K (.int i) (.int j) H Q := ⟨.inl ⟨_, _, rfl, rfl, h, q⟩⟩
theorem m_tt {l : Addr} {k : Int} {xs : List V} (h1 : SqT K H l xs) (h2 : xs ≠ []) (h3 : 2 ≤ k) (h4 : k ≤ 1000) (h5 : xs.length ≤ 1000) (q : ∀ p, H p = none → Q (.ref p) (upd H p (.tup (List.replicate k.toNat xs).flatten))) : rMu K (.ref l) (.int k) H Q := ⟨.inr (.inr (.inr ⟨_, _, _, rfl, rfl, h1, h2, h3, h4, h5, q⟩))⟩
theorem md_ii {i j : Int} (h : j ≠ 0) (q : Q (.int (i.fmod j)) H) : rMd (.int i) (.int j) H Q := ⟨_, _, rfl, rfl, h, q⟩
theorem pw_ii {i j : Int} (h : CPow i j) (q : Q (.int (i ^ j.toNat)) H) : rPw (.int i) (.int j) H Q := ⟨_, _, rfl, rfl, h, q⟩
theorem ge_ii {i j : Int} (q : Q (.bl (decide (j ≤ i))) H) : rGe (.int i) (.int j) H Q := ⟨_, _, rfl, rfl, q⟩
theorem gt_ii {i j : Int} (q : Q (.bl (decide (j < i))) H) : rGt (.int i) (.int j) H Q := ⟨_, _, rfl, rfl, q⟩
theorem sb_ii {i j : Int} (q : Q (.int (i - j)) H) : rSb (.int i) (.int j) H Q := ⟨_, _, rfl, rfl, q⟩
theorem f_ii {i j : Int} (h : CDivN i j) (q : Q (.int (i.fdiv j)) H) : rFd (.int i) (.int j) H Q := ⟨.inl ⟨_, _, rfl, rfl, h, q⟩⟩
theorem e_flat {x y : V} (h : scal x y = true) (q : Q (.bl (decide (x = y))) H) : rEqU K x y H Q := ⟨.inl ⟨h, q⟩⟩
theorem e_data {x y : V} {d e : PyData} (h1 : Dp K H x d) (h2 : Dp K H y e) (h3 : SeqAt.shaped d = true) (h4 : SeqAt.shaped e = true) (q : Q (.bl (PyData.eqv d e)) H) : rEqU K x y H Q := ⟨.inr ⟨_, _, h1, h2, h3, h4, q⟩⟩
theorem n_flat {x y : V} (h : scal x y = true) (q : Q (.bl (!decide (x = y))) H) : rNeU K x y H Q := ⟨.inl ⟨h, q⟩⟩
theorem n_data {x y : V} {d e : PyData} (h1 : Dp K H x d) (h2 : Dp K H y e) (h3 : SeqAt.shaped d = true) (h4 : SeqAt.shaped e = true) (q : Q (.bl (!PyData.eqv d e)) H) : rNeU K x y H Q := ⟨.inr ⟨_, _, h1, h2, h3, h4, q⟩⟩
theorem l_ii {i j : Int} (q : Q (.bl (decide (i < j))) H) : rLtU (.int i) (.int j) H Q := ⟨.inl ⟨_, _, rfl, rfl, q⟩⟩
theorem l_ss {i j : Str} (q : Q (.bl (decide (i.cps.toList < j.cps.toList))) H) : rLtU (.str i) (.str j) H Q := ⟨.inr ⟨_, _, rfl, rfl, q⟩⟩
theorem le_ii {i j : Int} (q : Q (.bl (decide (i ≤ j))) H) : rLeU (.int i) (.int j) H Q := ⟨.inl ⟨_, _, rfl, rfl, q⟩⟩
theorem le_ss {i j : Str} (q : Q (.bl (!decide (j.cps.toList < i.cps.toList))) H) : rLeU (.str i) (.str j) H Q := ⟨.inr ⟨_, _, rfl, rfl, q⟩⟩
theorem in_sign {c : Nat} {z : Str} (q : Q (.bl (decide (c ∈ z.cps.toList))) H) : rInU K (.str ⟨#[c]⟩) (.str z) H Q := ⟨.inr (.inl ⟨_, _, rfl, rfl, q⟩)⟩
theorem ni_sign {c : Nat} {z : Str} (q : Q (.bl (!decide (c ∈ z.cps.toList))) H) : rNiU K (.str ⟨#[c]⟩) (.str z) H Q := ⟨.inr (.inl ⟨_, _, rfl, rfl, q⟩)⟩
theorem in_ss {i j : Str} (q : Q (.bl (!(Builtin.Str.occurrences j i 0 j.length 1).isEmpty)) H) : rInU K (.str i) (.str j) H Q := ⟨.inl ⟨_, _, rfl, rfl, q⟩⟩
theorem ni_ss {i j : Str} (q : Q (.bl (!(!(Builtin.Str.occurrences j i 0 j.length 1).isEmpty))) H) : rNiU K (.str i) (.str j) H Q := ⟨.inl ⟨_, _, rfl, rfl, q⟩⟩
theorem in_seq {x : V} {p : Addr} {xs : List V} (h : SqL K H p xs ∨ SqT K H p xs) (h1 : flatV x = true) (h2 : xs.all flatV = true) (q : Q (.bl (inV x xs)) H) : rInU K x (.ref p) H Q := ⟨.inr (.inr ⟨_, _, rfl, h, h1, h2, q⟩)⟩
theorem ni_seq {x : V} {p : Addr} {xs : List V} (h : SqL K H p xs ∨ SqT K H p xs) (h1 : flatV x = true) (h2 : xs.all flatV = true) (q : Q (.bl (!inV x xs)) H) : rNiU K x (.ref p) H Q := ⟨.inr (.inr ⟨_, _, rfl, h, h1, h2, q⟩)⟩
theorem x_l {p : Addr} {xs : List V} {i : Int} {v : V} (h : SqL K H p xs) (e : atI xs i = some v) (q : Q v H) : rIxU K (.ref p) (.int i) H Q := ⟨.inl ⟨_, _, _, _, rfl, rfl, h, e, q⟩⟩
theorem x_t {p : Addr} {xs : List V} {i : Int} {v : V} (h : SqT K H p xs) (e : atI xs i = some v) (q : Q v H) : rIxU K (.ref p) (.int i) H Q := ⟨.inr (.inl ⟨_, _, _, _, rfl, rfl, h, e, q⟩)⟩
theorem x_s {z : Str} {i : Int} {c : Nat} (h : z.length ≤ sizeLine) (e : atI z.cps.toList i = some c) (q : Q (.str ⟨#[c]⟩) H) : rIxU K (.str z) (.int i) H Q := ⟨.inr (.inr ⟨_, _, _, rfl, rfl, h, e, q⟩)⟩
theorem sl_l {a : Addr} {xs : List V} {lo hi : Option Int} (h : SqL K H a xs) (q : ∀ p, H p = none → Q (.ref p) (upd H p (.lst (cutV xs lo hi)))) : rSlU K (.ref a) lo hi H Q := ⟨.inl ⟨_, _, rfl, h, q⟩⟩
theorem sl_t {a : Addr} {xs : List V} {lo hi : Option Int} (h : SqT K H a xs) (q1 : HT.sIx xs.length 0 lo = 0 ∧ HT.sIx xs.length xs.length hi = xs.length → Q (.ref a) H)
    (q2 : ¬ (HT.sIx xs.length 0 lo = 0 ∧ HT.sIx xs.length xs.length hi = xs.length) → ∀ p, H p = none → Q (.ref p) (upd H p (.tup (cutV xs lo hi)))) : rSlU K (.ref a) lo hi H Q := ⟨.inr (.inl ⟨_, _, rfl, h, q1, q2⟩)⟩
end

/-! ### rules with K told apart -/
section
variable {X : Cx} {K : PySem.W.Frag} {tg : Expr}
theorem k_len (hK : X.K = K) : CallR X (.builtin "len") (fun xs H Q => ∃ x n, xs = [x] ∧ LenV K x H n ∧ Q (.int n) H) := by
  subst hK
  exact call_len
theorem k_list {l : Expr} {tl : TE} (hK : X.K = K) (hl : PE X l tl) : PI X tg l (iList K tl) := by
  subst hK
  exact pi_list hl
theorem k_tup {l : Expr} {tl : TE} (hK : X.K = K) (hl : PE X l tl) : PI X tg l (iTup K tl) := by
  subst hK
  exact pi_tup hl
structure rTupU (K : PySem.W.Frag) (x : V) (H : Hp) (Q : VK) : Prop where
  h : kTup K x H Q
theorem k_tuple {a : Expr} {ta : TE} {p pos : Pos} (hK : X.K = K) (hg : Gl X "tuple") (hm : X.mg "tuple" = none) (ha : PE X a ta) (na : starEach [a] X.env = (false, eval a X.env) :: starEach [] X.env := by rfl) :
    PE X (.Call (.Name "tuple" p) [a] [] pos) (fun σ H Q => ta σ H fun x H1 => rTupU K x H1 Q) := by
  subst hK
  refine ⟨fun pins s σ H Q I h => Call_ (ld_blt I hg hm boot_tuple (PyProof.Rows.callWith_type1 ?_ na))⟩
  exact one_arg ha I h (fun v s2 x H2 I2 r q => rl_tuple pins s2 σ H2 x v Q I2 r q.h) na
theorem k_join {o e : Expr} {to te : TE} {apos pos : Pos} (hK : X.K = K) (ho : PE X o to) (he : PE X e te) (hs : starEach [e] X.env = [(false, eval e X.env)] := by rfl) (hbase : attributeBase o "join" X.env (eval o X.env) = eval o X.env := by rfl) (hline : (apos.endLine == pos.line) = true := by rfl) :
    PE X (.Call (.Attribute o "join" apos) [e] [] pos) (tM1 (fun x xs H Q => ∃ a p, ∃ ys : List Str, x = .str a ∧ xs = [.ref p] ∧ (SqL K H p (ys.map V.str) ∨ SqT K H p (ys.map V.str)) ∧
      (ys.map (·.length)).sum + ys.length * a.length ≤ 16777216 ∧ Q (.str (Txt.join a ys)) H) to te) := by
  subst hK
  exact pe_join ho he hs hbase hline
theorem k_any (hK : X.K = K) (hc : X.calm = true) : CallR X (.builtin "any") (rAny K) := by
  subst hK
  exact cr_any hc
theorem k_all (hK : X.K = K) (hc : X.calm = true) : CallR X (.builtin "all") (rAll K) := by
  subst hK
  exact cr_all hc
theorem k_sum (hK : X.K = K) (hc : X.calm = true) : CallR X (.builtin "sum") (rSum K) := by
  subst hK
  exact cr_sum hc
theorem kg_tup {es : List Expr} {k : Nat} {t : TGs} {pos : Pos} (n : Nat) (hK : X.K = K) (hc : X.calm = true) (h : PGs X es t)
    (hn : (assignEach es X.env).length = n := by rfl) (hst : (assignEach es X.env).findIdx? (·.1) = none := by rfl) : PG X (.Tuple es k pos) (gTup K n t) := by
  subst hK
  exact pg_tup hc h hn hst
theorem k_enum {e : Expr} {ta : TA} {p pos tpos : Pos} {elts : List Expr} {kk : Nat} (hK : X.K = K) (hg : Gl X "enumerate") (hm : X.mg "enumerate" = none) (ha : PA X [e] ta) (hs : starEach [e] X.env = [(false, eval e X.env)] := by rfl) :
    PI X (.Tuple elts kk tpos) (.Call (.Name "enumerate" p) [e] [] pos) (iEnum K ta) := by
  subst hK
  exact pi_enum hg hm ha hs
theorem k_zip {e e2 : Expr} {ta : TA} {p pos tpos : Pos} {elts : List Expr} {kk : Nat} (hK : X.K = K) (hg : Gl X "zip") (hm : X.mg "zip" = none) (ha : PA X [e, e2] ta) (hs : starEach [e, e2] X.env = (false, eval e X.env) :: starEach [e2] X.env := by rfl) (hpl : (backTo pos (starEach [e2] X.env)).any (·.1) = false := by rfl) :
    PI X (.Tuple elts kk tpos) (.Call (.Name "zip" p) [e, e2] [] pos) (RZ.iZipA K ta) := by
  subst hK
  exact RZ.pi_zipA hg hm ha hs hpl
end

/-! ### defs by their names -/
/-- the def x of the module keeps the promise sp -/
structure Df (P : Program) (w : World) (K : PySem.W.Frag) (mg : Str → Option Value) (base : Heap) (x : Str) (k : Nat) (ps : List Str) (sp : Sp) : Prop where
  ex : ∃ (f : Addr) (fd : FuncData), FnOk P w K mg base CX0 k f fd ps sp ∧ mg x = some (.ref f) ∧ PySem.W.keepIn K (.ref f) = true ∧ Binds K fd ps []
structure DfG (P : Program) (w : World) (K : PySem.W.Frag) (mg : Str → Option Value) (base : Heap) (x : Str) (k : Nat) (ps : List Str) (sp : Sp) : Prop where
  ex : ∃ (f : Addr) (fd : FuncData), FnG P w K mg base CX0 k f fd ps sp ∧ mg x = some (.ref f) ∧ PySem.W.keepIn K (.ref f) = true ∧ Binds K fd ps []
section
variable {X : Cx} {k j : Nat} {x : Str} {ps : List Str} {sp : Sp} {p pos : Pos} {e : Expr} {es : List Expr} {t : TA}
theorem pe_fn (D : Df X.prog X.w X.K X.mg X.base x k ps sp) (hr : Room j X.A) (hk : k ≤ j) (hg : Gl X x) (ha : PA X (e :: es) t) (hdb : (x == ("__debug__" : Str)) = false := by decide)
    (he : starEach (e :: es) X.env = (false, eval e X.env) :: starEach es X.env := by rfl) (hpl : (backTo pos (starEach es X.env)).any (·.1) = false := by rfl) : PE X (.Call (.Name x p) (e :: es) [] pos) (tCall sp [] E0 t) := by
  obtain ⟨f, fd, F, hm, hkp, hb⟩ := D.ex
  exact pe_call F (hr.mono hk) hg hm hkp hb .nil pass0 ha hdb he hpl
theorem pe_fn0 (D : Df X.prog X.w X.K X.mg X.base x k ps sp) (hr : Room j X.A) (hk : k ≤ j) (hg : Gl X x) (hdb : (x == ("__debug__" : Str)) = false := by decide) : PE X (.Call (.Name x p) [] [] pos) (tCall sp [] E0 tNil) := by
  obtain ⟨f, fd, F, hm, hkp, hb⟩ := D.ex
  exact pe_call0 F (hr.mono hk) hg hm hkp hb .nil pass0 hdb
theorem pe_fnG (hgu : X.A.guards = some []) (D : DfG X.prog X.w X.K X.mg X.base x k ps sp) (hr : Room j X.A) (hk : k ≤ j) (hg : Gl X x) (ha : PA X (e :: es) t) (hdb : (x == ("__debug__" : Str)) = false := by decide)
    (he : starEach (e :: es) X.env = (false, eval e X.env) :: starEach es X.env := by rfl) (hpl : (backTo pos (starEach es X.env)).any (·.1) = false := by rfl) : PE X (.Call (.Name x p) (e :: es) [] pos) (tCall sp [] E0 t) := by
  obtain ⟨f, fd, F, hm, hkp, hb⟩ := D.ex
  exact pe_callG hgu F (hr.mono hk) hg hm hkp hb .nil pass0 ha hdb he hpl
/-- a module's plain constant -/
theorem pe_gl {v : V} {pos : Pos} (h : ∃ u, X.mg x = some u ∧ RelV v u) (hg : Gl X x) (hd : (x == ("__debug__" : Str)) = false := by decide) : PE X (.Name x pos) (tC v) := by
  obtain ⟨u, hm, r⟩ := h
  exact pe_glob hg hm r hd
/-- a module's object -/
theorem pe_ref {a : Addr} {pos : Pos} (hg : Gl X x) (hm : X.mg x = some (.ref a)) (hd : (x == ("__debug__" : Str)) = false := by decide) : PE X (.Name x pos) (tC (.ref a)) := pe_glob hg hm rfl hd
/-- a built-in class's name as a value -/
theorem pe_ty {T : String} {pos : Pos} (hg : Gl X x) (hm : X.mg x = none) (hv : bootBuiltins x = some (.type T)) (hn : x ≠ "__name__" := by decide) (hd : (x == ("__debug__" : Str)) = false := by decide) : PE X (.Name x pos) (tC (.ty T)) :=
  pe_bltn hg hm hv rfl hn hd
end

section
variable {P : Program} {w : World} {K : PySem.W.Frag} {mg : Str → Option Value} {base : Heap} {CX : CXT} {k : Nat} {fd : FuncData} {ps : List Str} {sp : Sp}
  {x qual : Str} {params : Arguments} {body : List Stmt} {scope : Scope} {dvs : List V} {kws : List (Str × V)} {N : List Str} {p : He.Defn}
/-- a def's body, its own code object told -/
theorem okP (F : FunD K x qual params body scope dvs kws (He.fAd K p) fd) (S : FnScope N ps scope) (len : ∀ vs H Q E, sp vs H Q E → vs.length = ps.length)
    (hbody : ∀ (A : Around) (outer : List Env) (s : Shared) (H : Hp) (vs : List V) (Q : VK) (E : XK), Room k (A.deeper (envOfC qual scope s.heap.objs.size (He.fAd K p) (.ref (He.codeOf K p)))) → sp vs H Q E →
      ∃ t, PSs (cxOf CX P w K mg base N qual scope (He.fAd K p) (.ref (He.codeOf K p)) A outer s H E).nox body t ∧ t { nx := fun _ H' => Q .non H', rt := Q } (start N vs) H) : FnOk P w K mg base CX (k + 1) (He.fAd K p) fd ps sp := by
  obtain ⟨oc, od, dV, kV, doc, pm, an, cdv, ct, osl, rfl, lk, hcd, _, _⟩ := F.ex
  obtain ⟨c, rfl⟩ := He.codeIn_ref hcd
  have e : He.codeOf K p = c := He.codeOf_eq lk rfl
  subst e
  refine fn_of lk hcd S len fun A outer s H vs Q E hr hsp => ?_
  obtain ⟨t, h, q⟩ := hbody A outer s H vs Q E hr hsp
  exact ⟨t, h.nox, q⟩
theorem okQ (F : FunD K x qual params body scope dvs kws (He.fAd K p) fd) (S : FnScope N ps scope) (len : ∀ vs H Q E, sp vs H Q E → vs.length = ps.length)
    (hbody : ∀ (A : Around) (outer : List Env) (s : Shared) (H : Hp) (vs : List V) (Q : VK) (E : XK), A.guards = some [] → Room k (A.deeper (envOfC qual scope s.heap.objs.size (He.fAd K p) (.ref (He.codeOf K p)))) → sp vs H Q E →
      ∃ t, PSs (cxOf CX P w K mg base N qual scope (He.fAd K p) (.ref (He.codeOf K p)) A outer s H E).nox body t ∧ t { nx := fun _ H' => Q .non H', rt := Q } (start N vs) H) : FnG P w K mg base CX (k + 1) (He.fAd K p) fd ps sp := by
  obtain ⟨oc, od, dV, kV, doc, pm, an, cdv, ct, osl, rfl, lk, hcd, _, _⟩ := id F.ex
  obtain ⟨c, rfl⟩ := He.codeIn_ref hcd
  have e : He.codeOf K p = c := He.codeOf_eq lk rfl
  subst e
  refine okG F S len fun cdv hcv A outer s H vs Q E hg hr hsp => ?_
  have hcv : cdv = .ref (He.codeOf K p) := hcv.symm
  subst hcv
  obtain ⟨t, h, q⟩ := hbody A outer s H vs Q E hg hr hsp
  exact ⟨t, h.nox, q⟩
end

theorem dvi (a b : Int) : decide (V.int a = V.int b) = decide (a = b) := by
  rw [decide_eq_decide]
  exact ⟨fun h => by injection h, fun h => by rw [h]⟩
theorem dvs (a b : Str) : decide (V.str a = V.str b) = decide (a = b) := by
  rw [decide_eq_decide]
  exact ⟨fun h => by injection h, fun h => by rw [h]⟩
theorem not_true_iff {b : Bool} : (!b) = true ↔ b = false := by cases b <;> simp

/-! ### a heap that has only grown -/
/-- all that was tracked stands, tables perhaps longer -/
def Gr (H H' : Hp) : Prop := ∀ b o, H b = some o → (H' b = some o ∨ ∃ ps more, o = .tbl ps ∧ H' b = some (.tbl (ps ++ more)) ∧ (TriplesOk ps.toList → TriplesOk (ps ++ more).toList))
theorem Gr.refl (H : Hp) : Gr H H := fun _ _ h => .inl h
theorem Gr.trans {H H1 H2 : Hp} (a : Gr H H1) (b : Gr H1 H2) : Gr H H2 := by
  intro c o h
  rcases a c o h with h1 | ⟨ps, m1, rfl, h1, t1⟩
  · exact b c o h1
  · rcases b c _ h1 with h2 | ⟨qs, m2, e, h2, t2⟩
    · exact .inr ⟨ps, m1, rfl, h2, t1⟩
    · cases e
      exact .inr ⟨ps, m1 ++ m2, rfl, by rw [← Array.append_assoc]; exact h2, fun z => by rw [← Array.append_assoc]; exact t2 (t1 z)⟩
theorem Gr.keep {H H' : Hp} (g : Gr H H') {b : Addr} {o : HO} (h : H b = some o) (n : ∀ ps, o ≠ .tbl ps) : H' b = some o := by
  rcases g b o h with h1 | ⟨ps, _, rfl, _⟩
  · exact h1
  · exact absurd rfl (n ps)
theorem Gr.new {H : Hp} {p : Addr} {o : HO} (h : H p = none) : Gr H (upd H p o) := fun b u e => .inl (by rw [upd_ne (ne_of_none e h)]; exact e)
theorem Gr.upd' {H H' : Hp} {p : Addr} {o : HO} (g : Gr H H') (h : H p = none) : Gr H (upd H' p o) := fun b u e => by
  rw [upd_ne (ne_of_none e h)]
  exact g b u e
theorem Gr.free {H H' : Hp} (g : Gr H H') {b : Addr} (h : H' b = none) : H b = none := by
  cases q : H b with
  | none => rfl
  | some o =>
    rcases g b o q with h1 | ⟨_, _, _, h1, _⟩
    · rw [h] at h1; cases h1
    · rw [h] at h1; cases h1
theorem Gr.tabb {P : Addr} {H H' : Hp} (h : Tabb P H H') : Gr H H' := by
  obtain ⟨ps, more, h1, t1, t2, rfl⟩ := h
  intro b o e
  by_cases hb : b = P
  · subst hb
    rw [h1] at e
    cases e
    exact .inr ⟨ps, more, rfl, upd_same, fun _ => t2⟩
  · exact .inl (by rw [upd_ne hb]; exact e)
theorem Gr.tabG {P : Addr} {H H' : Hp} (g : Gr H H') (h : TabG H P) : TabG H' P := by
  obtain ⟨ps, h1, t1⟩ := h
  rcases g P _ h1 with q | ⟨qs, more, e, q, t⟩
  · exact ⟨ps, q, t1⟩
  · cases e
    exact ⟨_, q, t t1⟩
theorem Gr.seqT {K : PySem.W.Frag} {H H' : Hp} (g : Gr H H') {a : Addr} {xs : List V} (h : SqT K H a xs) : SqT K H' a xs := by
  rcases h with (h | ⟨o, h⟩) | h
  · exact .inl (.inl (g.keep h (fun _ z => by cases z)))
  · exact .inl (.inr ⟨o, g.keep h (fun _ z => by cases z)⟩)
  · exact .inr h
theorem Gr.seqL {K : PySem.W.Frag} {H H' : Hp} (g : Gr H H') {a : Addr} {xs : List V} (h : SqL K H a xs) : SqL K H' a xs := by
  rcases h with (h | ⟨o, h⟩) | h
  · exact .inl (.inl (g.keep h (fun _ z => by cases z)))
  · exact .inl (.inr ⟨o, g.keep h (fun _ z => by cases z)⟩)
  · exact .inr h
mutual
theorem Gr.dd {K : PySem.W.Frag} {H H' : Hp} (g : Gr H H') : ∀ (d : PyData) (v : V), Dd K H v d → Dd K H' v d
  | .none, _, h => by cases h; exact .non
  | .bool _, _, h => by cases h; exact .bl _
  | .int _, _, h => by cases h; exact .int _
  | .str _, _, h => by cases h; exact .str _
  | .list ds, _, h => by
    cases h with
    | lst a b => exact .lst (g.seqL a) (Gr.ddA g ds _ b)
  | .tuple ds, _, h => by
    cases h with
    | tup a b => exact .tup (g.seqT a) (Gr.ddA g ds _ b)
  | .dict _, _, h => by
    cases h with
    | dct a => exact .dct (g.keep a (fun _ z => by cases z))
theorem Gr.ddA {K : PySem.W.Frag} {H H' : Hp} (g : Gr H H') : ∀ (ds : List PyData) (vs : List V), DdAll K H vs ds → DdAll K H' vs ds
  | [], _, h => by cases h; exact .nil
  | d :: ds, _, h => by
    cases h with
    | cons a b => exact .cons (Gr.dd g d _ a) (Gr.ddA g ds _ b)
end

/-! ### a walk of enumerate over a list that stays -/
theorem for_enum {K : PySem.W.Frag} {a : Addr} {xs : List V} {g : TG} {tb : TS} {D : Ends} {σ : L2.St} {H : Hp} (Pv : Nat → L2.St → Hp → Prop) (h0 : Pv 0 σ H) (hl : ∀ i σ H, i ≤ xs.length → Pv i σ H → SqL K H a xs)
    (hs : ∀ i x T σ H, xs[i]? = some x → Pv i σ H → H T = none → g (.ref T) σ (upd H T (.tup [.int (i : Nat), x])) fun σ2 H2 => tb { D with nx := Pv (i + 1), ct := Pv (i + 1), bk := D.nx } σ2 H2) (hd : ∀ σ H, Pv xs.length σ H → D.nx σ H) :
    ∃ W : Nat → Nat → L2.St → Hp → Prop, (∃ m, W 0 m σ H) ∧ ∀ i m σ H, W i m σ H →
      ((Ite K a).stop i H ∧ D.nx σ H) ∨ ((Ite K a).go i H ∧ ∃ N : L2.St → Hp → Prop, (∀ σ' H', N σ' H' → ∃ m', m' < m ∧ W (i + 1) m' σ' H') ∧ ∀ x H', (Ite K a).yld i H x H' → g x σ H' fun σ2 H2 => tb { D with nx := N, ct := N, bk := D.nx } σ2 H2) := by
  refine ⟨fun i m σ H => i + m = xs.length ∧ Pv i σ H, ⟨xs.length, Nat.zero_add _, h0⟩, fun i m σ H ⟨hm, p⟩ => ?_⟩
  have hq := hl i σ H (by omega) p
  cases m with
  | zero =>
    have e : i = xs.length := by omega
    subst e
    exact Or.inl ⟨⟨xs, hq, Nat.le_refl _⟩, hd σ H p⟩
  | succ m =>
    have hi : i < xs.length := by omega
    refine Or.inr ⟨⟨xs, xs[i], hq, List.getElem?_eq_getElem hi⟩, Pv (i + 1), fun σ' H' p' => ⟨m, Nat.lt_succ_self _, by omega, p'⟩, ?_⟩
    rintro x H' ⟨T, y, rfl, hT, rfl, hy⟩
    exact hs i y T σ H (hy xs hq) p hT
end Vf
end
section
set_option Elab.async false
set_option linter.all false
set_option maxRecDepth 100000
set_option maxHeartbeats 4000000
namespace Vf
open PySem PySem.Spec PyProof.Rows L2 GxR GenW
def top (i : Nat) : Stmt := PySem.Challenge.pw_clipforms_k71_whole_programs_refused.main.body.getD i (.Pass ⟨0, 0, 0, 0⟩)
abbrev s__law_churned : Stmt := top 36
abbrev n__law_churned : List Str := ["seed", "lap", "prime", "amount", "again"]
abbrev p__law_churned : List Str := ["seed", "lap"]
theorem sc__law_churned : FnScope n__law_churned p__law_churned (defScope s__law_churned) := ⟨rfl, rfl, rfl, by decide +kernel, rfl, by decide +kernel, by decide +kernel⟩

abbrev s__law_urn_of : Stmt := top 37
abbrev n__law_urn_of : List Str := ["script", "cell", "cells", "place"]
abbrev p__law_urn_of : List Str := ["script"]
theorem sc__law_urn_of : FnScope n__law_urn_of p__law_urn_of (defScope s__law_urn_of) := ⟨rfl, rfl, rfl, by decide +kernel, rfl, by decide +kernel, by decide +kernel⟩

abbrev s__law_upto : Stmt := top 38
abbrev n__law_upto : List Str := ["urn", "bound", "cells", "place", "amount", "found"]
abbrev p__law_upto : List Str := ["urn", "bound"]
theorem sc__law_upto : FnScope n__law_upto p__law_upto (defScope s__law_upto) := ⟨rfl, rfl, rfl, by decide +kernel, rfl, by decide +kernel, by decide +kernel⟩

abbrev s__law_choice : Stmt := top 39
abbrev n__law_choice : List Str := ["urn", "items"]
abbrev p__law_choice : List Str := ["urn", "items"]
theorem sc__law_choice : FnScope n__law_choice p__law_choice (defScope s__law_choice) := ⟨rfl, rfl, rfl, by decide +kernel, rfl, by decide +kernel, by decide +kernel⟩

abbrev s__law_equal : Stmt := top 40
abbrev n__law_equal : List Str := ["one", "other"]
abbrev p__law_equal : List Str := ["one", "other"]
theorem sc__law_equal : FnScope n__law_equal p__law_equal (defScope s__law_equal) := ⟨rfl, rfl, rfl, by decide +kernel, rfl, by decide +kernel, by decide +kernel⟩

/-- what the module's names are -/
structure TX (mg : Str → Option Value) : Prop where
  b_range : mg "range" = none
  b_abs : mg "abs" = none
  b_enumerate : mg "enumerate" = none
  b_len : mg "len" = none
  b_int : mg "int" = none
  b_repr : mg "repr" = none

local macro_rules | `(tactic| walk_at "rd") => `(tactic| repeat (first
  | refine ⟨_, rfl, ?_⟩ | refine a_ii ?_ | (refine m_ii (by first | exact .inl ⟨by decide, by decide⟩ | exact .inr ⟨by decide, by decide⟩) ?_) | refine md_ii (by decide) ?_ | refine sb_ii ?_ | refine l_ii ?_ | refine le_ii ?_ | refine ge_ii ?_ | refine gt_ii ?_ | refine e_flat rfl ?_ | refine n_flat rfl ?_))
/-! ### the urn -/
/-- an urn stands at u: what stays of it is that it holds a list of ints and three ints -/
def Urn (c : Addr) (H : Hp) (u : Addr) : Prop := ∃ (ns : List Int) (p a r : Int), H u = some (.lst [.ref c, .int p, .int a, .int r]) ∧ H c = some (.lst (ns.map V.int))
/-- grown, but for what stands at u -/
def GrU (u : Addr) (H H' : Hp) : Prop := ∀ b o, b ≠ u → H b = some o → (H' b = some o ∨ ∃ ps more, o = .tbl ps ∧ H' b = some (.tbl (ps ++ more)) ∧ (TriplesOk ps.toList → TriplesOk (ps ++ more).toList))
theorem GrU.refl (u : Addr) (H : Hp) : GrU u H H := fun _ _ _ h => .inl h
theorem Gr.u {u : Addr} {H H' : Hp} (g : Gr H H') : GrU u H H' := fun b o _ h => g b o h
theorem GrU.trans {u : Addr} {H H1 H2 : Hp} (a : GrU u H H1) (b : GrU u H1 H2) : GrU u H H2 := by
  intro c o hc h
  rcases a c o hc h with h1 | ⟨ps, m1, rfl, h1, t1⟩
  · exact b c o hc h1
  · rcases b c _ hc h1 with h2 | ⟨qs, m2, e, h2, t2⟩
    · exact .inr ⟨ps, m1, rfl, h2, t1⟩
    · cases e
      exact .inr ⟨ps, m1 ++ m2, rfl, by rw [← Array.append_assoc]; exact h2, fun z => by rw [← Array.append_assoc]; exact t2 (t1 z)⟩
theorem GrU.upd {u : Addr} {H H' : Hp} {o : HO} (g : GrU u H H') : GrU u H (upd H' u o) := fun b w hb h => by
  rw [upd_ne hb]
  exact g b w hb h
theorem GrU.keep {u : Addr} {H H' : Hp} (g : GrU u H H') {b : Addr} {o : HO} (hb : b ≠ u) (h : H b = some o) (n : ∀ ps, o ≠ .tbl ps) : H' b = some o := by
  rcases g b o hb h with h1 | ⟨ps, _, rfl, _⟩
  · exact h1
  · exact absurd rfl (n ps)
theorem urn_ne {H : Hp} {u c : Addr} {ns : List Int} {p a r : Int} (h1 : H u = some (.lst [.ref c, .int p, .int a, .int r])) (h2 : H c = some (.lst (ns.map V.int))) : c ≠ u := by
  rintro rfl
  rw [h1] at h2
  have e : ([.ref c, .int p, .int a, .int r] : List V) = ns.map V.int := by injection h2 with h2; injection h2
  cases ns with
  | nil => cases e
  | cons z zs =>
    rw [List.map_cons] at e
    injection e with e1 _
    cases e1
/-- what is no list of values stays so -/
theorem GrU.notu {u c : Addr} {H H' : Hp} (g : GrU u H H') (hu : Urn c H u) {b : Addr} {o : HO} (h : H b = some o) (n : ∀ xs, o ≠ .lst xs) (n2 : ∀ ps, o ≠ .tbl ps) : H' b = some o := by
  refine g.keep ?_ h n2
  rintro rfl
  obtain ⟨ns, p, a, r, h1, _⟩ := hu
  rw [h1] at h
  cases h
  exact n _ rfl

def spChurned : Sp := fun vs H Q _ => ∃ s l : Int, vs = [.int s, .int l] ∧ ∀ r : Int, Q (.int r) H
def spUrnOf (K : PySem.W.Frag) : Sp := fun vs H Q _ => ∃ (a : Addr) (ns : List Int), vs = [.ref a] ∧ SqL K H a (ns.map V.int) ∧ ns.length ≤ 63 ∧ ∀ u c H', H u = none → H c = none → Gr H H' → Urn c H' u → Q (.ref u) H'
def spUpto : Sp := fun vs H Q _ => ∃ (u c : Addr) (b : Int), vs = [.ref u, .int b] ∧ Urn c H u ∧ 0 < b ∧ b < 1073741824 ∧ ∀ r H', 0 ≤ r → r < b → GrU u H H' → Urn c H' u → Q (.int r) H'
def spChoice (K : PySem.W.Frag) : Sp := fun vs H Q _ => ∃ (u c it : Addr) (xs : List V), vs = [.ref u, .ref it] ∧ Urn c H u ∧ it ≠ u ∧ (SqL K H it xs ∨ SqT K H it xs) ∧ xs ≠ [] ∧ xs.length < 1073741824 ∧ ∀ x H', x ∈ xs → GrU u H H' → Urn c H' u → Q x H'
def spEqual (K : PySem.W.Frag) : Sp := fun vs H Q _ => ∃ (x y : V) (d e : PyData), vs = [x, y] ∧ Dd K H x d ∧ Dd K H y e ∧ (d.showable = true ∧ (d.hasDict = true → noLst d = true) ∧ d.depth < 60 ∧ d.shown.length ≤ sizeLine) ∧
  (e.showable = true ∧ (e.hasDict = true → noLst e = true) ∧ e.depth < 60 ∧ e.shown.length ≤ sizeLine) ∧ Q (.bl (decide (V.str d.shown = V.str e.shown))) H
section
variable {P : Program} {w : World} {K : PySem.W.Frag} {mg : Str → Option Value} {base : Heap}
abbrev FnP (K : PySem.W.Frag) (x : Str) (st : Stmt) (fd : FuncData) : Prop := FunD K x x (defArgs st) (defBody st) (defScope st) [] [] (He.fAd K (x, none)) fd
theorem ok_churned {fd : FuncData} (F : FnP K "_law_churned" s__law_churned fd) (T : TX mg) : FnOk P w K mg base CX0 1 (He.fAd K ("_law_churned", none)) fd p__law_churned spChurned := by
  refine okP F sc__law_churned (fun vs H Q E h => by obtain ⟨s, l, rfl, _⟩ := h; rfl) (fun A outer s H vs Q E hr h => ?_)
  obtain ⟨a, l, rfl, k⟩ := h
  refine ⟨_, (pss_cons (ps_set (i := 2) sc__law_churned.nd rfl (by first | exact Or.inl rfl | exact Or.inr rfl) pe_int)
      (pss_cons (ps_set (i := 3) sc__law_churned.nd rfl (by first | exact Or.inl rfl | exact Or.inr rfl) (pe_op u_mod (pe_op (u_add (K := K) rfl) (pe_op (u_add (K := K) rfl) (pe_op (u_mul (K := K) rfl) (pv 0) pe_int) (pe_op (u_mul (K := K) rfl) (pv 1) pe_int)) pe_int) (pv 2)))
      (pss_cons (ps_for PassesOwn.never rfl (pi_range1 rfl T.b_range (pa_cons pe_int pa_nil)) (pg_name (i := 4) sc__law_churned.nd rfl (by first | exact Or.inl rfl | exact Or.inr rfl))
      (pss_one (ps_set (i := 3) sc__law_churned.nd rfl (by first | exact Or.inl rfl | exact Or.inr rfl) (pe_op u_mod (pe_op (u_add (K := K) rfl) (pe_op (u_add (K := K) rfl) (pe_op (u_add (K := K) rfl) (pe_op (u_mul (K := K) rfl) (pv 3) (pv 3)) (pe_op (u_mul (K := K) rfl) pe_int (pv 3))) (pe_op (u_mul (K := K) rfl) pe_int (pv 4))) (pv 1)) (pv 2)))))
      (pss_one (ps_ret (pe_op (u_add (K := K) rfl) (pe_op (u_mul (K := K) rfl) (pv 3) (pv 2)) (pe_op u_mod (pe_op (u_add (K := K) rfl) (pe_op (u_mul (K := K) rfl) (pv 3) pe_int) (pv 1)) (pv 2)))))))), ?_⟩
  have hm : ∀ x : Int, x.fmod 2305843009213693921 < 2 ^ 64 ∧ -(2 ^ 64) < x.fmod 2305843009213693921 := fun x => by
    have h1 := Int.fmod_nonneg_of_pos x (b := 2305843009213693921) (by decide)
    have h2 := Int.fmod_lt_of_pos x (b := 2305843009213693921) (by decide)
    omega
  walk_at "rd"
  refine ⟨by decide, by decide, for_range (n := 4) (fun i σ H' => H' = H ∧ ∃ (x : Int) (o : Option V), σ = [some (.int a), some (.int l), some (.int 2305843009213693921), some (.int (x.fmod 2305843009213693921)), o]) ⟨rfl, _, _, rfl⟩ ?_ ?_⟩
  · rintro i σ H' hi ⟨rfl, x, o, rfl⟩
    have := hm x
    walk_at "rd"
    refine m_ii (.inl ⟨this.2, this.1⟩) ?_
    walk_at "rd"
    exact ⟨rfl, _, _, rfl⟩
  · rintro σ H' ⟨rfl, x, o, rfl⟩
    have := hm x
    walk_at "rd"
    exact k _

theorem urn_upd {H : Hp} {u c : Addr} {ns : List Int} {p a r p' a' r' : Int} (h1 : H u = some (.lst [.ref c, .int p, .int a, .int r])) (h2 : H c = some (.lst (ns.map V.int))) : Urn c (upd H u (.lst [.ref c, .int p', .int a', .int r'])) u :=
  ⟨ns, p', a', r', upd_same, by rw [upd_ne (urn_ne h1 h2)]; exact h2⟩
theorem dp_ints {H : Hp} : ∀ ns : List Int, DpAll K H (ns.map V.int) (ns.map PyData.int)
  | [] => .nil
  | z :: zs => .cons (.int z) (dp_ints zs)
theorem lay_ints : ∀ ns : List Int, PyData.canLayAll0 (ns.map PyData.int) = true
  | [] => rfl
  | z :: zs => by
    show (PyData.canLay0 (.int z) && PyData.canLayAll0 (zs.map PyData.int)) = true
    rw [lay_ints zs]; rfl
theorem dep_ints : ∀ ns : List Int, PyData.depthAll (ns.map PyData.int) ≤ 1
  | [] => Nat.zero_le _
  | z :: zs => by
    have := dep_ints zs
    simp only [List.map_cons, PyData.depthAll, PyData.depth]
    omega
theorem shp_ints (ns : List Int) : SeqAt.shaped (.list (ns.map PyData.int)) = true := by
  unfold SeqAt.shaped
  have h1 : PyData.canLay0 (.list (ns.map PyData.int)) = true := lay_ints ns
  have h2 := dep_ints ns
  have h3 : PyData.depth (.list (ns.map PyData.int)) ≤ 64 := by simp only [PyData.depth]; omega
  rw [h1, decide_eq_true h3]; rfl
theorem ok_upto {fd : FuncData} (F : FnP K "_law_upto" s__law_upto fd) (T : TX mg) (D__law_churned : Df P w K mg base "_law_churned" 1 p__law_churned spChurned) : FnOk P w K mg base CX0 2 (He.fAd K ("_law_upto", none)) fd p__law_upto spUpto := by
  refine okP F sc__law_upto (fun vs H Q E h => by obtain ⟨s, c, l, rfl, _⟩ := h; rfl) (fun A outer s H vs Q E hr h => ?_)
  obtain ⟨u, c, b, rfl, ⟨ns, p, a, r, h1, h2⟩, hb, hb2, k⟩ := h
  have hcu := urn_ne h1 h2
  refine ⟨_, (C8.pss_cut (ps_if (pt_cmpR u_lt (pe_ix (u_ix (K := K) rfl) (pv 0) pe_int (fun _ _ => rfl)) (pv 1) (nomark _))
      (pss_cons (ps_par (i := 2) (j := 3) (by rfl) sc__law_upto.nd rfl rfl (by decide) rfl rfl (pa_cons (pe_ix (u_ix (K := K) rfl) (pv 0) pe_int (fun _ _ => rfl)) (pa_cons (pe_ix (u_ix (K := K) rfl) (pv 0) pe_int (fun _ _ => rfl)) pa_nil)) (by rfl))
      (C8.pss_cut (ps_set (i := 4) sc__law_upto.nd rfl (by first | exact Or.inl rfl | exact Or.inr rfl) (pe_ifExp (pt_cmpR (u_ne (K := K) rfl hr.units) (pv 2) (pe_lst pa_nil) (nomark _)) (pe_ix (u_ix (K := K) rfl) (pv 2) (pe_op u_mod (pv 3) (pe_callB (k_len (K := K) rfl) rfl T.b_len (by decide +kernel) (pa_cons (pv 2) pa_nil))) (fun _ _ => rfl)) pe_int))
      (C8.pss_cut (ps_if (PW.pt (pw_or (pt_cmpR u_ge (pv 3) (pe_callB (k_len (K := K) rfl) rfl T.b_len (by decide +kernel) (pa_cons (pv 2) pa_nil)) (nomark _)) (pw_or1 (pt_cmpR u_lt (pv 4) (pe_op u_pow pe_int pe_int) (nomark _)))))
      (pss_one (ps_set (i := 4) sc__law_upto.nd rfl (by first | exact Or.inl rfl | exact Or.inr rfl) (pe_fn D__law_churned hr (by decide) rfl (pa_cons (pe_op u_mod (pe_callTy call_int1 rfl T.b_int (by decide +kernel) (pa_cons (pv 4) pa_nil)) pe_int) (pa_cons (pv 3) pa_nil)))))
      pss_nil)
      (pss_cons (ps_asg (pe_op (u_add (K := K) rfl) (pv 3) pe_int) (pg_sub (pv 0) pe_int set_list))
      (pss_cons (ps_asg (pv 4) (pg_sub (pv 0) pe_int set_list))
      (pss_one (ps_asg (pv 4) (pg_sub (pv 0) pe_int set_list))))))))
      pss_nil)
      (pss_cons (ps_set (i := 5) sc__law_upto.nd rfl (by first | exact Or.inl rfl | exact Or.inr rfl) (pe_op u_mod (pe_callTy call_int1 rfl T.b_int (by decide +kernel) (pa_cons (pe_ix (u_ix (K := K) rfl) (pv 0) pe_int (fun _ _ => rfl)) pa_nil)) (pv 1)))
      (pss_cons (ps_asg (pe_op u_fdiv (pe_ix (u_ix (K := K) rfl) (pv 0) pe_int (fun _ _ => rfl)) (pv 1)) (pg_sub (pv 0) pe_int set_list))
      (pss_cons (ps_asg (pe_op u_fdiv (pe_ix (u_ix (K := K) rfl) (pv 0) pe_int (fun _ _ => rfl)) (pv 1)) (pg_sub (pv 0) pe_int set_list))
      (pss_one (ps_ret (pv 5))))))), ?_⟩
  refine ⟨fun σ H' => ∃ x y z o3 o4, (∃ o2, σ = [some (.ref u), some (.int b), o2, o3, o4, none]) ∧ GrU u H H' ∧ H' u = some (.lst [.ref c, .int x, .int y, .int z]) ∧ H' c = some (.lst (ns.map V.int)), ?_, ?_⟩
  · refine ⟨_, rfl, x_l (SqL.of h1) rfl ⟨_, rfl, l_ii ⟨_, rfl, ite2 (fun _ => ?_) (fun _ => ?_)⟩⟩⟩
    · refine ⟨_, rfl, x_l (SqL.of h1) rfl ⟨_, rfl, x_l (SqL.of h1) rfl ⟨_, _, rfl, ?_⟩⟩⟩
      -- amount
      refine ⟨fun σ H' => ∃ v : Int, σ = [some (.ref u), some (.int b), some (.ref c), some (.int p), some (.int v), none] ∧ GrU u H H' ∧ H' u = some (.lst [.ref c, .int p, .int a, .int r]) ∧ H' c = some (.lst (ns.map V.int)), ?_, ?_⟩
      · refine ⟨_, rfl, Nat.zero_le _, fun l hl => ?_⟩
        have g1 : Gr H (upd H l (.lst [])) := Gr.new hl
        have e1 : upd H l (.lst []) u = some (.lst [.ref c, .int p, .int a, .int r]) := by rw [upd_ne (ne_of_none h1 hl)]; exact h1
        have e2 : upd H l (.lst []) c = some (.lst (ns.map V.int)) := by rw [upd_ne (ne_of_none h2 hl)]; exact h2
        refine n_data (Dp.lst (SqL.of e2) (dp_ints ns)) (Dp.lst (SqL.of upd_same) .nil) (shp_ints ns) rfl ⟨_, rfl, ?_⟩
        refine ite2 (fun hne => ?_) (fun _ => ⟨0, rfl, g1.u, e1, e2⟩)
        have hpos : 0 < ns.length := by
          cases ns with
          | nil => simp [PyData.eqv, PyData.eqvAll] at hne
          | cons z zs => exact Nat.succ_pos _
        refine ⟨_, rfl, _, rfl, _, rfl, _, _, rfl, .inl ⟨_, SqL.of e2, rfl⟩, ?_⟩
        refine md_ii (by rw [List.length_map]; omega) ?_
        have q0 := Int.fmod_nonneg_of_pos p (b := ((ns.map V.int).length : Int)) (by rw [List.length_map]; omega)
        have q1 := Int.fmod_lt_of_pos p (b := ((ns.map V.int).length : Int)) (by rw [List.length_map]; omega)
        obtain ⟨j, hj⟩ := Int.eq_ofNat_of_zero_le q0
        have hjl : j < ns.length := by
          rw [hj, List.length_map] at q1
          omega
        rw [hj]
        exact x_l (SqL.of e2) (atI_nat (v := .int ns[j]) (by rw [List.getElem?_map, List.getElem?_eq_getElem hjl]; rfl)) ⟨_, rfl, g1.u, e1, e2⟩
      · rintro σ H1 ⟨v, rfl, g1, e1, e2⟩
        -- the churned one
        refine ⟨fun σ H' => ∃ v : Int, σ = [some (.ref u), some (.int b), some (.ref c), some (.int p), some (.int v), none] ∧ H' = H1, ?_, ?_⟩
        · refine ⟨_, rfl, _, rfl, _, _, rfl, .inl ⟨_, SqL.of e2, rfl⟩, ge_ii ⟨_, rfl, ?_⟩⟩
          refine ite2 (fun _ => ?_) (fun _ => ?_)
          · refine ⟨_, rfl, .inl ⟨_, rfl, md_ii (by decide) ⟨_, rfl, _, _, rfl, fun z => ⟨z, rfl, rfl⟩⟩⟩⟩
          · refine ⟨_, rfl, pw_ii ⟨by decide, by decide, by decide⟩ (l_ii ⟨_, rfl, ite2 (fun _ => ?_) (fun _ => ⟨v, rfl, rfl⟩)⟩)⟩
            refine ⟨_, rfl, .inl ⟨_, rfl, md_ii (by decide) ⟨_, rfl, _, _, rfl, fun z => ⟨z, rfl, rfl⟩⟩⟩⟩
        · rintro σ H2 ⟨v, rfl, rfl⟩
          have hcu' := urn_ne e1 e2
          refine ⟨_, rfl, a_ii ⟨_, rfl, _, _, _, _, rfl, rfl, e1, rfl, ?_⟩⟩
          refine ⟨_, rfl, _, rfl, _, _, _, _, rfl, rfl, upd_same, rfl, ?_⟩
          rw [upd_upd]
          refine ⟨_, rfl, _, rfl, _, _, _, _, rfl, rfl, upd_same, rfl, ?_⟩
          rw [upd_upd]
          exact ⟨p + 1, v, v, some (.int p), some (.int v), ⟨some (.ref c), rfl⟩, g1.upd, upd_same, by rw [upd_ne hcu']; exact e2⟩
    · exact ⟨p, a, r, none, none, ⟨none, rfl⟩, GrU.refl _ _, h1, h2⟩
  · rintro σ H' ⟨x, y, z, o3, o4, ⟨o2, rfl⟩, g, e1, e2⟩
    refine ⟨_, rfl, x_l (SqL.of e1) rfl (.inl ⟨_, rfl, ⟨_, rfl, md_ii (by omega) ?_⟩⟩)⟩
    refine ⟨_, rfl, x_l (SqL.of e1) rfl ⟨_, rfl, f_ii ⟨by omega, by omega⟩ ⟨_, rfl, _, _, _, _, rfl, rfl, e1, rfl, ?_⟩⟩⟩
    refine ⟨_, rfl, x_l (SqL.of upd_same) rfl ⟨_, rfl, f_ii ⟨by omega, by omega⟩ ⟨_, rfl, _, _, _, _, rfl, rfl, upd_same, rfl, ?_⟩⟩⟩
    rw [upd_upd]
    refine ⟨_, rfl, k _ _ (Int.fmod_nonneg_of_pos _ hb) (Int.fmod_lt_of_pos _ hb) g.upd ?_⟩
    exact urn_upd e1 e2

theorem ok_choice {fd : FuncData} (F : FnP K "_law_choice" s__law_choice fd) (T : TX mg) (D__law_upto : Df P w K mg base "_law_upto" 2 p__law_upto spUpto) : FnOk P w K mg base CX0 3 (He.fAd K ("_law_choice", none)) fd p__law_choice (spChoice K) := by
  refine okP F sc__law_choice (fun vs H Q E h => by obtain ⟨s, c, l, xs, rfl, _⟩ := h; rfl) (fun A outer s H vs Q E hr h => ?_)
  obtain ⟨u, c, it, xs, rfl, hu, hit, hs, hne, hl, k⟩ := h
  have hpos : 0 < xs.length := List.length_pos_iff.mpr hne
  refine ⟨_, (pss_one (ps_ret (pe_ix (u_ix (K := K) rfl) (pv 1) (pe_fn D__law_upto hr (by decide) rfl (pa_cons (pv 0) (pa_cons (pe_callB (k_len (K := K) rfl) rfl T.b_len (by decide +kernel) (pa_cons (pv 1) pa_nil)) pa_nil))) (fun _ _ => rfl)))), ?_⟩
  have lv : LenV K (.ref it) H xs.length := by
    rcases hs with hs | hs
    · exact .inl ⟨_, hs, rfl⟩
    · exact .inr ⟨_, hs, rfl⟩
  refine ⟨_, rfl, _, rfl, _, rfl, _, _, rfl, lv, ?_⟩
  refine ⟨u, c, _, rfl, hu, by omega, by omega, fun r H' h0 h1 g hu' => ?_⟩
  obtain ⟨j, rfl⟩ := Int.eq_ofNat_of_zero_le h0
  have hj : j < xs.length := by omega
  have hs' : SqL K H' it xs ∨ SqT K H' it xs := by
    rcases hs with ((hs | ⟨o, hs⟩) | hs) | ((hs | ⟨o, hs⟩) | hs)
    · exact .inl (.inl (.inl (g.keep hit hs (fun _ z => by cases z))))
    · exact .inl (.inl (.inr ⟨o, g.keep hit hs (fun _ z => by cases z)⟩))
    · exact .inl (.inr hs)
    · exact .inr (.inl (.inl (g.keep hit hs (fun _ z => by cases z))))
    · exact .inr (.inl (.inr ⟨o, g.keep hit hs (fun _ z => by cases z)⟩))
    · exact .inr (.inr hs)
  have e := atI_nat (xs := xs) (List.getElem?_eq_getElem hj)
  rcases hs' with hs' | hs'
  · exact x_l hs' e (k _ _ (List.getElem_mem hj) g hu')
  · exact x_t hs' e (k _ _ (List.getElem_mem hj) g hu')
theorem ok_equal {fd : FuncData} (F : FnP K "_law_equal" s__law_equal fd) (T : TX mg) : FnG P w K mg base CX0 1 (He.fAd K ("_law_equal", none)) fd p__law_equal (spEqual K) := by
  refine okQ F sc__law_equal (fun vs H Q E h => by obtain ⟨x, y, d, e, rfl, _⟩ := h; rfl) (fun A outer s H vs Q E hgu hr h => ?_)
  obtain ⟨x, y, d, e, rfl, hx, hy, ⟨d1, d2, d3, d4⟩, ⟨e1, e2, e3, e4⟩, k⟩ := h
  refine ⟨_, (pss_one (ps_ret (pe_cmpR (u_eq (K := K) rfl hr.units) (pe_callB (call_reprD hgu hr.units) rfl T.b_repr (by decide +kernel) (pa_cons (pv 0) pa_nil)) (pe_callB (call_reprD hgu hr.units) rfl T.b_repr (by decide +kernel) (pa_cons (pv 1) pa_nil)) (nomark _)))), ?_⟩
  exact ⟨_, rfl, _, _, rfl, hx, d1, d2, d3, d4, _, rfl, _, _, rfl, hy, e1, e2, e3, e4, e_flat rfl k⟩
theorem cut18 {xs : List V} {i : Nat} {x : V} (h : (cutV xs (some 18) (some 60))[i]? = some x) : (cutV xs none (some 18)).length = 18 := by
  have q := (List.getElem?_eq_some_iff.mp h).1
  have e1 : HT.sIx xs.length 0 (some 18) = min 18 xs.length := HT.sIx_nat _ _ 18
  have e2 : HT.sIx xs.length xs.length (some 18) = min 18 xs.length := HT.sIx_nat _ _ 18
  have e3 : HT.sIx xs.length xs.length (some 60) = min 60 xs.length := HT.sIx_nat _ _ 60
  unfold cutV at q ⊢
  rw [List.length_take, List.length_drop] at q ⊢
  rw [e1, e3] at q
  rw [e2, HT.sIx_none]
  omega
theorem ixN_nat {n j : Nat} (h : j < n) : ixN n (j : Int) = some j := by
  unfold ixN
  rw [if_pos (by omega), if_pos (by omega), Int.toNat_natCast]
theorem cut_len (xs : List V) (lo hi : Option Int) : (cutV xs lo hi).length ≤ xs.length := cutV_length xs lo hi
theorem cut_int {ns : List Int} {lo hi : Option Int} {i : Nat} {x : V} (h : (cutV (ns.map V.int) lo hi)[i]? = some x) : ∃ z, x = .int z := by
  have hm := List.mem_of_getElem? h
  unfold cutV at hm
  have h1 := List.mem_of_mem_drop (List.mem_of_mem_take hm)
  obtain ⟨z, _, e⟩ := List.mem_map.mp h1
  exact ⟨z, e.symm⟩
theorem ok_urn_of {fd : FuncData} (F : FnP K "_law_urn_of" s__law_urn_of fd) (T : TX mg) : FnOk P w K mg base CX0 1 (He.fAd K ("_law_urn_of", none)) fd p__law_urn_of (spUrnOf K) := by
  refine okP F sc__law_urn_of (fun vs H Q E h => by obtain ⟨a, ns, rfl, _⟩ := h; rfl) (fun A outer s H vs Q E hr h => ?_)
  obtain ⟨a, ns, rfl, hS, hl, k⟩ := h
  refine ⟨_, (pss_cons (ps_setLc (i := 2) (own := [("cell", 1)]) (g := gName 1) (tt := tYes) rfl sc__law_urn_of.nd rfl rfl (sw_true rfl rfl rfl (by decide +kernel)) (k_list (K := K) rfl (pe_slice (u_sl (K := K) rfl) (pv 0) po_none (po_some pe_int))) (blkOk_by (own := [("cell", 1)]) (N := n__law_urn_of) (sc := defScope s__law_urn_of) (by decide +kernel)) (fun _ _ _ _ _ => (pg_name (i := 1) sc__law_urn_of.nd rfl (by first | exact Or.inl rfl | exact Or.inr rfl))) (fun _ _ _ _ _ => pts_nil) (fun _ _ _ _ _ => (pe_callB call_abs rfl T.b_abs (by decide +kernel) (pa_cons (pv 1) pa_nil))))
      (pss_cons (ps_for PassesOwn.never rfl (k_enum (K := K) rfl rfl T.b_enumerate (pa_cons (pe_slice (u_sl (K := K) rfl) (pv 0) (po_some pe_int) (po_some pe_int)) pa_nil)) (kg_tup 2 (K := K) rfl rfl (pgs_cons (pg_name (i := 3) sc__law_urn_of.nd rfl (by first | exact Or.inl rfl | exact Or.inr rfl)) (pgs_cons (pg_name (i := 1) sc__law_urn_of.nd rfl (by first | exact Or.inl rfl | exact Or.inr rfl)) pgs_nil)))
      (pss_one (ps_asg (pe_op (u_add (K := K) rfl) (pe_ix (u_ix (K := K) rfl) (pv 2) (pe_op u_mod (pv 3) pe_int) (fun _ _ => rfl)) (pe_callB call_abs rfl T.b_abs (by decide +kernel) (pa_cons (pv 1) pa_nil))) (pg_sub (pv 2) (pe_op u_mod (pv 3) pe_int) set_list))))
      (pss_one (ps_ret (pe_lst (pa_cons (pv 2) (pa_cons pe_int (pa_cons pe_int (pa_cons pe_int pa_nil))))))))), ?_⟩
  -- cells = [abs(cell) for cell in script[:18]]
  refine ⟨_, rfl, _, rfl, sl_l hS fun p hp => ⟨p, rfl, ⟨_, SqL.of upd_same⟩, fun D hD => ?_⟩⟩
  have g1 : Gr H (upd H p (.lst (cutV (ns.map V.int) none (some 18)))) := Gr.new hp
  have hpD : p ≠ D := ne_of_none (upd_same (H := H)) hD
  refine lc_list (K := K) (a := p) (xs := cutV (ns.map V.int) none (some 18)) (fun i H' => ∃ zs : List Int, zs.length = i ∧ H' = upd (upd H p (.lst (cutV (ns.map V.int) none (some 18)))) D (.lst (zs.map V.int))) ⟨[], rfl, rfl⟩ ?_ ?_ ?_
  · rintro i H' _ ⟨zs, _, rfl⟩
    exact SqL.of (by rw [upd_ne hpD]; exact upd_same)
  · rintro i x H' hx ⟨zs, hz, rfl⟩
    obtain ⟨z, rfl⟩ := cut_int hx
    refine ⟨rfl, ?_⟩
    refine ⟨_, rfl, z, rfl, zs.map V.int, upd_same, ?_, zs ++ [if z < 0 then -z else z], by rw [List.length_append, hz]; rfl, ?_⟩
    · have := (List.getElem?_eq_some_iff.mp hx).1
      have h2 := cut_len (ns.map V.int) none (some 18)
      rw [List.length_map] at h2 ⊢
      rw [sizeLine_eq]
      omega
    · rw [upd_upd, List.map_append]; rfl
  rintro H' ⟨zs, hz, rfl⟩
  have g2 : Gr H (upd (upd H p (.lst (cutV (ns.map V.int) none (some 18)))) D (.lst (zs.map V.int))) := g1.trans (Gr.new hD)
  have hD0 : H D = none := Gr.free g1 hD
  -- the others are folded in
  refine ⟨_, rfl, _, rfl, _, rfl, sl_l (g2.seqL hS) fun p2 hp2 => ⟨_, _, rfl, SqL.of upd_same, ?_⟩⟩
  have n2 : D ≠ p2 := ne_of_none upd_same hp2
  refine for_enum (xs := cutV (ns.map V.int) (some 18) (some 60)) (fun i σ H' => ∃ (ys : List Int) (o1 o3 : Option V), σ = [some (.ref a), o1, some (.ref D), o3] ∧ ys.length = zs.length ∧ Gr H H' ∧ H' D = some (.lst (ys.map V.int)) ∧ H' p2 = some (.lst (cutV (ns.map V.int) (some 18) (some 60))))
    ⟨zs, _, _, rfl, rfl, g2.trans (Gr.new hp2), by rw [upd_ne n2]; exact upd_same, upd_same⟩ ?_ ?_ ?_
  · rintro i σ H' _ ⟨ys, o1, o3, rfl, _, _, _, h⟩
    exact SqL.of h
  · rintro i x T σ H' hx ⟨ys, o1, o3, rfl, hy, g, h1, h2⟩ hT
    obtain ⟨z, rfl⟩ := cut_int hx
    have h18 : zs.length = 18 := hz.trans (cut18 hx)
    have e1 : upd H' T (.tup [.int (i : Nat), .int z]) D = some (.lst (ys.map V.int)) := by rw [upd_ne (ne_of_none h1 hT)]; exact h1
    have e2 : upd H' T (.tup [.int (i : Nat), .int z]) p2 = some (.lst (cutV (ns.map V.int) (some 18) (some 60))) := by rw [upd_ne (ne_of_none h2 hT)]; exact h2
    refine ⟨_, _, rfl, SqT.of upd_same, rfl, _, _, rfl, _, _, rfl, rfl, ?_⟩
    have q0 := Int.fmod_nonneg_of_pos (i : Int) (b := 18) (by decide)
    have q1 := Int.fmod_lt_of_pos (i : Int) (b := 18) (by decide)
    obtain ⟨j, hj⟩ := Int.eq_ofNat_of_zero_le q0
    have hj2 : j < ys.length := by omega
    refine ⟨_, rfl, _, rfl, md_ii (by decide) ?_⟩
    rw [hj]
    refine x_l (SqL.of e1) (atI_nat (v := .int ys[j]) (by rw [List.getElem?_map, List.getElem?_eq_getElem hj2]; rfl)) ⟨_, rfl, z, rfl, a_ii ?_⟩
    refine ⟨_, rfl, _, rfl, md_ii (by decide) ?_⟩
    rw [hj]
    refine ⟨_, _, _, j, rfl, rfl, e1, ?_, ys.set j (ys[j] + (if z < 0 then -z else z)), _, _, rfl, by rw [List.length_set]; exact hy, (g.trans (Gr.new hT)).upd' hD0, ?_, ?_⟩
    · rw [List.length_map]
      exact ixN_nat hj2
    · rw [upd_same, List.map_set]
    · rw [upd_ne (Ne.symm n2)]; exact e2
  · rintro σ H' ⟨ys, o1, o3, rfl, hy, g, h1, h2⟩
    refine ⟨_, rfl, by show 4 ≤ sizeLine; rw [sizeLine_eq]; decide, fun u hu => ?_⟩
    refine k u D _ (g.free hu) hD0 (g.trans (Gr.new hu)) ⟨ys, 0, 0, 0, upd_same, by rw [upd_ne (ne_of_none h1 hu)]; exact h1⟩
end
end Vf
end
section
set_option Elab.async false
set_option linter.all false
set_option maxRecDepth 100000
set_option maxHeartbeats 8000000
/-! How many different texts a list has: len(set(texts)). -/
namespace Vf
open PySem PySem.Spec PyProof.Rows L2 GxR GenW
/-- one more, if it is new -/
def ins1 (acc : List Str) (x : Str) : List Str := if acc.any (· == x) = true then acc else acc ++ [x]
/-- the different ones, in the order they come -/
def mets (xs : List Str) : List Str := xs.foldl ins1 []
theorem mets_snoc (xs : List Str) (x : Str) : mets (xs ++ [x]) = ins1 (mets xs) x := by unfold mets; rw [List.foldl_append]; rfl
theorem ins1_any (acc : List Str) (x k : Str) : (ins1 acc x).any (· == k) = (acc.any (· == k) || decide (k = x)) := by
  unfold ins1
  by_cases h : acc.any (· == x) = true
  · rw [if_pos h]
    by_cases e : k = x
    · subst e; rw [h]; rfl
    · rw [decide_eq_false e, Bool.or_false]
  · rw [if_neg h, List.any_append]
    congr 1
    by_cases e : k = x
    · subst e; simp
    · have hb : (x == k) = false := by rw [beq_eq_false_iff_ne]; exact fun z => e z.symm
      simp [hb, e]
theorem ins1_len (acc : List Str) (x : Str) : (ins1 acc x).length = if acc.any (· == x) = true then acc.length else acc.length + 1 := by
  unfold ins1
  split
  · rfl
  · rw [List.length_append, List.length_singleton]
theorem mets_len_le (xs : List Str) : (mets xs).length ≤ xs.length := by
  have key : ∀ (l acc : List Str), (l.foldl ins1 acc).length ≤ acc.length + l.length := by
    intro l
    induction l with
    | nil => intro acc; exact Nat.le_refl _
    | cons y r ih =>
      intro acc
      have h1 := ih (ins1 acc y)
      have h2 := ins1_len acc y
      rw [List.foldl_cons, List.length_cons]
      split at h2 <;> omega
  have q := key xs []
  rw [List.length_nil, Nat.zero_add] at q
  exact q
section
variable {prog : Program} {w : World} {A : Around} {R : Result → Shared → Prop} {I : Addr} {fp wr : List Addr} {G : Array GenState → Array GenState → Prop} {n : Nat} {P : Nat → Value → Prop} {St : Nat → Shared → Prop}
theorem upd_loop (W : WalksS prog w A.in1 I fp wr G n P St) (S : Addr) (hSf : S ∉ fp) (xs : List Str) (hn : xs.length = n) (hv : ∀ i v, P i v → ∃ t, v = .str (xs.getD i Str.empty) t) (hb : n + 1 < scanBound) :
    ∀ (k i : Nat) (s : Shared), n - i = k → i ≤ n → St i s → s.heap.SetOf (PySem.strKind prog w) S (fun z => (mets (xs.take i)).any (· == z)) (mets (xs.take i)).length →
      (∀ s', Moved (S :: wr) G s s' → s'.heap.SetOf (PySem.strKind prog w) S (fun z => (mets xs).any (· == z)) (mets xs).length → R (.ok (.ret .none)) s') →
      codeAny (model prog w) A (.builtin "set.update.loop" ⟨[.ref S, .ref I], []⟩) R s := by
  have nS : S ∉ wr := fun z => hSf (W.sub _ z)
  have more : ∀ b ∈ wr, b ∈ S :: wr := fun b z => List.mem_cons_of_mem _ z
  have stay : ∀ {s s' : Shared} {f : Str → Bool} {m : Nat}, Moved wr G s s' → s.heap.SetOf (PySem.strKind prog w) S f m → s'.heap.SetOf (PySem.strKind prog w) S f m := by
    rintro s s' f m hm ⟨o, es, ep, t, ho, rest⟩
    exact ⟨o, es, ep, t, hm.heap S _ nS ho, rest⟩
  intro k
  induction k with
  | zero =>
    intro i s hk hi st hS hR
    have e : i = n := by omega
    subst e
    refine codeAny_builtin PyProof.Rows.F.entry_set_update_loop ?_
    rw [Around.under_plainId PyProof.Rows.F.plain_set_update_loop _]
    show wpAny _ A.in1 (pyNext (.ref I) >>= _) _ _ s
    refine wpAny_bind (W.done s _ _ st fun s' hm => ?_)
    show wpAny _ A.in1 (ret Value.none) _ _ s'
    have q := stay hm hS
    rw [← hn, List.take_length] at q
    exact wpAny_pure (hR s' (hm.mono more) q)
  | succ k ih =>
    intro i s hk hi st hS hR
    have lt : i < n := by omega
    refine codeAny_builtin PyProof.Rows.F.entry_set_update_loop ?_
    rw [Around.under_plainId PyProof.Rows.F.plain_set_update_loop _]
    show wpAny _ A.in1 (pyNext (.ref I) >>= _) _ _ s
    refine wpAny_bind (W.item i s _ _ lt st fun v s' hP st' hm => ?_)
    obtain ⟨t, rfl⟩ := hv i v hP
    have lx : i < xs.length := by omega
    have eg : xs.getD i Str.empty = xs[i] := by simp [List.getD, List.getElem?_eq_getElem lx]
    rw [eg]
    show wpAny _ A.in1 (holding [Value.str xs[i] t] (setAdd S (.str xs[i] t)) >>= _) _ _ s'
    refine wpAny_bind (wpAny_holding ?_)
    unfold setAdd
    refine wpAny_holding (wpAny_bind ((PySem.strKind prog w).pyHash (k := xs[i]) (strKind_is _ _ _ _) ?_))
    have hS' := stay hm hS
    have room : (mets (xs.take i)).length + 1 < scanBound := by
      have h1 := mets_len_le (xs.take i)
      rw [List.length_take] at h1
      omega
    refine wpAny_setAddHashed_of (knd := PySem.strKind prog w) (s := { s' with toks := s'.toks + 1 }) (strKind_is _ _ _ _) rfl hS' room fun h' hsb hS2 => ?_
    have et : xs.take (i + 1) = xs.take i ++ [xs[i]] := by rw [List.take_succ, List.getElem?_eq_getElem lx]; rfl
    have hSi : h'.SetOf (PySem.strKind prog w) S (fun z => (mets (xs.take (i + 1))).any (· == z)) (mets (xs.take (i + 1))).length :=
      PyProof.Rows.SetOf_congr hS2 (fun z => by rw [et, mets_snoc, ins1_any]) (by rw [et, mets_snoc, ins1_len])
    have other : ∀ b, b ≠ S → ∀ o, s'.heap.get? b = some o → h'.get? b = some o := fun b hb o e => (hsb.2 b hb).trans e
    refine wpAny_pure ⟨plainId_quiet PyProof.Rows.F.plain_set_update_loop _, ih (i + 1) _ (by omega) lt (W.frame _ s' _ _ st' (Nat.le_succ _) fun b hb o e => other b (fun z => hSf (z ▸ hb)) o e) hSi fun s'' hm2 hS3 => ?_⟩
    exact hR s'' (Moved.trans W.gtrans ((hm.mono more).then_heap (Nat.le_succ _) fun b o hb e => other b (fun z => hb (z ▸ List.mem_cons_self)) o e) hm2) hS3
end
section
variable {prog : Program} {w : World} {A : Around} {E : Value → Shared → Prop} {s : Shared}
theorem set_of_strs {l : Addr} {its : Array Value} {xs : List Str} {Q : Value → Shared → Prop} (hh : A.handled = none) (hl : s.heap.IsList l its) (hi : PyProof.Rows.StrsAre its.toList xs) (hb : its.size + 1 < scanBound)
    (h : ∀ (h' : Heap) (tk : Nat), h'.SetOf (PySem.strKind prog w) s.heap.objs.size (fun z => (mets xs).any (· == z)) (mets xs).length → (∀ b o, b < s.heap.objs.size → s.heap.get? b = some o → h'.get? b = some o) →
      Q (.ref s.heap.objs.size) { s with heap := h', toks := tk }) : wpAny (model prog w) A (call (.type "set") [.ref l]) Q E s := by
  obtain ⟨c, tl, m1⟩ := PySem.F.called_set.mro
  have m2 := PySem.F.called_set.made
  have m3 := PySem.F.called_set.sub
  refine wpAny_call (codeAny_of_tree ?_)
  show wpAny _ _ (callAny (.type "set") _) _ _ _
  refine wpAny_pure ⟨Code.quiet_builtin _ (by decide +kernel), codeAny_builtin PySem.F.entry_type_call ?_⟩
  rw [Around.under_plain (weight_type_call_type "set" [.ref l] []) rfl]
  have m4 := PySem.F.called_set.notType
  have m5 := PySem.F.called_set.canCreate
  have m6 := PySem.F.typeCall_set_1 (.ref l)
  repeat (any_goals (first | assumption | wp_step))
  refine codeAny_mono (code_set_new_1 (.ref l) (E := E) (Q₁ := fun obj s₁ => ∃ led : Bool, obj = .ref s.heap.objs.size ∧ s₁ = { s with heap := s.heap.push { cls := .type "set", dict := none, data := .set #[] 0 (.fresh 0 0 led) } }) fun led => ⟨led, rfl, rfl⟩) fun r s₁ hr => ?_
  cases r with
  | error e => exact hr
  | ok fl =>
    cases fl with
    | ret obj =>
      obtain ⟨led, rfl, rfl⟩ := hr
      have gS : (s.heap.push ({ cls := .type "set", dict := none, data := .set #[] 0 (.fresh 0 0 led) } : Obj)).get? s.heap.objs.size = some ({ cls := .type "set", dict := none, data := .set #[] 0 (.fresh 0 0 led) } : Obj) := Heap.get?_push_size _ rfl
      have tS : Shared.TypeIs { s with heap := s.heap.push ({ cls := .type "set", dict := none, data := .set #[] 0 (.fresh 0 0 led) } : Obj) } (.ref s.heap.objs.size) "set" := ⟨_, gS, rfl⟩
      have m7 := PySem.F.called_set.init.lookup
      have m8 := PySem.F.called_set.init.bind (.ref s.heap.objs.size)
      repeat (any_goals (first | assumption | wp_step))
      refine codeAny_mono (codeAny_call_builtin (R := wants (fun r s₂ => r = .none ∧ ∃ h' tk, s₂ = { s with heap := h', toks := tk } ∧ h'.SetOf (PySem.strKind prog w) s.heap.objs.size (fun z => (mets xs).any (· == z)) (mets xs).length ∧
          (∀ b o, b < s.heap.objs.size → s.heap.get? b = some o → h'.get? b = some o)) E) PySem.F.called_set.init.plain PySem.F.entry_set_init (check_set_init_1 tS ?_)) fun r₂ s₂ hr₂ => ?_
      · obtain ⟨ol, hol, hcl, nl, hdl⟩ := hl
        obtain ⟨ocls, odict, odata, oslots⟩ := ol
        simp only at hcl hdl
        subst hcl; subst hdl
        have k1 : (s.heap.push ({ cls := .type "set", dict := none, data := .set #[] 0 (.fresh 0 0 led) } : Obj)).get? l = some { cls := .type "list", dict := odict, data := .seq its nl, slots := oslots } := Heap.get?_push_of_some _ hol
        have m9 := PySem.F.sub_list_set
        have m10 := PySem.F.sub_list_frozenset
        have m11 : (Value.type "list" == Value.type "dict") = false := by decide
        have k2 : (s.heap.push ({ cls := .type "set", dict := none, data := .set #[] 0 (.fresh 0 0 led) } : Obj)).IsList l its := ⟨_, k1, rfl, nl, rfl⟩
        unfold Builtin.«set.__init__» noKeywords Builtin.Frozenset.updateFrom
        generalize hPI : pyIter = PI
        wp_walk
        subst hPI
        refine wpAny_pyIter_list k2 (wpAny_bind (wpAny_runValue ?_))
        have lS : l < s.heap.objs.size := Heap.lt_size hol
        have size1 : (s.heap.push ({ cls := .type "set", dict := none, data := .set #[] 0 (.fresh 0 0 led) } : Obj)).objs.size = s.heap.objs.size + 1 := Heap.size_push ..
        have h3 : A.in1.in1.in1.handled = none := hh
        have nI : l ≠ (s.heap.push ({ cls := .type "set", dict := none, data := .set #[] 0 (.fresh 0 0 led) } : Obj)).objs.size := by rw [size1]; exact Nat.ne_of_lt (Nat.lt_succ_of_lt lS)
        have nS : s.heap.objs.size ∉ [(s.heap.push ({ cls := .type "set", dict := none, data := .set #[] 0 (.fresh 0 0 led) } : Obj)).objs.size, l] := by
          rw [size1]
          intro z
          rcases List.mem_cons.mp z with z | z
          · exact absurd z (Nat.ne_of_lt (Nat.lt_succ_self _))
          · exact absurd (List.mem_singleton.mp z) (Nat.ne_of_gt lS)
        have len : xs.length = its.size := by rw [← StrsAre.len_eq hi, Array.length_toList]
        refine upd_loop ((Walks.list h3 _ l nI its).toS) s.heap.objs.size nS xs len (fun i v hv => SS.strs_at hi i v (by rw [Array.getElem?_toList]; exact hv)) hb (its.size - 0) 0 _ (by omega) (Nat.zero_le _) ⟨⟨_, Heap.get?_push_size _ rfl, rfl, rfl⟩, (k2.push _)⟩ ?hS0 ?hR
        case hS0 =>
          have g2 : ((s.heap.push ({ cls := .type "set", dict := none, data := .set #[] 0 (.fresh 0 0 led) } : Obj)).push { cls := .type "list_iterator", data := .fields #[.ref l, .int 0 0] }).get? s.heap.objs.size = some ({ cls := .type "set", dict := none, data := .set #[] 0 (.fresh 0 0 led) } : Obj) := Heap.get?_push_of_some _ gS
          exact PyProof.Rows.SetOf_congr ((PyProof.Rows.setObjOf_fresh (knd := PySem.strKind prog w) led).setOf g2 (by unfold scanBound; omega)) (fun _ => rfl) rfl
        case hR =>
          rintro ⟨h', g', d', tk', os'⟩ hm hS'
          obtain rfl : g' = s.gens := hm.gens
          obtain rfl : d' = s.drawn := hm.drawn
          obtain rfl : os' = s.os := hm.os
          show wpAny _ _ _ _ _ _
          refine wpAny_pure ?_
          show wpAny _ _ (ret Value.none) _ _ _
          refine wpAny_pure ⟨rfl, h', tk', rfl, hS', fun b o hb e => ?_⟩
          refine hm.heap b o ?_ (Heap.get?_push_of_some _ (Heap.get?_push_of_some _ e))
          intro z
          rcases List.mem_cons.mp z with z | z
          · exact absurd z (Nat.ne_of_lt hb)
          · rw [List.mem_singleton.mp z, size1] at hb
            exact absurd (Nat.lt_of_succ_lt hb) (Nat.lt_irrefl _)
      · cases r₂ with
        | error e => exact hr₂
        | ok f2 =>
          cases f2 with
          | ret r =>
            obtain ⟨rfl, h', tk, rfl, q1, q2⟩ := hr₂
            repeat (any_goals (first | assumption | wp_step))
            exact h _ _ q1 q2
          | _ => exact hr₂.elim
    | _ => exact hr.elim
end
end Vf
end
section
set_option Elab.async false
set_option linter.all false
set_option maxRecDepth 100000
set_option maxHeartbeats 8000000
namespace Vf
open PySem PySem.Spec PyProof.Rows L2 GxR GenW
section
variable {X : Cx}
/-- len(set(texts)), texts a list -/
def tLenSetS (K : PySem.W.Frag) (ta : TE) : TE := fun σ H Q => ta σ H fun x H1 => ∃ (l : Addr) (xs : List Str), x = .ref l ∧ SqL K H1 l (xs.map V.str) ∧ xs.length ≤ 4000 ∧ Q (.int ((mets xs).length : Nat)) H1
theorem strs_vals : ∀ {xs : List Str} {us : List Value}, Vals (xs.map V.str) us → StrsAre us xs
  | [], us, r => by cases r; exact StrsAre.nil
  | x :: xs, us, r => by
    cases r with
    | cons a b =>
      obtain ⟨t, rfl⟩ := a
      exact StrsAre.cons _ _ (strs_vals b)
theorem pe_lenSetS {K : PySem.W.Frag} {a : Expr} {ta : TE} {p p2 q pos : Pos} (hK : X.K = K) (hg : Gl X "len") (hm : X.mg "len" = none) (hg2 : Gl X "set") (hm2 : X.mg "set" = none) (ha : PE X a ta) (hc : X.calm = true := by rfl)
    (na : starEach [a] X.env = (false, eval a X.env) :: starEach [] X.env := by rfl) : PE X (.Call (.Name "len" p) [.Call (.Name "set" p2) [a] [] q] [] pos) (tLenSetS K ta) := by
  subst hK
  refine ⟨fun pins s σ H Q I h => Call_ (ld_blt I hg hm boot_len ?_)⟩
  refine PyProof.Rows.callWith_builtin1 (PyProof.Rows.args_cons ?_ rfl) rfl rfl
  refine Call_ (ld_blt I hg2 hm2 boot_set ?_)
  refine PyProof.Rows.callWith_type1 (PyProof.Rows.args_cons (thn (ha.run pins s σ H _ I h) ?_) na) na rfl
  rintro v s1 ⟨x, H1, I1, r1, l, xs, rfl, hq, hl, q1⟩
  refine PyProof.Rows.args_nil ?_
  cases r1
  obtain ⟨its, r, pl, hz⟩ := I1.list hq
  have hlen : its.toArray.size = xs.length := by rw [List.size_toArray, ← r.length, List.length_map]
  have hml := mets_len_le xs
  refine set_of_strs (I1.ok.hd hc) pl.isList (xs := xs) (by simpa using strs_vals r) (by rw [hlen]; unfold scanBound; omega) fun h' tk hS hk => ?_
  refine PyProof.Rows.args_nil ?_
  obtain ⟨o, es, ep, t, ho, hex, hd, _, _, _, hf, hn⟩ := hS
  have I2 : Inv X pins σ H1 { s1 with heap := h', toks := tk } := I1.kept fun b o e => hk b o (Heap.lt_size e) e
  exact call_len_set ho hex hd hf (by rw [hn] <;> omega) ⟨.int (mets xs).length, H1, I2.tok _, ⟨_, by rw [hn]⟩, q1⟩
end
end Vf
end
section
set_option Elab.async false
set_option linter.all false
set_option maxRecDepth 100000
set_option maxHeartbeats 4000000
namespace Vf
open PySem PySem.Spec PyProof.Rows L2 GxR GenW RZ
/-! ### isinstance of data -/
def clsOf : PyData → String
  | .none => "NoneType"
  | .bool _ => "bool"
  | .int _ => "int"
  | .str _ => "str"
  | .list _ => "list"
  | .tuple _ => "tuple"
  | .dict _ => "dict"
def isaD (T : String) : PyData → Bool
  | .none => T == "NoneType"
  | .bool _ => T == "bool" || T == "int"
  | .int _ => T == "int"
  | .str _ => T == "str"
  | .list _ => T == "list"
  | .tuple _ => T == "tuple"
  | .dict _ => T == "dict"
theorem kitD (T : String) (h : T = "tuple" ∨ T = "str" ∨ T = "int" ∨ T = "bool" ∨ T = "list") (d : PyData) : kitB (clsOf d) T = some (isaD T d) := by
  rcases h with rfl | rfl | rfl | rfl | rfl <;> cases d <;> (simp only [clsOf, isaD]; decide +kernel)
section
variable {X : Cx}
theorem tyD {K : PySem.W.Frag} {H : Hp} {v : V} {d : PyData} (h : Dd K H v d) : TyX K H v (.type (clsOf d)) := by
  cases h with
  | non => exact .base .non
  | bl b => exact .base (.bl b)
  | int i => exact .base (.int i)
  | str x => exact .base (.str x)
  | lst h1 _ =>
    rcases h1 with (h1 | ⟨o, h1⟩) | ⟨o, its, n, h1, h2, _⟩
    · exact .base (.lst h1)
    · exact .base (.frz h1)
    · exact .kList h1 h2
  | tup h1 _ =>
    rcases h1 with (h1 | ⟨o, h1⟩) | ⟨o, its, n, h1, h2, _⟩
    · exact .base (.tup h1)
    · exact .fTuple h1
    · exact .kTuple h1 h2
  | dct h1 => exact .base (.dK h1)
/-- isinstance(x, T), x data, T a built-in class's name -/
theorem call_isD {K : PySem.W.Frag} (hK : X.K = K) : CallR X (.builtin "isinstance") (fun xs H Q => ∃ (x : V) (d : PyData) (T : String), xs = [x, .ty T] ∧ Dd K H x d ∧ (T = "tuple" ∨ T = "str" ∨ T = "int" ∨ T = "bool" ∨ T = "list") ∧ Q (.bl (isaD T d)) H) := by
  subst hK
  intro pins s σ H xs us Q I r h
  obtain ⟨x, d, T, rfl, hd, hT, q⟩ := h
  exact call_isi pins s σ H _ us Q I r ⟨x, .ty T, _, _, _, rfl, .ty T, tyD hd, kit_ty (kitD T hT d), q⟩
theorem vals_at : ∀ {xs : List V} {us : List Value}, xs.length = us.length → (∀ (i : Nat) (x : V) (u : Value), xs[i]? = some x → us[i]? = some u → RelV x u) → Vals xs us
  | [], [], _, _ => .nil
  | [], _ :: _, h, _ => by simp at h
  | _ :: _, [], h, _ => by simp at h
  | x :: xs, u :: us, h, k => .cons (k 0 x u rfl rfl) (vals_at (by simpa using h) fun i y v h1 h2 => k (i + 1) y v (by simpa using h1) (by simpa using h2))
/-- a text's signs as values -/
abbrev sgn (x : Str) : List V := x.cps.toList.map fun c => V.str ⟨#[c]⟩
theorem sgn_vals {x : Str} {acc : Array Value} (h : ItemsOf (SignAt x) acc x.cps.size) : Vals (sgn x) acc.toList := by
  obtain ⟨h1, h2⟩ := h
  refine vals_at (by rw [List.length_map, Array.length_toList, Array.length_toList]; exact h1.symm) fun i y u hy hu => ?_
  rw [Array.getElem?_toList] at hu
  obtain ⟨c, t, hc, rfl⟩ := h2 i u hu
  rw [List.getElem?_map, Array.getElem?_toList, hc] at hy
  cases hy
  exact ⟨t, rfl⟩
structure rLstU (K : PySem.W.Frag) (xs : List V) (H : Hp) (Q : VK) : Prop where
  h : (∃ p ys, xs = [.ref p] ∧ (SqL K H p ys ∨ SqT K H p ys) ∧ ∀ l, H l = none → Q (.ref l) (upd H l (.lst ys))) ∨ (∃ x : Str, xs = [.str x] ∧ x.length ≤ sizeLine ∧ ∀ l, H l = none → Q (.ref l) (upd H l (.lst (sgn x))))
/-- list(x), x a list, a tuple, a text -/
theorem call_listU {K : PySem.W.Frag} (hK : X.K = K) (hc : X.calm = true) : CallR X (.type "list") (rLstU K) := by
  subst hK
  intro pins s σ H xs us Q I r h
  rcases h.h with h | ⟨x, rfl, hz, q⟩
  · exact call_list_of pins s σ H xs us Q I r h
  · obtain ⟨u, rfl, t, rfl⟩ := vals1 r
    refine call_list_str (I.ok.hd hc) x t (fun h' tk acc c hk hS ha => ?_) hz
    have hn : H s.heap.objs.size = none := I.hok.fresh (Nat.le_refl _)
    exact ⟨.ref s.heap.objs.size, upd H s.heap.objs.size (.lst (sgn x)), I.laid hk (Nat.le_refl _) ⟨by rw [List.length_map, Array.length_toList]; exact hz, acc.toList, c, sgn_vals ha, hS⟩, rfl, q _ hn⟩
theorem lsU_s {K : PySem.W.Frag} {H : Hp} {Q : VK} {x : Str} (hz : x.length ≤ sizeLine) (q : ∀ l, H l = none → Q (.ref l) (upd H l (.lst (sgn x)))) : rLstU K [.str x] H Q := ⟨.inr ⟨x, rfl, hz, q⟩⟩
theorem lsU_q {K : PySem.W.Frag} {H : Hp} {Q : VK} {p : Addr} {ys : List V} (h : SqL K H p ys ∨ SqT K H p ys) (q : ∀ l, H l = none → Q (.ref l) (upd H l (.lst ys))) : rLstU K [.ref p] H Q := ⟨.inl ⟨p, ys, rfl, h, q⟩⟩
end

/-! ### the turns of an any, an all -/
section
variable {cont : Bool} {j : Nat} {σ0 : L2.St} {te : TE} {K : PySem.W.Frag} {a : Addr} {xs : List V} {Q : VK} {H2 : Hp}
theorem turns_T (Pv : Nat → Hp → Prop) (h0 : Pv 0 H2) (hl : ∀ i H, i ≤ xs.length → Pv i H → SqT K H a xs)
    (hs : ∀ i x H, xs[i]? = some x → Pv i H → te (σ0.set j (some x)) H fun z H4 => ∃ c, z = .bl c ∧ (if c = cont then Pv (i + 1) H4 else Q (.bl (!cont)) H4)) (hd : ∀ H, Pv xs.length H → Q (.bl cont) H) :
    ∃ W : Nat → Nat → Hp → Prop, (∃ m, W 0 m H2) ∧ Turns cont j σ0 tYes te (Itt K a) Q W := by
  refine ⟨fun i m H => i + m = xs.length ∧ Pv i H, ⟨xs.length, Nat.zero_add _, h0⟩, fun i m H ⟨hm, p⟩ => ?_⟩
  have q := hl i H (by omega) p
  cases m with
  | zero =>
    have e : i = xs.length := by omega
    subst e
    exact .inl ⟨⟨xs, q, Nat.le_refl _⟩, hd H p⟩
  | succ m =>
    have hi : i < xs.length := by omega
    refine .inr ⟨⟨xs, xs[i], q, List.getElem?_eq_getElem hi⟩, Pv (i + 1), fun H' p' => ⟨m, Nat.lt_succ_self _, by omega, p'⟩, ?_⟩
    rintro y H' ⟨rfl, hy⟩
    exact hs i y _ (hy xs q) p
theorem turns_L (Pv : Nat → Hp → Prop) (h0 : Pv 0 H2) (hl : ∀ i H, i ≤ xs.length → Pv i H → SqL K H a xs)
    (hs : ∀ i x H, xs[i]? = some x → Pv i H → te (σ0.set j (some x)) H fun z H4 => ∃ c, z = .bl c ∧ (if c = cont then Pv (i + 1) H4 else Q (.bl (!cont)) H4)) (hd : ∀ H, Pv xs.length H → Q (.bl cont) H) :
    ∃ W : Nat → Nat → Hp → Prop, (∃ m, W 0 m H2) ∧ Turns cont j σ0 tYes te (Itl K a) Q W := by
  refine ⟨fun i m H => i + m = xs.length ∧ Pv i H, ⟨xs.length, Nat.zero_add _, h0⟩, fun i m H ⟨hm, p⟩ => ?_⟩
  have q := hl i H (by omega) p
  cases m with
  | zero =>
    have e : i = xs.length := by omega
    subst e
    exact .inl ⟨⟨xs, q, Nat.le_refl _⟩, hd H p⟩
  | succ m =>
    have hi : i < xs.length := by omega
    refine .inr ⟨⟨xs, xs[i], q, List.getElem?_eq_getElem hi⟩, Pv (i + 1), fun H' p' => ⟨m, Nat.lt_succ_self _, by omega, p'⟩, ?_⟩
    rintro y H' ⟨rfl, hy⟩
    exact hs i y _ (hy xs q) p
theorem turns_S {x : Str} (Pv : Nat → Hp → Prop) (h0 : Pv 0 H2)
    (hs : ∀ i c H, x.cps.toList[i]? = some c → Pv i H → te (σ0.set j (some (.str ⟨#[c]⟩))) H fun z H4 => ∃ c, z = .bl c ∧ (if c = cont then Pv (i + 1) H4 else Q (.bl (!cont)) H4)) (hd : ∀ H, Pv x.cps.toList.length H → Q (.bl cont) H) :
    ∃ W : Nat → Nat → Hp → Prop, (∃ m, W 0 m H2) ∧ Turns cont j σ0 tYes te (Its x) Q W := by
  refine ⟨fun i m H => i + m = x.cps.toList.length ∧ Pv i H, ⟨_, Nat.zero_add _, h0⟩, fun i m H ⟨hm, p⟩ => ?_⟩
  have e2 : x.cps.toList.length = x.cps.size := Array.length_toList
  cases m with
  | zero =>
    have e : i = x.cps.toList.length := by omega
    subst e
    exact .inl ⟨by show x.cps.size ≤ _; omega, hd H p⟩
  | succ m =>
    refine .inr ⟨by show i < x.cps.size; omega, Pv (i + 1), fun H' p' => ⟨m, Nat.lt_succ_self _, by omega, p'⟩, ?_⟩
    rintro y H' ⟨rfl, c, hc, rfl⟩
    exact hs i c _ (by rw [Array.getElem?_toList]; exact hc) p
end

/-! ### comprehensions over a text, over zip -/
section
variable {K : PySem.W.Frag} {g : TG} {tt : TT} {te : TE} {vs : List Nat} {σ : L2.St} {H1 : Hp} {D : Addr} {Qd : Hp → Prop}
theorem lc_S {x : Str} (Pv : Nat → Hp → Prop) (h0 : Pv 0 (upd H1 D (.lst [])))
    (hs : ∀ i c H, x.cps.toList[i]? = some c → Pv i H → g (.str ⟨#[c]⟩) (wipe σ vs) H fun σ2 H2 => wipe σ2 vs = wipe σ vs ∧ tt σ2 H2 fun b H3 =>
      if b = true then te σ2 H3 fun y H4 => ∃ acc, H4 D = some (.lst acc) ∧ acc.length < sizeLine ∧ Pv (i + 1) (upd H4 D (.lst (acc ++ [y]))) else Pv (i + 1) H3) (hd : ∀ H, Pv x.cps.toList.length H → Qd H) :
    ∃ W : Nat → Nat → Hp → Prop, (∃ m, W 0 m (upd H1 D (.lst []))) ∧ ∀ i m H, W i m H →
      ((Its x).stop i H ∧ Qd H) ∨ ((Its x).go i H ∧ ∃ Nx : Hp → Prop, (∀ H', Nx H' → ∃ m', m' < m ∧ W (i + 1) m' H') ∧ ∀ y H', (Its x).yld i H y H' → g y (wipe σ vs) H' fun σ2 H2 => wipe σ2 vs = wipe σ vs ∧ tt σ2 H2 fun b H3 =>
        if b = true then te σ2 H3 fun y H4 => ∃ acc, H4 D = some (.lst acc) ∧ acc.length < sizeLine ∧ Nx (upd H4 D (.lst (acc ++ [y]))) else Nx H3) := by
  refine ⟨fun i m H => i + m = x.cps.toList.length ∧ Pv i H, ⟨_, Nat.zero_add _, h0⟩, fun i m H ⟨hm, p⟩ => ?_⟩
  have e2 : x.cps.toList.length = x.cps.size := Array.length_toList
  cases m with
  | zero =>
    have e : i = x.cps.toList.length := by omega
    subst e
    exact .inl ⟨by show x.cps.size ≤ _; omega, hd H p⟩
  | succ m =>
    refine .inr ⟨by show i < x.cps.size; omega, Pv (i + 1), fun H' p' => ⟨m, Nat.lt_succ_self _, by omega, p'⟩, ?_⟩
    rintro y H' ⟨rfl, c, hc, rfl⟩
    exact hs i c _ (by rw [Array.getElem?_toList]; exact hc) p
theorem lc_zT {a b : Addr} {xs ys : List V} (hl : xs.length = ys.length) (Pv : Nat → Hp → Prop) (h0 : Pv 0 (upd H1 D (.lst []))) (hq : ∀ i H, Pv i H → SqT K H a xs ∧ SqT K H b ys)
    (hs : ∀ i x y T H, xs[i]? = some x → ys[i]? = some y → Pv i H → H T = none → g (.ref T) (wipe σ vs) (upd H T (.tup [x, y])) fun σ2 H2 => wipe σ2 vs = wipe σ vs ∧ tt σ2 H2 fun b H3 =>
      if b = true then te σ2 H3 fun y H4 => ∃ acc, H4 D = some (.lst acc) ∧ acc.length < sizeLine ∧ Pv (i + 1) (upd H4 D (.lst (acc ++ [y]))) else Pv (i + 1) H3) (hd : ∀ H, Pv xs.length H → Qd H) :
    ∃ W : Nat → Nat → Hp → Prop, (∃ m, W 0 m (upd H1 D (.lst []))) ∧ ∀ i m H, W i m H →
      ((ItzT K a b).stop i H ∧ Qd H) ∨ ((ItzT K a b).go i H ∧ ∃ Nx : Hp → Prop, (∀ H', Nx H' → ∃ m', m' < m ∧ W (i + 1) m' H') ∧ ∀ y H', (ItzT K a b).yld i H y H' → g y (wipe σ vs) H' fun σ2 H2 => wipe σ2 vs = wipe σ vs ∧ tt σ2 H2 fun b H3 =>
        if b = true then te σ2 H3 fun y H4 => ∃ acc, H4 D = some (.lst acc) ∧ acc.length < sizeLine ∧ Nx (upd H4 D (.lst (acc ++ [y]))) else Nx H3) := by
  refine ⟨fun i m H => i + m = xs.length ∧ Pv i H, ⟨_, Nat.zero_add _, h0⟩, fun i m H ⟨hm, p⟩ => ?_⟩
  obtain ⟨q1, q2⟩ := hq i H p
  cases m with
  | zero =>
    have e : i = xs.length := by omega
    subst e
    exact .inl ⟨⟨xs, ys, q1, q2, .inl (Nat.le_refl _)⟩, hd H p⟩
  | succ m =>
    have h1 : i < xs.length := by omega
    have h2 : i < ys.length := by omega
    refine .inr ⟨⟨xs, ys, xs[i], ys[i], q1, q2, List.getElem?_eq_getElem h1, List.getElem?_eq_getElem h2⟩, Pv (i + 1), fun H' p' => ⟨m, Nat.lt_succ_self _, by omega, p'⟩, ?_⟩
    rintro z H' ⟨T, x, y, rfl, hT, rfl, hx, hy⟩
    exact hs i x y T H (hx xs q1) (hy ys q2) p hT
theorem lc_zL {a b : Addr} {xs ys : List V} (hl : xs.length = ys.length) (Pv : Nat → Hp → Prop) (h0 : Pv 0 (upd H1 D (.lst []))) (hq : ∀ i H, Pv i H → SqL K H a xs ∧ SqL K H b ys)
    (hs : ∀ i x y T H, xs[i]? = some x → ys[i]? = some y → Pv i H → H T = none → g (.ref T) (wipe σ vs) (upd H T (.tup [x, y])) fun σ2 H2 => wipe σ2 vs = wipe σ vs ∧ tt σ2 H2 fun b H3 =>
      if b = true then te σ2 H3 fun y H4 => ∃ acc, H4 D = some (.lst acc) ∧ acc.length < sizeLine ∧ Pv (i + 1) (upd H4 D (.lst (acc ++ [y]))) else Pv (i + 1) H3) (hd : ∀ H, Pv xs.length H → Qd H) :
    ∃ W : Nat → Nat → Hp → Prop, (∃ m, W 0 m (upd H1 D (.lst []))) ∧ ∀ i m H, W i m H →
      ((Itz K a b).stop i H ∧ Qd H) ∨ ((Itz K a b).go i H ∧ ∃ Nx : Hp → Prop, (∀ H', Nx H' → ∃ m', m' < m ∧ W (i + 1) m' H') ∧ ∀ y H', (Itz K a b).yld i H y H' → g y (wipe σ vs) H' fun σ2 H2 => wipe σ2 vs = wipe σ vs ∧ tt σ2 H2 fun b H3 =>
        if b = true then te σ2 H3 fun y H4 => ∃ acc, H4 D = some (.lst acc) ∧ acc.length < sizeLine ∧ Nx (upd H4 D (.lst (acc ++ [y]))) else Nx H3) := by
  refine ⟨fun i m H => i + m = xs.length ∧ Pv i H, ⟨_, Nat.zero_add _, h0⟩, fun i m H ⟨hm, p⟩ => ?_⟩
  obtain ⟨q1, q2⟩ := hq i H p
  cases m with
  | zero =>
    have e : i = xs.length := by omega
    subst e
    exact .inl ⟨⟨xs, ys, q1, q2, .inl (Nat.le_refl _)⟩, hd H p⟩
  | succ m =>
    have h1 : i < xs.length := by omega
    have h2 : i < ys.length := by omega
    refine .inr ⟨⟨xs, ys, xs[i], ys[i], q1, q2, List.getElem?_eq_getElem h1, List.getElem?_eq_getElem h2⟩, Pv (i + 1), fun H' p' => ⟨m, Nat.lt_succ_self _, by omega, p'⟩, ?_⟩
    rintro z H' ⟨T, x, y, rfl, hT, rfl, hx, hy⟩
    exact hs i x y T H (hx xs q1) (hy ys q2) p hT
end
end Vf
end
section
set_option Elab.async false
set_option linter.all false
set_option maxRecDepth 100000
set_option maxHeartbeats 4000000
/-! sum(elt for a, b in a tuple of pairs), elt quiet. -/
namespace Vf
open PySem PySem.Spec PyProof.Rows L2 GxR GenW RZ
theorem walkPairsT {prog : Program} {w : World} {A : Around} (hh : A.handled = none) (I ax : Addr) (hne : ax ≠ I) (items : Array Value) (Ts : Nat → Addr) (vals : Nat → Array Value)
    (hit : ∀ j, j < items.size → items[j]? = some (.ref (Ts j))) (hTI : ∀ j, j < items.size → Ts j ≠ I) :
    WalksU prog w A I (I :: ax :: (List.range items.size).map Ts) [I] items.size (fun j v => v = vals j ∧ j < items.size)
      (fun j h => h.IsTupleIter I ax j ∧ h.IsTuple ax items ∧ ∀ k, k < items.size → h.IsTuple (Ts k) (vals k))
      (fun j T h => (j < items.size ∧ T = Ts j) ∧ h.IsTupleIter I ax (j + 1) ∧ h.IsTuple ax items ∧ ∀ k, k < items.size → h.IsTuple (Ts k) (vals k)) where
  sub := fun b hb => by simp at hb; simp [hb]
  frame := fun _ _ _ st hk => ⟨st.1.at fun o e => hk I (by simp) o e, st.2.1.at fun o e => hk ax (by simp) o e,
    fun k hk' => (st.2.2 k hk').at fun o e => hk (Ts k) (List.mem_cons_of_mem _ (List.mem_cons_of_mem _ (List.mem_map.mpr ⟨k, List.mem_range.mpr hk', rfl⟩))) o e⟩
  item := fun i s Q E hi st hQ => by
    refine wpAny_pyNext_tuple_item st.1 st.2.1 (x := .ref (Ts i)) (hit i hi) fun h' hit' hs' => ?_
    have tup : ∀ k, k < items.size → h'.IsTuple (Ts k) (vals k) := fun k hk' => (st.2.2 k hk').extBut hs'.extBut (hTI k hk')
    exact hQ (Ts i) (vals i) h' s.toks ⟨rfl, hi⟩ (tup i hi) ⟨⟨hi, rfl⟩, hit', st.2.1.extBut hs'.extBut hne, tup⟩ fun b o hb e => hs'.extBut b o (fun h => hb (by simp [h])) e
  go := fun _ _ _ _ _ s Q _ hm hQ => letGo_tupleiter hm.2.1 (hQ s.heap hm.2 fun _ _ _ e => e)
  apart := fun j T _ hm hmem => by
    rcases List.mem_cons.mp hmem with e | e
    · exact hTI j hm.1.1 (hm.1.2 ▸ e)
    · cases e
  done := fun s Q E st hQ => wpAny_pyNext_tuple_end hh st.1 st.2.1 (by simp) fun h' he' => hQ h' s.toks fun b o hb e => he' b o (fun h => hb (by simp [h])) e
  self := fun _ _ _ _ st hQ => wpAny_pyIter_tupleiter st.1 hQ

/-- a generator expression's own scope, of two names -/
structure GenS2 (env : Env) (scope : Scope) (xa xb : Str) : Prop where
  kind : scope.kind = .function
  co : scope.isCoroutine = false
  cell : ∀ y ∈ scope.names, y.2 ≠ .cell
  dot : scope.names.lookup (".0" : Str) = some NameKind.local
  locA : scope.names.lookup xa = some .local
  locB : scope.names.lookup xb = some .local
  ne : xa ≠ xb
  free : ∀ y ∈ scope.names, y.2 = .free → ∃ c, env.cells.lookup y.1 = some c
/-- the element: of a pair of which the first is v with Pz the int f v -/
def EltI (prog : Program) (w : World) (mg : Str → Option Value) (scope : Scope) (xa xb : Str) (elt : Expr) (Pz : V → Prop) (f : V → Int) : Prop :=
  ∀ (cenv : Env) (A' : Around) (E' : Value → Shared → Prop) (v : V) (ua ub : Value) (s₂ : Shared) (m₂ mb : Str → Option Value), cenv.scope = scope → cenv.globals = mainGlobals → cenv.builtins = builtinsNs → s₂.heap.Ns mainGlobals mg → s₂.heap.Ns builtinsNs mb → (∀ x : Str, x ≠ "__name__" → mb x = bootBuiltins x) →
    Pz v → RelV v ua → s₂.heap.Ns cenv.locals m₂ → m₂ xa = some ua → m₂ xb = some ub → wpAny (model prog w) A' (eval elt cenv) (fun y s₃ => (∃ t', y = .int (f v) t') ∧ Keeps s₂ s₃) E' s₂
/-- the pairs at the places ps -/
def Prs (K : PySem.W.Frag) (H : Hp) : List V → List (V × V) → Prop
  | [], [] => True
  | x :: xs, p :: ps => (∃ b, x = .ref b ∧ SqT K H b [p.1, p.2]) ∧ Prs K H xs ps
  | _, _ => False
theorem Prs.at {K : PySem.W.Frag} {H : Hp} : ∀ {xs : List V} {ps : List (V × V)}, Prs K H xs ps → ∀ {j : Nat} {x : V}, xs[j]? = some x → ∃ b p, x = .ref b ∧ ps[j]? = some p ∧ SqT K H b [p.1, p.2]
  | [], [], _, j, x, h => by simp at h
  | x :: xs, p :: ps, ⟨⟨b, e, s⟩, _⟩, 0, y, h => ⟨b, p, (Option.some.inj h).symm.trans e, rfl, s⟩
  | x :: xs, p :: ps, ⟨_, r⟩, j + 1, y, h => Prs.at r (show xs[j]? = some y from h)
theorem Prs.len {K : PySem.W.Frag} {H : Hp} : ∀ {xs : List V} {ps : List (V × V)}, Prs K H xs ps → xs.length = ps.length
  | [], [], _ => rfl
  | x :: xs, p :: ps, ⟨_, r⟩ => by
    show xs.length + 1 = ps.length + 1
    rw [Prs.len r]
section
variable {X : Cx} {pins : List (Addr × Obj)} {σ : L2.St} {H : Hp} {s : Shared}
def ReadyI (X : Cx) (pins : List (Addr × Obj)) (σ : L2.St) (H1 : Hp) (P : Addr) (ps : List (V × V)) (f : V → Int) (g : Addr) (s5 : Shared) : Prop :=
  ∃ (fp wr : List Addr) (G : Array GenState → Array GenState → Prop) (F : Nat → Value → Prop) (St : Nat → Shared → Prop),
    WalksS X.prog X.w X.A.in1 g fp wr G ps.length F St ∧ St 0 s5 ∧ (∀ b ∈ fp, b < s5.heap.objs.size) ∧ g ∈ fp ∧ (∀ i s9, St i s9 → s9.TypeIs (.ref g) "generator") ∧
    (∀ j v, F j v → ∃ (p : V × V) (t : Tok), ps[j]? = some p ∧ v = .int (f p.1) t) ∧
    ∀ s', Moved wr G s5 s' → ∃ H2, Tabb P H1 H2 ∧ Inv X pins σ H2 s'
theorem gen_prs {c P : Addr} {elt iter : Expr} {xa xb : Str} {pa pb pt : Pos} {kt : Nat} {gpos : Pos} {scope : Scope} {Pz : V → Prop} {f : V → Int} {te : TE} {k : Nat} {Q' : Value → Shared → Prop} {R : List (V × V) → Hp → Prop}
    (hr : Room k X.A) (TB : GxR.TabB X.base X.mg c P) (hcode : X.env.code = .ref c) (S : GenS2 X.env scope xa xb) (hi : PE X iter te) (hel : EltI X.prog X.w X.mg scope xa xb elt Pz f)
    (hs : ∀ v, genFold iter X.env v = pure v) (I : Inv X pins σ H s) (h : te σ H fun v H1 => ∃ (yl : Addr) (xs : List V) (ps : List (V × V)), v = .ref yl ∧ SqT X.K H1 yl xs ∧ Prs X.K H1 xs ps ∧ (∀ p ∈ ps, Pz p.1) ∧ GxR.TabG H1 P ∧ R ps H1)
    (hQ : ∀ ps H1 g s5, R ps H1 → ReadyI X pins σ H1 P ps f g s5 → Q' (.ref g) s5) :
    wpAny (model X.prog X.w) X.A (eval (.GeneratorExp elt [⟨.Tuple [.Name xa pa, .Name xb pb] kt pt, iter, [], 0⟩] scope gpos) X.env) Q' X.xe s := by
  refine wpAny_GeneratorExp_walksQT hr.hd S.co (closure_ok S.free) S.cell S.dot S.locA S.locB S.ne S.kind (by have := hr.dp; omega) ?_ hs
  refine thn (hi.run pins s σ H _ I h) fun xv s1 ⟨v, H1, I1, r1, q1⟩ => ?_
  obtain ⟨yl, xs, prs, rfl, hyl, hpr, hPz, ⟨ps, hP, ht⟩, q1⟩ := q1
  obtain rfl : xv = Value.ref yl := r1
  obtain ⟨its, rv, hIL, hz⟩ := I1.tuple hyl
  have hlen : its.length = prs.length := by rw [← rv.length, hpr.len]
  have hat : ∀ j, j < its.toArray.size → ∃ (b : Addr) (ua ub : Value) (p : V × V), its.toArray[j]? = some (.ref b) ∧ s1.heap.IsTuple b #[ua, ub] ∧ prs[j]? = some p ∧ RelV p.1 ua := fun j hj => by
    have hj2 : j < xs.length := by
      rw [rv.length]
      simpa using hj
    obtain ⟨b, p, ex, hp, sb⟩ := hpr.at (List.getElem?_eq_getElem hj2)
    obtain ⟨u, hu, ru⟩ := rv.get (List.getElem?_eq_getElem hj2)
    rw [ex] at ru
    cases ru
    obtain ⟨it2, rv2, tb, _⟩ := I1.tuple sb
    cases rv2 with
    | cons ra r2 =>
      cases r2 with
      | cons rb r3 =>
        cases r3
        exact ⟨b, _, _, p, by simpa using hu, tb, hp, ra⟩
  refine wpAny_pyIter_tuple hIL ?_
  generalize ho : ({ cls := .type "tuple_iterator", data := .fields #[.ref yl, .int 0 0] } : Obj) = o
  have hitr : (s1.heap.push o).IsTupleIter s1.heap.objs.size yl 0 := by
    subst ho
    exact ⟨_, Heap.get?_push_size _ rfl, rfl, rfl⟩
  have hylt : yl < s1.heap.objs.size := by
    obtain ⟨_, e, _⟩ := _root_.id hIL
    exact Heap.lt_size e
  have hPs : s1.heap.get? P = some { cls := .none, data := .fields ps } := I1.hok P _ hP
  have hPlt : P < s1.heap.objs.size := Heap.lt_size hPs
  have hP2 : (s1.heap.push o).get? P = some { cls := .none, data := .fields ps } := Heap.get?_push_of_some _ hPs
  have cd : PySem.W.CodeHd (s1.heap.push o) c P := TB.code.keeps fun b u e => Heap.get?_push_of_some _ (I1.bk b u e)
  have lim2 : (s1.heap.push o).NoLimit := I1.nolimit.push o
  -- the pairs' objects
  obtain ⟨Ts, vals, hTs⟩ : ∃ (Ts : Nat → Addr) (vals : Nat → Array Value), ∀ j, j < its.toArray.size → ∃ (ua ub : Value) (p : V × V), its.toArray[j]? = some (.ref (Ts j)) ∧ s1.heap.IsTuple (Ts j) (vals j) ∧ vals j = #[ua, ub] ∧ prs[j]? = some p ∧ RelV p.1 ua := by
    have key : ∀ j, ∃ q : Addr × Array Value, j < its.toArray.size → ∃ (ua ub : Value) (p : V × V), its.toArray[j]? = some (.ref q.1) ∧ s1.heap.IsTuple q.1 q.2 ∧ q.2 = #[ua, ub] ∧ prs[j]? = some p ∧ RelV p.1 ua := fun j => by
      by_cases hj : j < its.toArray.size
      · obtain ⟨b, ua, ub, p, e1, e2, e3, e4⟩ := hat j hj
        exact ⟨(b, #[ua, ub]), fun _ => ⟨ua, ub, p, e1, e2, rfl, e3, e4⟩⟩
      · exact ⟨(0, #[]), fun h => absurd h hj⟩
    exact ⟨fun j => (Classical.choose (key j)).1, fun j => (Classical.choose (key j)).2, fun j hj => Classical.choose_spec (key j) hj⟩
  obtain ⟨mb, bl1, bl2⟩ := I1.mod.blt
  have nsP : ∀ {b : Addr} {m : Str → Option Value}, s1.heap.Ns b m → b ≠ P := fun {b m} hn z => by
    obtain ⟨o', es, ep, e1, e2, _⟩ := hn
    rw [z, hPs] at e1
    cases e1
    cases e2
  have tupP : ∀ {b : Addr} {vs : Array Value}, s1.heap.IsTuple b vs → b ≠ P := fun {b vs} hn z => by
    obtain ⟨o', e1, _, n, e2⟩ := hn
    rw [z, hPs] at e1
    cases e1
    cases e2
  have cont : ∀ (code : Value) (h3 : Heap) (tk : Nat) (ps' : Array Value), Heap.ExtBut P (s1.heap.push o) h3 → (s1.heap.push o).objs.size ≤ h3.objs.size → h3.get? P = some { cls := .none, data := .fields ps' } → (∃ more, ps' = ps ++ more) → TriplesOk ps'.toList →
      wpAny (model X.prog X.w) X.A (builtinsFor X.env.globals X.env.builtins) (fun bi s₄ =>
        ∃ Ia fp wr n₀ Pt St₀ Mid pz F, Value.ref s1.heap.objs.size = .ref Ia ∧ (∀ A' : Around, A'.handled = none → WalksU X.prog X.w A' Ia fp wr n₀ Pt St₀ Mid) ∧ (∀ i vals, Pt i vals → ∃ va vb, vals = #[va, vb]) ∧ St₀ 0 s₄.heap ∧ (∀ b ∈ fp, b < s₄.heap.objs.size) ∧ s₄.heap.NoLimit ∧ cStatics ∉ wr ∧
          (∀ href : Heap, (∀ b o, s₄.heap.get? b = some o → href.get? b = some o) →
            QuietGenT X.prog X.w (genEnv scope (cloFrom X.env.cells scope.names []) s₄.heap.objs.size code bi X.env) xa xb [] elt (List.range s₄.heap.objs.size) wr Pt pz F href) ∧
          (∀ a h₅ tk gs, gs.bare = true → s₄.heap.objs.size < a → h₅.objs.size = a + 1 → (∀ b o, s₄.heap.get? b = some o → h₅.get? b = some o) →
            WalksS X.prog X.w X.A.in4 a (a :: s₄.heap.objs.size :: List.range s₄.heap.objs.size) (s₄.heap.objs.size :: wr) (GenOnlyQ s₄.gens.size) (passing pz n₀ 0).length
              (fun j y => ∃ i, (passing pz n₀ 0)[j]? = some i ∧ F i y) (GenAt X.prog X.w X.A.in4 a s₄.gens.size s₄.heap.objs.size (List.range s₄.heap.objs.size) wr pz n₀ F) →
            GenAt X.prog X.w X.A.in4 a s₄.gens.size s₄.heap.objs.size (List.range s₄.heap.objs.size) wr pz n₀ F 0 { s₄ with gens := s₄.gens.push gs, toks := tk, heap := h₅ } →
            Q' (.ref a) { s₄ with gens := s₄.gens.push gs, toks := tk, heap := h₅ })) X.xe { s1 with heap := h3, toks := tk } := by
    intro code h3 tk ps' hx hsz hP3 hmore ht3
    obtain ⟨bm, ob, e1, e2, e3, e4, e5, e6, e7, e8⟩ := TB.bm
    have hcP : cStatics ≠ P := fun e => by
      obtain ⟨_, hns, _⟩ := I1.nolimit
      obtain ⟨o', es, ep, ho, hd, _⟩ := hns
      rw [e, hPs] at ho
      cases ho
      cases hd
    have hcl : cStatics < s1.heap.objs.size := let ⟨_, hns, _⟩ := I1.nolimit; hns.lt
    have sz2 : (s1.heap.push o).objs.size = s1.heap.objs.size + 1 := Heap.size_push ..
    have keep3 : ∀ b u, b ≠ P → s1.heap.get? b = some u → h3.get? b = some u := fun b u hb e => hx b u hb (Heap.get?_push_of_some _ e)
    refine wpAny_builtinsFor (m := X.mg) (by rw [I1.ok.glob]; exact ((I1.mod.glob.keeps I1.bk).push o).extBut hx TB.gP) e1 e2 (keep3 _ _ e4 (I1.bk _ _ e5)) e6 e7 e8 ?_
    have hIL3 : h3.IsTuple yl its.toArray := by
      obtain ⟨ob, e, r⟩ := _root_.id hIL
      exact ⟨ob, keep3 _ _ (tupP hIL) e, r⟩
    have hTup3 : ∀ j, j < its.toArray.size → h3.IsTuple (Ts j) (vals j) := fun j hj => by
      obtain ⟨_, _, _, _, t2, _⟩ := hTs j hj
      have t2' := t2
      obtain ⟨ob, e, r⟩ := t2
      exact ⟨ob, keep3 _ _ (tupP t2') e, r⟩
    have hItr3 : h3.IsTupleIter s1.heap.objs.size yl 0 := hitr.at fun u e => hx _ u (Nat.ne_of_gt hPlt) e
    have hTlt : ∀ j, j < its.toArray.size → Ts j < s1.heap.objs.size := fun j hj => by
      obtain ⟨_, _, _, _, ⟨ob, e, _⟩, _⟩ := hTs j hj
      exact Heap.lt_size e
    refine ⟨s1.heap.objs.size, s1.heap.objs.size :: yl :: (List.range its.toArray.size).map Ts, [s1.heap.objs.size], its.toArray.size, (fun j v => v = vals j ∧ j < its.toArray.size),
      (fun j h => h.IsTupleIter s1.heap.objs.size yl j ∧ h.IsTuple yl its.toArray ∧ ∀ k, k < its.toArray.size → h.IsTuple (Ts k) (vals k)),
      (fun j T h => (j < its.toArray.size ∧ T = Ts j) ∧ h.IsTupleIter s1.heap.objs.size yl (j + 1) ∧ h.IsTuple yl its.toArray ∧ ∀ k, k < its.toArray.size → h.IsTuple (Ts k) (vals k)), (fun _ => true),
      (fun i y => ∃ (p : V × V) (t : Tok), prs[i]? = some p ∧ y = .int (f p.1) t), rfl, (fun A' hA => walkPairsT hA _ _ (Nat.ne_of_lt hylt) its.toArray Ts vals (fun j hj => (hTs j hj).elim fun _ z => z.elim fun _ z => z.elim fun _ z => z.1) (fun j hj => Nat.ne_of_lt (hTlt j hj))), ?_, ⟨hItr3, hIL3, hTup3⟩, ?_, lim2.extBut hx hcP, ?_, ?_, ?_⟩
    · rintro i vs ⟨rfl, hi⟩
      obtain ⟨ua, ub, _, _, _, e, _⟩ := hTs i hi
      exact ⟨ua, ub, e⟩
    · intro b hb
      rcases List.mem_cons.mp hb with z | z
      · rw [z]
        show s1.heap.objs.size < h3.objs.size
        omega
      · have e9 : s1.heap.objs.size ≤ h3.objs.size := by omega
        rcases List.mem_cons.mp z with z | z
        · rw [z]
          exact Nat.lt_of_lt_of_le hylt e9
        · obtain ⟨j, hj, rfl⟩ := List.mem_map.mp z
          exact Nat.lt_of_lt_of_le (hTlt j (List.mem_range.mp hj)) e9
    · intro z
      rcases List.mem_cons.mp z with z | z
      · exact Nat.ne_of_lt hcl z
      · cases z
    · intro href hhref
      refine ⟨fun A' E' i va vb s₂ m₂ hA hPv hn hma hmb hk => ?_, fun A' E' i va vb s₂ m₂ hA hPv hp hn hma hmb hk => ?_⟩
      · simp only [List.forIn_nil]
        exact wpAny_pure ⟨rfl, GxR.keeps_refl _⟩
      · obtain ⟨ev, hi⟩ := hPv
        obtain ⟨ua, ub, p, _, _, e, hp2, rp⟩ := hTs i hi
        rw [e] at ev
        have ea : va = ua := by
          have := congrArg (fun z : Array Value => z[0]?) ev
          simpa using this
        subst ea
        have stay : ∀ {b : Addr} {m : Str → Option Value}, s1.heap.Ns b m → s₂.heap.Ns b m := fun {b m} hn1 => by
          have hbP := nsP hn1
          have hblt := hn1.lt
          refine hn1.at' fun o' e' => hk b ?_ ?_ o' (hhref b o' (keep3 b o' hbP e'))
          · refine List.mem_range.mpr ?_
            have e9 : s1.heap.objs.size ≤ h3.objs.size := by omega
            exact Nat.lt_of_lt_of_le hblt e9
          · intro z
            rcases List.mem_cons.mp z with z | z
            · rw [z] at hblt
              exact Nat.lt_irrefl _ hblt
            · cases z
        refine wpAny_mono (hel _ A' E' p.1 va vb s₂ m₂ mb rfl (by show X.env.globals = _; rw [I1.ok.glob]) rfl (stay (I1.mod.glob.keeps I1.bk)) (stay (bl1.keeps I1.bk)) bl2 (hPz p (List.mem_of_getElem? hp2)) rp hn hma hmb) (fun y s3 r => ?_) fun _ _ e => e
        obtain ⟨⟨t, e⟩, kp⟩ := r
        exact ⟨⟨p, t, hp2, e⟩, kp⟩
    · intro g h5 tk5 gs hgb hag hsz5 hk5 W5 hgat
      simp only [GxR.passing_true, List.length_range] at W5
      have hn5 : its.toArray.size = prs.length := by rw [List.size_toArray, hlen]
      rw [hn5] at W5 hgat
      refine hQ prs H1 g _ q1 ⟨_, _, _, _, _, W5.in4_1, hgat, ?_, List.mem_cons_self, fun i s9 h9 => ?_, ?_, fun s' hm => ?_⟩
      · intro b hb
        show b < h5.objs.size
        have e5 : h5.objs.size = g + 1 := hsz5
        have h8 : h3.objs.size < g := hag
        rw [e5]
        rcases List.mem_cons.mp hb with z | z
        · rw [z]
          exact Nat.lt_succ_self g
        · rcases List.mem_cons.mp z with z | z
          · rw [z]
            exact Nat.lt_succ_of_lt h8
          · have z2 := List.mem_range.mp z
            have h7 : b < h3.objs.size := z2
            exact Nat.lt_succ_of_lt (Nat.lt_trans h7 h8)
      · obtain ⟨hg9, _⟩ := h9
        exact hg9.typeIs
      · intro j v hv
        obtain ⟨i, hij, a, t, ha, e⟩ := hv
        obtain ⟨hj, ej⟩ := List.getElem?_eq_some_iff.mp hij
        rw [List.getElem_range] at ej
        subst ej
        exact ⟨a, t, ha, e⟩
      · obtain ⟨more, em⟩ := hmore
        have nwr : ∀ b u, s1.heap.get? b = some u → b ∉ h3.objs.size :: [s1.heap.objs.size] := fun b u e hb => by
          have hl := Heap.lt_size e
          rcases List.mem_cons.mp hb with z | z
          · rw [z] at hl
            have h9 : (h3.objs.size : Nat) < s1.heap.objs.size := hl
            omega
          · rcases List.mem_cons.mp z with z | z
            · rw [z] at hl
              exact Nat.lt_irrefl _ hl
            · cases z
        have J := GxR.inv_tab (more := more) (h' := s'.heap) (g' := s'.gens) (d' := s'.drawn) (t' := s'.toks) I1 hP (fun b u hb e => hm.heap b u (nwr b u e) (hk5 b u (keep3 b u hb e)))
          (by rw [← em]; exact hm.heap P _ (nwr P _ hPs) (hk5 P _ hP3)) (AllBare.movedS (I1.bare.push hgb) hm)
        rw [GxR.sh_eta s1 s' hm.os] at J
        exact ⟨upd H1 P (.tbl (ps ++ more)), ⟨ps, more, hP, ht, by rw [← em]; exact ht3, rfl⟩, J⟩
  refine ⟨lim2, ?_⟩
  cases hf : codeAmong gpos ps.toList with
  | none =>
    refine wpAny_genexprCodeX hcode (cd.code hP2 ht) (cd.tab hP2) hf fun c' h' tk hx hge hlt hco' _ htab' _ => ?_
    obtain ⟨o1, vs, f1, tf, fl, tg, inF, tx, tt, op, _, _, _, _, _, _, _, _, _, htr, _⟩ := hco'
    exact cont _ h' tk _ hx (Nat.le_trans hge (Nat.le_of_lt hlt)) htab'.2 ⟨_, rfl⟩ htr
  | some cv =>
    refine wpAny_genexprCode_hit hcode (cd.code hP2 ht) hf ?_
    exact cont cv (s1.heap.push o) s1.toks ps (Heap.ExtBut.refl _ _) (Nat.le_refl _) hP2 ⟨#[], by simp⟩ ht
/-- sum(elt for a, b in iter) -/
def tSumG (K : PySem.W.Frag) (P : Addr) (Pz : V → Prop) (f : V → Int) (te : TE) : TE := fun σ H Q => te σ H fun v H1 => ∃ (yl : Addr) (xs : List V) (ps : List (V × V)), v = .ref yl ∧ SqT K H1 yl xs ∧ Prs K H1 xs ps ∧ (∀ p ∈ ps, Pz p.1) ∧ GxR.TabG H1 P ∧ ∀ H2, Tabb P H1 H2 → Q (.int ((ps.map fun p => f p.1).sum)) H2
theorem preSum_sum (ps : List (V × V)) (f : V → Int) : ∀ n, n ≤ ps.length → preSum (fun j => ((ps[j]?).map fun p => f p.1).getD 0) n = ((ps.take n).map fun p => f p.1).sum
  | 0, _ => rfl
  | n + 1, h => by
    have hn : n < ps.length := h
    rw [List.take_succ, List.getElem?_eq_getElem hn, List.map_append, List.sum_append, ← preSum_sum ps f n (Nat.le_of_lt hn)]
    show preSum _ n + ((ps[n]?).map fun p => f p.1).getD 0 = _
    rw [List.getElem?_eq_getElem hn]
    simp
theorem pe_sumG {P : Addr} {elt iter : Expr} {xa xb : Str} {pa pb pt : Pos} {kt : Nat} {gpos p pos : Pos} {scope : Scope} {Pz : V → Prop} {f : V → Int} {te : TE} {k : Nat} {K : PySem.W.Frag} (hK : X.K = K)
    (hr : Room k X.A) (hg : Gl X "sum") (hm : X.mg "sum" = none) (hb : bootBuiltins "sum" = some (.builtin "sum")) {c : Addr} (TB : GxR.TabB X.base X.mg c P) (hcode : X.env.code = .ref c) (S : GenS2 X.env scope xa xb) (hi : PE X iter te) (hel : EltI X.prog X.w X.mg scope xa xb elt Pz f)
    (hs : ∀ v, genFold iter X.env v = pure v)
    (he : starEach [.GeneratorExp elt [⟨.Tuple [.Name xa pa, .Name xb pb] kt pt, iter, [], 0⟩] scope gpos] X.env = (false, eval (.GeneratorExp elt [⟨.Tuple [.Name xa pa, .Name xb pb] kt pt, iter, [], 0⟩] scope gpos) X.env) :: starEach [] X.env := by rfl)
    (hpl : (backTo pos (starEach [] X.env)).any (·.1) = false := by rfl) :
    PE X (.Call (.Name "sum" p) [.GeneratorExp elt [⟨.Tuple [.Name xa pa, .Name xb pb] kt pt, iter, [], 0⟩] scope gpos] [] pos) (tSumG K P Pz f te) := by
  subst hK
  refine ⟨fun pins s σ H Q I h => ?_⟩
  refine wpAny_Call_Name_kw (ld_blt I hg hm hb ?_ (by decide) (by decide))
  refine PyProof.Rows.callWith_builtin1 ?_ he hpl
  rw [he]
  show wpAny _ _ (spliced ((false, eval (.GeneratorExp elt [⟨.Tuple [.Name xa pa, .Name xb pb] kt pt, iter, [], 0⟩] scope gpos) X.env) :: backTo pos (starEach [] X.env))) _ _ s
  refine Calls.spliced_cons (gen_prs (R := fun (ps : List (V × V)) (H1 : Hp) => ∀ H2, Tabb P H1 H2 → Q (.int ((ps.map fun (z : V × V) => f z.1).sum)) H2) hr TB hcode S hi hel hs I h fun ps H1 g s5 hR hG => ?_)
  refine Calls.spliced_nil ?_
  obtain ⟨fp, wr, G, F, St, W, hst, hfp, hgf, hT, hF, hinv⟩ := hG
  refine call_sum_walkAnyS (W.self 0 _ _ _ hst ⟨g, fp, wr, G, ps.length, F, St, (fun j => ((ps[j]?).map fun p => f p.1).getD 0), rfl, W, hst, hfp, fun i v hv => ?_, fun s' t' hm => ?_⟩)
  · obtain ⟨p, t, hp, rfl⟩ := hF i v hv
    refine ⟨t, ?_⟩
    show Value.int (f p.1) t = Value.int (((ps[i]?).map fun p => f p.1).getD 0) t
    rw [hp]; rfl
  · obtain ⟨H2, ht, J⟩ := hinv s' hm
    rw [preSum_sum ps f _ (Nat.le_refl _), List.take_length]
    exact ⟨.int _, H2, J, ⟨t', rfl⟩, hR H2 ht⟩
end
/-- len(a) of a text -/
def lenI : V → Int
  | .str x => x.length
  | _ => 0
theorem elt_len {prog : Program} {w : World} {mg : Str → Option Value} {scope : Scope} {x xb : Str} {p1 p2 p3 : Pos} (hk : scope.kind = .function) (hl : scope.names.lookup x = some .local) (hgl : scope.names.lookup ("len" : Str) = some .globalImplicit) (hm : mg "len" = none) (hd : (x == ("__debug__" : Str)) = false := by decide)  :
    EltI prog w mg scope x xb (.Call (.Name "len" p1) [.Name x p2] [] p3) (fun v => ∃ y : Str, v = .str y ∧ y.length ≤ sizeLine) lenI := by
  intro cenv A' E' v ua ub s₂ m₂ mb hs hg hb hn1 hn2 hmb hz rv hn hma hmb2
  obtain ⟨y, rfl, hy⟩ := hz
  obtain ⟨t, rfl⟩ := (show ∃ t, ua = Value.str y t from rv)
  have hk' : cenv.scope.kind = .function := by rw [hs]; exact hk
  refine wpAny_Call_Name_kw (Calls.Name_function_global hk' (show cenv.scope.names.lookup ("len" : Str) = some .globalImplicit by rw [hs]; exact hgl) (Calls.loadGlobal_builtin (by rw [hg]; exact hn1) hm (by rw [hb]; exact hn2) ((hmb "len" (by decide)).trans (show bootBuiltins "len" = some (.builtin "len") by decide +kernel)) ?_))
  refine PyProof.Rows.callWith_builtin1 ?_ (by rfl) (by rfl)
  show wpAny _ _ (spliced ((false, eval (.Name x p2) cenv) :: backTo p3 (starEach [] cenv))) _ _ s₂
  refine Calls.spliced_cons (wpAny_Name (wpAny_loadName_local hk' (show cenv.scope.names.lookup x = some .local by rw [hs]; exact hl) hn hma ?_) hd)
  refine Calls.spliced_nil ?_
  have hl63 := line63
  have hsz : sizeLine = 16777216 := sizeLine_eq
  exact len_str (by omega) ⟨⟨_, rfl⟩, keeps_tok _ _⟩
end Vf
end
section
set_option Elab.async false
set_option linter.all false
set_option maxRecDepth 100000
set_option maxHeartbeats 4000000
/-! != of any data with a text. -/
namespace PySem
open PySem.SeqAt PySem.MeetsSeq
theorem vf_dict_ne_declines_str (l : Addr) (x : Str) (t : Tok) (ob : Obj) (hc : ob.cls = .type "dict") :
    Meets (Builtin.«dict.__ne__» ⟨[.ref l, .str x t], []⟩) (fun _ R s => s.heap.get? l = some ob ∧ R (.ok (.ret .notImplemented)) s) :=
  .of_wp fun prog w A R s h => by obtain ⟨hp, g, d, tk, os⟩ := s; obtain ⟨hl, h⟩ := h; obtain ⟨oc, od, oda, osl⟩ := ob; dsimp only at hc; subst hc; have f1 := F.sub_str_dict; wp_walk using wpAny_loadPart' hl; exact ⟨_, rfl, h⟩
end PySem
namespace PySem
open PySem.SeqAt PySem.MeetsSeq
theorem vf_str_ne_declines_dict (l : Addr) (x : Str) (t : Tok) (ob : Obj) {es : Array DictEntry} {ep : Nat} (hc : ob.cls = .type "dict") (hd : ob.data = .dict es ep) :
    Meets (Builtin.«str.__ne__» ⟨[.str x t, .ref l], []⟩) (fun _ R s => s.heap.get? l = some ob ∧ R (.ok (.ret .notImplemented)) s) :=
  .of_wp fun prog w A R s h => by obtain ⟨hp, g, d, tk, os⟩ := s; obtain ⟨hl, h⟩ := h; obtain ⟨oc, od, oda, osl⟩ := ob; dsimp only at hc hd; subst hc hd; have f1 := F.sub_dict_str; wp_walk using wpAny_loadPart' hl, wpAny_load hl; exact ⟨_, rfl, h⟩
theorem vf_ne_dict_str {A : Around} {s : Shared} {l : Addr} {ob : Obj} (b : Str) (u : Tok) (hl : s.heap.get? l = some ob) {es : Array DictEntry} {ep : Nat} (hc : ob.cls = .type "dict") (hd : ob.data = .dict es ep) (hu : A.units < cLine) : RcNeAt A s (.ref l) (.str b u) true := fun prog w E Q h => by
  exact rc_ne_decline_or (k := false) ⟨_, hl, hc⟩ (typeIs_str s b u) (by decide) F.sub_str_dict F.slot_dict_ne F.slot_str_ne_refl
    (fun _ hq => call_meets F.slot_dict_ne ⟨_, hl, hc⟩ F.entry_dict_ne (F.args_dict_ne_2 _ _) (vf_dict_ne_declines_str l b u ob hc) ⟨hl, hq⟩)
    (fun _ hq => call_meets F.slot_str_ne_refl (typeIs_str s b u) F.entry_str_ne (F.args_str_ne_2 _ _) (vf_str_ne_declines_dict l b u ob hc hd) ⟨hl, hq⟩)
    (fun _ hq => wpAny_of_eq (rfl : isSame (.ref l) (.str b u) = pure false) hq) (.inr hu) h
end PySem
namespace Vf
theorem rcne {prog : PySem.Program} {w : PySem.World} {A : PySem.Around} {E : PySem.Value → PySem.Shared → Prop} {s : PySem.Shared} {Q : PySem.Value → PySem.Shared → Prop} {a b : PySem.Value} {k : Bool} (h : PySem.SeqAt.RcNeAt A s a b k) (hq : Q (.bool k) s) : PySem.wpAny (PySem.model prog w) A (PySem.compareOp .NotEq a b) Q E s := h prog w E Q hq
open PySem PySem.Spec PyProof.Rows L2 GxR GenW RZ
def eqS : PyData → Str → Bool
  | .str x, z => decide (V.str x = V.str z)
  | _, _ => false
section
variable {X : Cx}
/-- x != y, x any data, y a text -/
structure rNeS (K : PySem.W.Frag) (x y : V) (H : Hp) (Q : VK) : Prop where
  h : ∃ (d : PyData) (z : Str), Dd K H x d ∧ y = .str z ∧ Q (.bl (!eqS d z)) H
theorem op_neS {K : PySem.W.Frag} (hK : X.K = K) (hu : X.A.units + 64 < cLine) : OpR X (compareOp .NotEq) (rNeS K) := by
  subst hK
  intro pins s σ H x y v u Q I rx ry h
  obtain ⟨d, z, hd, rfl, q⟩ := h.h
  have huu : X.A.units < cLine := by omega
  cases hd with
  | non => exact op_ne pins s σ H _ _ v u Q I rx ry ⟨rfl, by have e : (!eqS (PyData.none) z) = (!decide (V.non = .str z)) := by simp [eqS]
                                                             rw [← e]; exact q⟩
  | bl b => exact op_ne pins s σ H _ _ v u Q I rx ry ⟨rfl, by have e : (!eqS (PyData.bool b) z) = (!decide (V.bl b = .str z)) := by simp [eqS]
                                                              rw [← e]; exact q⟩
  | int i => exact op_ne pins s σ H _ _ v u Q I rx ry ⟨rfl, by have e : (!eqS (PyData.int i) z) = (!decide (V.int i = .str z)) := by simp [eqS]
                                                               rw [← e]; exact q⟩
  | str w => exact op_ne pins s σ H _ _ v u Q I rx ry ⟨rfl, by have e : (!eqS (PyData.str w) z) = (!decide (V.str w = .str z)) := by simp [eqS]
                                                               rw [← e]; exact q⟩
  | @lst a xs ds h1 h2 =>
    cases rx
    obtain ⟨t, rfl⟩ := ry
    obtain ⟨its, rv, hl, _⟩ := I.list h1
    exact rcne (SeqAt.RcNeAt.list_str z t hl.isList huu) ⟨.bl true, H, I, rfl, by simpa [eqS] using q⟩
  | @tup a xs ds h1 h2 =>
    cases rx
    obtain ⟨t, rfl⟩ := ry
    obtain ⟨its, rv, hl, _⟩ := I.tuple h1
    exact rcne (SeqAt.RcNeAt.tuple_str z t hl huu) ⟨.bl true, H, I, rfl, by simpa [eqS] using q⟩
  | @dct a h1 =>
    cases rx
    obtain ⟨t, rfl⟩ := ry
    obtain ⟨_, hne, vs, kv, hdd⟩ := I.hok _ _ h1
    obtain ⟨o, es, ep, ho, hx, hda, _⟩ := hdd
    exact rcne (vf_ne_dict_str z t ho hx.1 hda huu) ⟨.bl true, H, I, rfl, by simpa [eqS] using q⟩
theorem rceq {prog : PySem.Program} {w : PySem.World} {A : PySem.Around} {E : PySem.Value → PySem.Shared → Prop} {s : PySem.Shared} {Q : PySem.Value → PySem.Shared → Prop} {a b : PySem.Value} {k : Bool} (h : PySem.SeqAt.RcAt A s a b k) (hq : Q (.bool k) s) : PySem.wpAny (PySem.model prog w) A (PySem.compareOp .Eq a b) Q E s := h prog w E Q hq
/-- a list against an empty list -/
structure rLstE (K : PySem.W.Frag) (x y : V) (H : Hp) (Q : Bool → Prop) : Prop where
  h : ∃ (a b : Addr) (xs : List V), x = .ref a ∧ y = .ref b ∧ SqL K H a xs ∧ SqL K H b [] ∧ Q (decide (xs = []))
theorem listE {pins : List (Addr × Obj)} {σ : L2.St} {H : Hp} {s : Shared} {a b : Addr} {xs : List V} (I : Inv X pins σ H s) (ha : SqL X.K H a xs) (hb : SqL X.K H b []) : ∃ its its2 : Array Value, s.heap.IsList a its ∧ s.heap.IsList b its2 ∧ its2.size = 0 ∧ its.size = xs.length := by
  obtain ⟨i1, r1, l1, _⟩ := I.list ha
  obtain ⟨i2, r2, l2, _⟩ := I.list hb
  cases r2
  exact ⟨_, _, l1.isList, l2.isList, rfl, by rw [List.size_toArray]; exact r1.length.symm⟩
theorem op_neE {K : PySem.W.Frag} (hK : X.K = K) (hu : X.A.units + 64 < cLine) : OpR X (compareOp .NotEq) (fun x y H Q => rLstE K x y H fun b => Q (.bl (!b)) H) := by
  subst hK
  intro pins s σ H x y v u Q I rx ry h
  obtain ⟨a, b, xs, rfl, rfl, ha, hb, q⟩ := h.h
  cases rx
  cases ry
  have huu : X.A.units < cLine := by omega
  obtain ⟨its, its2, l1, l2, z2, z1⟩ := listE I ha hb
  cases xs with
  | nil =>
    have e : its.size = its2.size := by rw [z1, z2]; rfl
    refine rcne (SeqAt.RcNeAt.lists (e := fun _ => true) l1 l2 e huu fun j h1 _ => absurd h1 (by rw [z1]; exact Nat.not_lt_zero _)) ?_
    have e0 : its.size = 0 := z1
    rw [e0]
    exact ⟨.bl false, H, I, rfl, q⟩
  | cons x xs =>
    have e : (its.size != its2.size) = true := by rw [z1, z2]; rfl
    exact rcne (SeqAt.RcNeAt.lists_lengths l1 l2 e huu) ⟨.bl true, H, I, rfl, q⟩
theorem op_eqE {K : PySem.W.Frag} (hK : X.K = K) (hu : X.A.units + 64 < cLine) : OpR X (compareOp .Eq) (fun x y H Q => rLstE K x y H fun b => Q (.bl b) H) := by
  subst hK
  intro pins s σ H x y v u Q I rx ry h
  obtain ⟨a, b, xs, rfl, rfl, ha, hb, q⟩ := h.h
  cases rx
  cases ry
  have huu : X.A.units < cLine := by omega
  obtain ⟨its, its2, l1, l2, z2, z1⟩ := listE I ha hb
  cases xs with
  | nil =>
    have e : its.size = its2.size := by rw [z1, z2]; rfl
    refine rceq (SeqAt.RcAt.lists (e := fun _ => true) l1 l2 e huu fun j h1 _ => absurd h1 (by rw [z1]; exact Nat.not_lt_zero _)) ?_
    have e0 : its.size = 0 := z1
    rw [e0]
    exact ⟨.bl true, H, I, rfl, q⟩
  | cons x xs =>
    have e : (its.size != its2.size) = true := by rw [z1, z2]; rfl
    exact rceq (SeqAt.RcAt.lists_lengths l1 l2 e huu) ⟨.bl false, H, I, rfl, q⟩
/-- the wider operators -/
structure rNeW (K : PySem.W.Frag) (x y : V) (H : Hp) (Q : VK) : Prop where
  h : rNeU K x y H Q ∨ rNeS K x y H Q ∨ (rLstE K x y H fun b => Q (.bl (!b)) H)
theorem u_neW {K : PySem.W.Frag} (hK : X.K = K) (hu : X.A.units + 64 < cLine) : OpR X (compareOp .NotEq) (rNeW K) :=
  fun pins s σ H x y v u Q I rx ry h => (OpR.or (u_ne hK hu) (OpR.or (op_neS hK hu) (op_neE hK hu))) pins s σ H x y v u Q I rx ry h.h
structure rEqW (K : PySem.W.Frag) (x y : V) (H : Hp) (Q : VK) : Prop where
  h : rEqU K x y H Q ∨ (rLstE K x y H fun b => Q (.bl b) H) ∨ ∃ (b : Bool) (i : Int), x = .bl b ∧ y = .int i ∧ Q (.bl ((if b then 1 else 0) == i)) H
theorem op_eqBI : OpR X (compareOp .Eq) (fun x y H Q => ∃ (b : Bool) (i : Int), x = .bl b ∧ y = .int i ∧ Q (.bl ((if b then 1 else 0) == i)) H) := by
  intro pins s σ H x y v u Q I rx ry h
  obtain ⟨b, i, rfl, rfl, q⟩ := h
  cases rx
  obtain ⟨t, rfl⟩ := ry
  exact PySem.EqBoolInt.eq_bool_int ⟨.bl _, H, I, rfl, q⟩
theorem u_eqW {K : PySem.W.Frag} (hK : X.K = K) (hu : X.A.units + 64 < cLine) : OpR X (compareOp .Eq) (rEqW K) :=
  fun pins s σ H x y v u Q I rx ry h => (OpR.or (u_eq hK hu) (OpR.or (op_eqE hK hu) op_eqBI)) pins s σ H x y v u Q I rx ry h.h
theorem call_strU : CallR X (.type "str") (fun xs H Q => (∃ i : Int, xs = [.int i] ∧ i.natAbs.log2 < 1920 ∧ Q (.str (toString i)) H) ∨ ∃ b : Bool, xs = [.bl b] ∧ Q (.str (if b then "True" else "False")) H) := by
  intro pins s σ H xs us Q I r h
  rcases h with h | ⟨b, rfl, q⟩
  · exact call_str_int pins s σ H xs us Q I r h
  · obtain ⟨u, rfl, rx⟩ := vals1 r
    cases rx
    exact PySem.P.str_of_bool ⟨.str _, H, I.tok _, ⟨_, rfl⟩, q⟩
end
section
variable {K : PySem.W.Frag} {H : Hp} {Q : VK}
theorem wn_flat {x y : V} (h : scal x y = true) (q : Q (.bl (!decide (x = y))) H) : rNeW K x y H Q := ⟨.inl (n_flat h q)⟩
theorem wn_str {x : V} {d : PyData} {z : Str} (h : Dd K H x d) (q : Q (.bl (!eqS d z)) H) : rNeW K x (.str z) H Q := ⟨.inr (.inl ⟨d, z, h, rfl, q⟩)⟩
theorem wn_nil {a b : Addr} {xs : List V} (h1 : SqL K H a xs) (h2 : SqL K H b []) (q : Q (.bl (!decide (xs = []))) H) : rNeW K (.ref a) (.ref b) H Q := ⟨.inr (.inr ⟨a, b, xs, rfl, rfl, h1, h2, q⟩)⟩
theorem we_flat {x y : V} (h : scal x y = true) (q : Q (.bl (decide (x = y))) H) : rEqW K x y H Q := ⟨.inl (e_flat h q)⟩
theorem we_data {x y : V} {d e : PyData} (h1 : Dp K H x d) (h2 : Dp K H y e) (h3 : SeqAt.shaped d = true) (h4 : SeqAt.shaped e = true) (q : Q (.bl (PyData.eqv d e)) H) : rEqW K x y H Q := ⟨.inl (e_data h1 h2 h3 h4 q)⟩
theorem wn_data {x y : V} {d e : PyData} (h1 : Dp K H x d) (h2 : Dp K H y e) (h3 : SeqAt.shaped d = true) (h4 : SeqAt.shaped e = true) (q : Q (.bl (!PyData.eqv d e)) H) : rNeW K x y H Q := ⟨.inl (n_data h1 h2 h3 h4 q)⟩
theorem we_nil {a b : Addr} {xs : List V} (h1 : SqL K H a xs) (h2 : SqL K H b []) (q : Q (.bl (decide (xs = []))) H) : rEqW K (.ref a) (.ref b) H Q := ⟨.inr (.inl ⟨a, b, xs, rfl, rfl, h1, h2, q⟩)⟩
theorem we_bi {b : Bool} {i : Int} (q : Q (.bl ((if b then 1 else 0) == i)) H) : rEqW K (.bl b) (.int i) H Q := ⟨.inr (.inr ⟨b, i, rfl, rfl, q⟩)⟩
end
end Vf
namespace Vf
open PySem PySem.Spec PyProof.Rows L2 GxR GenW RZ
def gs2B (scope : Scope) (xa xb : Str) : Bool := (match scope.kind with | .function => true | _ => false) && !scope.isCoroutine && scope.names.all (fun y => decide (y.2 ≠ .cell) && decide (y.2 ≠ .free)) && decide (scope.names.lookup (".0" : Str) = some NameKind.local) &&
  decide (scope.names.lookup xa = some .local) && decide (scope.names.lookup xb = some .local) && decide (xa ≠ xb)
theorem gs2_by {env : Env} {scope : Scope} {xa xb : Str} (h : gs2B scope xa xb = true) : GenS2 env scope xa xb := by
  unfold gs2B at h
  simp only [Bool.and_eq_true, List.all_eq_true, decide_eq_true_eq, Bool.not_eq_true'] at h
  obtain ⟨⟨⟨⟨⟨⟨h1, h2⟩, h3⟩, h4⟩, h5⟩, h6⟩, h7⟩ := h
  refine ⟨?_, h2, fun y hy => (h3 y hy).1, h4, h5, h6, h7, fun y hy e => absurd e (h3 y hy).2⟩
  split at h1
  · assumption
  · cases h1
end Vf
end
section
set_option Elab.async false
set_option linter.all false
set_option maxRecDepth 100000
set_option maxHeartbeats 4000000
namespace Vf
open PySem PySem.Spec PyProof.Rows L2 GxR GenW RZ
def strV : List Str → List V := List.map V.str
/-- more of the module's names -/
abbrev tb (K : PySem.W.Frag) (x : Str) : Addr := He.tabOf K (He.codeOf K (x, none))
abbrev TBx (K : PySem.W.Frag) (mg : Str → Option Value) (base : Heap) (x : Str) : Prop := TabB base mg (He.codeOf K (x, none)) (tb K x)

/-! ### what they say -/
theorem str_at {ts : List Str} {i : Nat} {x : V} (hx : (strV ts)[i]? = some x) : ∃ t, ts[i]? = some t ∧ x = .str t := by
  unfold strV at hx
  rw [List.getElem?_map] at hx
  cases e : ts[i]? with
  | none => rw [e] at hx; cases hx
  | some t => rw [e] at hx; exact ⟨t, rfl, (Option.some.inj hx).symm⟩
theorem isStr_iff {d : PyData} : isaD "str" d = true ↔ ∃ x, d = .str x := by
  cases d <;> simp [isaD]
theorem ddA_len {K : PySem.W.Frag} {H : Hp} : ∀ {xs : List V} {ds : List PyData}, DdAll K H xs ds → xs.length = ds.length
  | _, [], h => by cases h; rfl
  | _, d :: ds, h => by
    cases h with
    | cons _ h2 => rw [List.length_cons, List.length_cons, ddA_len h2]
theorem ddA_at {K : PySem.W.Frag} {H : Hp} : ∀ {xs : List V} {ds : List PyData} {i : Nat} {x : V}, DdAll K H xs ds → xs[i]? = some x → ∃ d, ds[i]? = some d ∧ Dd K H x d
  | _, [], i, x, h, e => by cases h; simp at e
  | _, d :: ds, 0, x, h, e => by
    cases h with
    | cons h1 h2 => simp at e; subst e; exact ⟨d, rfl, h1⟩
  | _, d :: ds, i + 1, x, h, e => by
    cases h with
    | cons h1 h2 =>
      obtain ⟨d', e', q⟩ := ddA_at (i := i) h2 (by simpa using e)
      exact ⟨d', by simpa using e', q⟩
def strsOf : List PyData → Option (List Str)
  | [] => some []
  | .str x :: r => (strsOf r).map (x :: ·)
  | _ => none
theorem strsOf_len : ∀ {ds : List PyData} {ts : List Str}, strsOf ds = some ts → ts.length = ds.length
  | [], _, h => by cases h; rfl
  | .str x :: r, ts, h => by
    have h : (strsOf r).map (x :: ·) = some ts := h
    cases q : strsOf r with
    | none => rw [q] at h; cases h
    | some us =>
      rw [q] at h
      cases h
      rw [List.length_cons, List.length_cons, strsOf_len q]
  | .none :: _, _, h => by cases h
  | .bool _ :: _, _, h => by cases h
  | .int _ :: _, _, h => by cases h
  | .list _ :: _, _, h => by cases h
  | .tuple _ :: _, _, h => by cases h
  | .dict _ :: _, _, h => by cases h
theorem strsOf_mem : ∀ {ds : List PyData} {ts : List Str}, strsOf ds = some ts → ∀ t ∈ ts, PyData.str t ∈ ds
  | [], _, h, t, ht => by cases h; cases ht
  | .str x :: r, ts, h, t, ht => by
    have h : (strsOf r).map (x :: ·) = some ts := h
    cases q : strsOf r with
    | none => rw [q] at h; cases h
    | some us =>
      rw [q] at h
      cases h
      rcases List.mem_cons.mp ht with rfl | ht
      · exact List.mem_cons_self
      · exact List.mem_cons_of_mem _ (strsOf_mem q t ht)
  | .none :: _, _, h, _, _ => by cases h
  | .bool _ :: _, _, h, _, _ => by cases h
  | .int _ :: _, _, h, _, _ => by cases h
  | .list _ :: _, _, h, _, _ => by cases h
  | .tuple _ :: _, _, h, _, _ => by cases h
  | .dict _ :: _, _, h, _, _ => by cases h
theorem strs_all {K : PySem.W.Frag} {H : Hp} : ∀ {xs : List V} {ds : List PyData}, DdAll K H xs ds → (∀ d ∈ ds, isaD "str" d = true) → ∃ ts, xs = strV ts ∧ strsOf ds = some ts
  | _, [], h, _ => by cases h; exact ⟨[], rfl, rfl⟩
  | _, d :: ds, h, k => by
    cases h with
    | cons h1 h2 =>
      obtain ⟨ts, e1, e2⟩ := strs_all h2 fun z hz => k z (List.mem_cons_of_mem _ hz)
      obtain ⟨x, rfl⟩ := isStr_iff.mp (k d List.mem_cons_self)
      cases h1
      refine ⟨x :: ts, by rw [e1]; rfl, ?_⟩
      show (strsOf ds).map (x :: ·) = _
      rw [e2]; rfl
theorem strs_none : ∀ {ds : List PyData}, (∃ d ∈ ds, isaD "str" d = false) → strsOf ds = none
  | [], ⟨d, h, _⟩ => by simp at h
  | d :: ds, ⟨z, hz, e⟩ => by
    rcases List.mem_cons.mp hz with rfl | hz
    · cases z <;> first | rfl | simp [isaD] at e
    · have ih := strs_none ⟨z, hz, e⟩
      cases d <;> first | rfl | (show (strsOf ds).map _ = none; rw [ih]; rfl)
theorem k_bm {X : Cx} {K : PySem.W.Frag} {T name id : String} {r : V → List V → Hp → VK → Prop} {o e : Expr} {es : List Expr} {to : TE} {t : TA} {apos cpos : Pos} (hK : X.K = K) (pa : PlainAttrs T) (slot : Slot T name id) (hty : typeOf (.builtin id) = pure (.type "method_descriptor")) (hm : MtR X id r) (ho : PE X o to) (ha : PA X (e :: es) t)
    (hbase : attributeBase o name X.env (eval o X.env) = eval o X.env := by rfl)
    (hfew : ((backTo cpos (starEach (e :: es) X.env)).all (fun x => !x.1) && (backToKw cpos (keywordEach [] X.env)).all (fun x => x.1.isSome)
      && decide ((e :: es).length + ([] : List Keyword).length + (if ([] : List Keyword).isEmpty then 0 else 1) < 30)) = true := by rfl)
    (hline : (apos.endLine == cpos.line) = true := by rfl) (hs : starEach (e :: es) X.env = (false, eval e X.env) :: starEach es X.env := by rfl) (hplain : (backTo cpos (starEach es X.env)).any (·.1) = false := by rfl) :
    PE X (.Call (.Attribute o name apos) (e :: es) [] cpos) (tBM K T r to t) := by
  subst hK
  exact pe_bm pa slot hty hm ho ha hbase hfew hline hs hplain
@[elab_as_elim] theorem newH {C : Hp → Prop} {H : Hp} {p : Addr} {o : HO} (h : H p = none) (k : ∀ H1, Gr H H1 → H1 p = some o → C H1) : C (upd H p o) := k _ (Gr.new h) upd_same
theorem Gr.lst {H H' : Hp} (g : Gr H H') {p : Addr} {xs : List V} (h : H p = some (.lst xs)) : H' p = some (.lst xs) := g.keep h (fun _ z => by cases z)
theorem Gr.tup {H H' : Hp} (g : Gr H H') {p : Addr} {xs : List V} (h : H p = some (.tup xs)) : H' p = some (.tup xs) := g.keep h (fun _ z => by cases z)
theorem m_ll {K : PySem.W.Frag} {H : Hp} {Q : VK} {l : Addr} {k : Int} {xs : List V} (h1 : H l = some (.lst xs)) (h2 : -(2 ^ 63) ≤ k) (h3 : k < 2 ^ 63) (h4 : xs.length * k.toNat ≤ sizeLine) (q : ∀ p, H p = none → Q (.ref p) (upd H p (.lst (List.replicate k.toNat xs).flatten))) : rMu K (.ref l) (.int k) H Q := ⟨.inr (.inr (.inl ⟨_, _, _, rfl, rfl, h1, h2, h3, h4, q⟩))⟩
theorem dp_strs {K : PySem.W.Frag} {H : Hp} : ∀ ts : List Str, DpAll K H (strV ts) (ts.map PyData.str)
  | [] => .nil
  | z :: zs => .cons (.str z) (dp_strs zs)
theorem lay_strs : ∀ ts : List Str, (∀ t ∈ ts, PyData.canLay0 (.str t) = true) → PyData.canLayAll0 (ts.map PyData.str) = true
  | [], _ => rfl
  | z :: zs, h => by
    show (PyData.canLay0 (.str z) && PyData.canLayAll0 (zs.map PyData.str)) = true
    rw [lay_strs zs fun t ht => h t (List.mem_cons_of_mem _ ht), h z List.mem_cons_self]; rfl
theorem dep_strs : ∀ ts : List Str, PyData.depthAll (ts.map PyData.str) ≤ 1
  | [] => Nat.zero_le _
  | z :: zs => by
    have := dep_strs zs
    simp only [List.map_cons, PyData.depthAll, PyData.depth]
    omega
theorem shp_strsT {ts : List Str} (h : ∀ t ∈ ts, PyData.canLay0 (.str t) = true) : SeqAt.shaped (.tuple (ts.map PyData.str)) = true := by
  unfold SeqAt.shaped
  have h1 : PyData.canLay0 (.tuple (ts.map PyData.str)) = true := lay_strs ts h
  have h2 := dep_strs ts
  have h3 : PyData.depth (.tuple (ts.map PyData.str)) ≤ 64 := by simp only [PyData.depth]; omega
  rw [h1, decide_eq_true h3]; rfl
theorem k_truth {X : Cx} {K : PySem.W.Frag} {a : Expr} {ta : TE} (hK : X.K = K) (ha : PE X a ta) (he : ∀ whole, isTrue a X.env whole = (do let v ← whole; standAt a.pos; holding [v] (truthy v))) :
    PT X a (fun σ H Q => ta σ H fun x H' => ∃ k, TruV K x H' k ∧ Q k H') := by
  subst hK
  exact pt_truth ha he
theorem Urn.ne {c u : Addr} {H : Hp} (h : Urn c H u) : c ≠ u := by
  obtain ⟨ns, p, a, r, h1, h2⟩ := h
  exact urn_ne h1 h2
theorem Urn.gr {c u : Addr} {H H' : Hp} (h : Urn c H u) (g : Gr H H') : Urn c H' u := by
  obtain ⟨ns, p, a, r, h1, h2⟩ := h
  exact ⟨ns, p, a, r, g.keep h1 (fun _ z => by cases z), g.keep h2 (fun _ z => by cases z)⟩
theorem Urn.updD {c u D : Addr} {H : Hp} {o : HO} (h : Urn c H u) (n1 : D ≠ u) (n2 : D ≠ c) : Urn c (upd H D o) u := by
  obtain ⟨ns, p, a, r, h1, h2⟩ := h
  exact ⟨ns, p, a, r, by rw [upd_ne (Ne.symm n1)]; exact h1, by rw [upd_ne (Ne.symm n2)]; exact h2⟩
theorem Urn.ou {c u D : Addr} {H : Hp} (h : Urn c H u) (n : H D = none) : D ≠ u := by
  obtain ⟨ns, p, a, r, h1, h2⟩ := h
  exact Ne.symm (ne_of_none h1 n)
theorem Urn.oc {c u D : Addr} {H : Hp} (h : Urn c H u) (n : H D = none) : D ≠ c := by
  obtain ⟨ns, p, a, r, h1, h2⟩ := h
  exact Ne.symm (ne_of_none h2 n)
theorem gruD {u D : Addr} {H H' : Hp} {o : HO} (g : GrU u H H') (h : H D = none) : GrU u H (upd H' D o) := fun b w hb e => by
  rw [upd_ne (ne_of_none e h)]
  exact g b w hb e
theorem GrU.free {u b : Addr} {H H' : Hp} (g : GrU u H H') (hb : b ≠ u) (h : H' b = none) : H b = none := by
  cases q : H b with
  | none => rfl
  | some o =>
    rcases g b o hb q with h1 | ⟨_, _, _, h1, _⟩
    · rw [h] at h1; cases h1
    · rw [h] at h1; cases h1
theorem GrU.seqT {K : PySem.W.Frag} {u c a : Addr} {H H' : Hp} {xs : List V} (g : GrU u H H') (hu : Urn c H u) (h : SqT K H a xs) : SqT K H' a xs := by
  rcases h with (h | ⟨o, h⟩) | h
  · exact .inl (.inl (g.notu hu h (fun _ z => by cases z) (fun _ z => by cases z)))
  · exact .inl (.inr ⟨o, g.notu hu h (fun _ z => by cases z) (fun _ z => by cases z)⟩)
  · exact .inr h
def sS (x : Str) : List Str := x.cps.toList.map fun c => ⟨#[c]⟩
theorem sgn_strV (x : Str) : sgn x = strV (sS x) := by unfold strV sS; rw [List.map_map]; rfl
theorem bt {b : Bool} (h : ¬ (!b) = true) : b = true := by cases b <;> simp at h ⊢
theorem inV_str {x : Str} {l : List Str} : inV (.str x) (strV l) = true ↔ x ∈ l := by
  unfold inV strV
  rw [List.any_map, List.any_eq_true]
  constructor
  · rintro ⟨y, hy, e⟩
    have e : (y == x) = true := e
    have e := eq_of_beq e
    exact e ▸ hy
  · intro h
    exact ⟨x, h, show (x == x) = true from beq_self_eq_true x⟩
theorem strsOf_in : ∀ {ds : List PyData} {ts : List Str}, strsOf ds = some ts → ∀ t, PyData.str t ∈ ds → t ∈ ts
  | .str x :: r, ts, h, t, ht => by
    have h : (strsOf r).map (x :: ·) = some ts := h
    cases q : strsOf r with
    | none => rw [q] at h; cases h
    | some us =>
      rw [q] at h
      cases h
      rcases List.mem_cons.mp ht with e | ht
      · cases e; exact List.mem_cons_self
      · exact List.mem_cons_of_mem _ (strsOf_in q t ht)
  | .none :: _, _, h, _, _ => by cases h
  | .bool _ :: _, _, h, _, _ => by cases h
  | .int _ :: _, _, h, _, _ => by cases h
  | .list _ :: _, _, h, _, _ => by cases h
  | .tuple _ :: _, _, h, _, _ => by cases h
  | .dict _ :: _, _, h, _, _ => by cases h
theorem ddA_snoc {K : PySem.W.Frag} {H : Hp} : ∀ {ys : List V} {es : List PyData} {x : V} {d : PyData}, DdAll K H ys es → Dd K H x d → DdAll K H (ys ++ [x]) (es ++ [d])
  | _, [], _, _, h, k => by cases h; exact .cons k .nil
  | _, _ :: _, _, _, h, k => by
    cases h with
    | cons a b => exact .cons a (ddA_snoc b k)
theorem len0 {x : Str} : x.length = 0 ↔ x = "" := by
  constructor
  · intro h
    obtain ⟨⟨l⟩⟩ := x
    have h : l.length = 0 := h
    cases l with
    | nil => rfl
    | cons a b => cases h
  · rintro rfl
    rfl
theorem canLayAll_mem : ∀ {ds : List PyData}, PyData.canLayAll0 ds = true → ∀ d ∈ ds, PyData.canLay0 d = true
  | d :: ds, h, e, he => by
    have h : (PyData.canLay0 d && PyData.canLayAll0 ds) = true := h
    rw [Bool.and_eq_true] at h
    rcases List.mem_cons.mp he with rfl | he
    · exact h.1
    · exact canLayAll_mem h.2 e he
theorem canLayAll_of : ∀ {ds : List PyData}, (∀ d ∈ ds, PyData.canLay0 d = true) → PyData.canLayAll0 ds = true
  | [], _ => rfl
  | d :: ds, h => by
    show (PyData.canLay0 d && PyData.canLayAll0 ds) = true
    rw [h d List.mem_cons_self, canLayAll_of fun e he => h e (List.mem_cons_of_mem _ he)]; rfl
theorem depAll_mem : ∀ {ds : List PyData} {k : Nat}, PyData.depthAll ds ≤ k → ∀ d ∈ ds, d.depth ≤ k
  | d :: ds, k, h, e, he => by
    have h : max (PyData.depth d) (PyData.depthAll ds) ≤ k := h
    rcases List.mem_cons.mp he with rfl | he
    · omega
    · exact depAll_mem (by omega) e he
theorem depAll_of : ∀ {ds : List PyData} {k : Nat}, (∀ d ∈ ds, d.depth ≤ k) → PyData.depthAll ds ≤ k
  | [], k, _ => Nat.zero_le _
  | d :: ds, k, h => by
    show max (PyData.depth d) (PyData.depthAll ds) ≤ k
    have h1 := h d List.mem_cons_self
    have h2 := depAll_of fun e he => h e (List.mem_cons_of_mem _ he)
    omega
mutual
theorem dp_dd {K : PySem.W.Frag} {H : Hp} : ∀ (d : PyData) (v : V), Dd K H v d → PyData.canLay0 d = true → Dp K H v d
  | .none, _, h, _ => by cases h; exact .non
  | .bool _, _, h, _ => by cases h; exact .bl _
  | .int _, _, h, _ => by cases h; exact .int _
  | .str _, _, h, _ => by cases h; exact .str _
  | .list ds, _, h, c => by
    cases h with
    | lst a b => exact .lst a (dp_ddA ds _ b c)
  | .tuple ds, _, h, c => by
    cases h with
    | tup a b => exact .tup a (dp_ddA ds _ b c)
  | .dict _, _, h, c => by cases c
theorem dp_ddA {K : PySem.W.Frag} {H : Hp} : ∀ (ds : List PyData) (vs : List V), DdAll K H vs ds → PyData.canLayAll0 ds = true → DpAll K H vs ds
  | [], _, h, _ => by cases h; exact .nil
  | d :: ds, _, h, c => by
    have c : (PyData.canLay0 d && PyData.canLayAll0 ds) = true := c
    rw [Bool.and_eq_true] at c
    cases h with
    | cons a b => exact .cons (dp_dd d _ a c.1) (dp_ddA ds _ b c.2)
end
theorem shp_list {ds : List PyData} (h1 : PyData.canLayAll0 ds = true) (h2 : PyData.depthAll ds ≤ 60) : SeqAt.shaped (.list ds) = true := by
  unfold SeqAt.shaped
  have h3 : PyData.depth (.list ds) ≤ 64 := by simp only [PyData.depth]; omega
  have h1 : PyData.canLay0 (.list ds) = true := h1
  rw [h1, decide_eq_true h3]; rfl
theorem eqv_nil (ds : List PyData) : PyData.eqv (.list ds) (.list []) = ds.isEmpty := by
  cases ds <;> simp [PyData.eqv, PyData.eqvAll]
theorem showAll_of : ∀ {ds : List PyData}, (∀ d ∈ ds, d.showable = true) → PyData.showableAll ds = true
  | [], _ => rfl
  | d :: ds, h => by
    show (PyData.showable d && PyData.showableAll ds) = true
    rw [h d List.mem_cons_self, showAll_of fun e he => h e (List.mem_cons_of_mem _ he)]; rfl
theorem shownAll_sum {k : Nat} : ∀ {ds : List PyData}, (∀ d ∈ ds, d.shown.length ≤ k) → ((PyData.shownAll ds).map fun x => x.length).sum ≤ ds.length * k ∧ (PyData.shownAll ds).length = ds.length
  | [], _ => ⟨Nat.zero_le _, rfl⟩
  | d :: ds, h => by
    obtain ⟨h1, h2⟩ := shownAll_sum fun e he => h e (List.mem_cons_of_mem _ he)
    have h3 := h d List.mem_cons_self
    refine ⟨?_, by show (PyData.shownAll ds).length + 1 = _; rw [h2]; rfl⟩
    show d.shown.length + ((PyData.shownAll ds).map fun x => x.length).sum ≤ (ds.length + 1) * k
    rw [Nat.add_mul]
    omega
def Wo (S : List Addr) (H : Hp) : Hp := fun b => if b ∈ S then none else H b
theorem wo_gr (S : List Addr) (H : Hp) : Gr (Wo S H) H := fun b o e => by
  unfold Wo at e
  split at e
  · cases e
  · exact .inl e
theorem wo_some {S : List Addr} {H : Hp} {b : Addr} {o : HO} (h : b ∉ S) (e : H b = some o) : Wo S H b = some o := by
  unfold Wo
  rw [if_neg h]
  exact e
theorem Gr.wo {H H' : Hp} (g : Gr H H') (S : List Addr) : Gr (Wo S H) (Wo S H') := fun b o e => by
  unfold Wo at e ⊢
  split at e
  · cases e
  · rename_i h
    rw [if_neg h]
    exact g b o e
theorem GrU.wo {u : Addr} {H H' : Hp} (g : GrU u H H') {S : List Addr} (hu : u ∈ S) : Gr (Wo S H) (Wo S H') := fun b o e => by
  unfold Wo at e ⊢
  split at e
  · cases e
  · rename_i h
    rw [if_neg h]
    exact g b o (fun z => h (z ▸ hu)) e
theorem wo_upd {S : List Addr} {H : Hp} {D : Addr} {o : HO} (h : D ∈ S) : Wo S (upd H D o) = Wo S H := by
  funext b
  unfold Wo
  split
  · rfl
  · rename_i hb
    exact upd_ne fun z => hb (z ▸ h)
theorem wo_more {u D : Addr} {H : Hp} {o : HO} (h : H D = none) : Gr (Wo [u] H) (Wo [u, D] (upd H D o)) := fun b w e => by
  unfold Wo at e ⊢
  split at e
  · cases e
  · rename_i hb
    have n : b ≠ D := ne_of_none e h
    rw [if_neg (by
      intro z
      rcases List.mem_cons.mp z with z | z
      · exact hb (by rw [z]; exact List.mem_cons_self)
      · exact n (List.mem_singleton.mp z)), upd_ne n]
    exact .inl e
theorem a_ttW {K : PySem.W.Frag} {S : List Addr} {H : Hp} {Q : VK} {a b : Addr} {xs ys : List V} (h1 : SqT K (Wo S H) a xs) (h2 : SqT K (Wo S H) b ys) (h : xs.length + ys.length ≤ sizeLine) (hs : ∀ p, H p = none → p ∉ S)
    (q : ∀ p H', Gr H H' → SqT K (Wo S H') p (xs ++ ys) → Q (.ref p) H') : rAdd K (.ref a) (.ref b) H Q := by
  refine a_tt ((wo_gr S H).seqT h1) ((wo_gr S H).seqT h2) h (fun z => ?_) (fun _ z => ?_) (fun _ _ p hp => ?_)
  · subst z
    exact q b H (Gr.refl H) h2
  · subst z
    rw [List.append_nil] at q
    exact q a H (Gr.refl H) h1
  · exact newH hp fun H1 g1 s1 => q p H1 g1 (SqT.of (wo_some (hs p hp) s1))
theorem dd_strs {K : PySem.W.Frag} {H : Hp} : ∀ ts : List Str, DdAll K H (strV ts) (ts.map PyData.str)
  | [] => .nil
  | z :: zs => .cons (.str z) (dd_strs zs)
theorem ddA_app {K : PySem.W.Frag} {H : Hp} : ∀ {xs ys : List V} {ds es : List PyData}, DdAll K H xs ds → DdAll K H ys es → DdAll K H (xs ++ ys) (ds ++ es)
  | _, _, [], _, h, k => by cases h; exact k
  | _, _, _ :: _, _, h, k => by
    cases h with
    | cons a b => exact .cons a (ddA_app b k)
theorem nin2 {p u D : Addr} (h : p ∉ [u]) (n : p ≠ D) : p ∉ [u, D] := fun z => by
  rcases List.mem_cons.mp z with z | z
  · exact h (by rw [z]; exact List.mem_cons_self)
  · exact n (List.mem_singleton.mp z)
theorem wo_sub {S S' : List Addr} (h : ∀ b, b ∈ S' → b ∈ S) (H : Hp) : Gr (Wo S H) (Wo S' H) := fun b o e => by
  unfold Wo at e ⊢
  split at e
  · cases e
  · rename_i hb
    rw [if_neg fun z => hb (h b z)]
    exact .inl e
theorem GrU.tabG {u c P : Addr} {H H' : Hp} (g : GrU u H H') (hu : Urn c H u) (h : TabG H P) : TabG H' P := by
  obtain ⟨ps, h1, t1⟩ := h
  have n : P ≠ u := by
    rintro rfl
    obtain ⟨_, _, _, _, h2, _⟩ := hu
    rw [h1] at h2
    cases h2
  rcases g P _ n h1 with q | ⟨qs, more, e, q, t⟩
  · exact ⟨ps, q, t1⟩
  · cases e
    exact ⟨_, q, t t1⟩
theorem tabG_upd {H : Hp} {P D : Addr} {xs : List V} {o : HO} (h : TabG H P) (hD : H D = some (.lst xs)) : TabG (upd H D o) P := by
  obtain ⟨ps, h1, t1⟩ := h
  have n : P ≠ D := by
    rintro rfl
    rw [h1] at hD
    cases hD
  exact ⟨ps, by rw [upd_ne n]; exact h1, t1⟩
theorem ddA_mem {K : PySem.W.Frag} {H : Hp} {xs : List V} {ds : List PyData} {x : V} (h : DdAll K H xs ds) (hx : x ∈ xs) : ∃ d ∈ ds, Dd K H x d := by
  obtain ⟨i, hi⟩ := List.getElem?_of_mem hx
  obtain ⟨d, e, q⟩ := ddA_at h hi
  exact ⟨d, List.mem_of_getElem? e, q⟩
theorem cut_strs (fm : List Str) (lo hi : Option Int) : ∃ ts, cutV (strV fm) lo hi = strV ts ∧ (∀ t ∈ ts, t ∈ fm) ∧ ts.length ≤ fm.length := by
  unfold cutV strV
  rw [← List.map_drop, ← List.map_take]
  refine ⟨_, rfl, fun t ht => List.mem_of_mem_drop (List.mem_of_mem_take ht), ?_⟩
  rw [List.length_take, List.length_drop]
  omega
theorem sl_tW {K : PySem.W.Frag} {S : List Addr} {H : Hp} {Q : VK} {a : Addr} {fm : List Str} {lo hi : Option Int} (h1 : SqT K (Wo S H) a (strV fm)) (hs : ∀ p, H p = none → p ∉ S)
    (q : ∀ p H' ts, Gr H H' → SqT K (Wo S H') p (strV ts) → (∀ t ∈ ts, t ∈ fm) → ts.length ≤ fm.length → Q (.ref p) H') : rSlU K (.ref a) lo hi H Q := by
  refine sl_t ((wo_gr S H).seqT h1) (fun _ => q a H fm (Gr.refl H) h1 (fun _ z => z) (Nat.le_refl _)) (fun _ p hp => ?_)
  obtain ⟨ts, e, m, l⟩ := cut_strs fm lo hi
  rw [e]
  exact newH hp fun H1 g1 s1 => q p H1 ts g1 (SqT.of (wo_some (hs p hp) s1)) m l
end Vf
end
section
set_option Elab.async false
set_option linter.all false
set_option maxRecDepth 100000
set_option maxHeartbeats 4000000
/-! tuple * 0, tuple * 1, text * int. -/
namespace L2
open PySem PySem.Spec PyProof.Rows
theorem vf_tuple_mul1 (l : Addr) (items : Array Value) (n : Nat) (dd : Option Addr) (sl : Array (Option Value)) (x : Int) (u : Tok) (hx : x = 1) :
    Meets (Builtin.«tuple.__mul__» ⟨[.ref l, .int x u], []⟩) (fun _ R s => s.heap.get? l = some { cls := .type "tuple", dict := dd, data := .seq items n, slots := sl } ∧ R (.ok (.ret (Value.ref l))) s) :=
  .of_wp fun prog w A R s h => by
    subst hx
    obtain ⟨hp, g, d, tk, os⟩ := s
    obtain ⟨hl, h⟩ := h
    have f1 := AutoSeq1.idx_int
    wp_walk using wpAny_loadPart' hl
    exact ⟨_, rfl, h⟩
theorem vf_tuple_mul0 (l : Addr) (items : Array Value) (n : Nat) (dd : Option Addr) (sl : Array (Option Value)) (x : Int) (u : Tok) (hx : x = 0) (he : items.isEmpty = false) :
    Meets (Builtin.«tuple.__mul__» ⟨[.ref l, .int x u], []⟩) (fun _ R s => s.heap.get? l = some { cls := .type "tuple", dict := dd, data := .seq items n, slots := sl } ∧
      R (.ok (.ret (Value.ref s.heap.objs.size))) { s with heap := s.heap.push { cls := Value.type "tuple", data := Data.seq #[] }, toks := s.toks }) :=
  .of_wp fun prog w A R s h => by
    subst hx
    obtain ⟨hp, g, d, tk, os⟩ := s
    obtain ⟨hl, h⟩ := h
    have f1 := AutoSeq1.idx_int
    wp_walk using wpAny_loadPart' hl
    repeat (first
      | (refine wpAny_ite_false (decide_eq_false (by rw [he]; decide)) ?_; wp_walk using wpAny_loadPart' hl)
      | (refine wpAny_ite_true (decide_eq_true (by rw [he]; decide)) ?_; wp_walk using wpAny_loadPart' hl))
    exact ⟨_, rfl, h⟩
end L2
namespace L2
open PySem PySem.Spec PyProof.Rows
section
variable {X : Cx}
def rRepT1 (K : PySem.W.Frag) : R2 := fun x y H Q => ∃ l xs, x = .ref l ∧ y = .int 1 ∧ SqT K H l xs ∧ Q (.ref l) H
theorem op_repT1 : OpR X (binaryOp .Mult) (rRepT1 X.K) := by
  intro pins s σ H x y v u Q I rx ry h
  obtain ⟨l, xs, rfl, rfl, hT, q⟩ := h
  cases rx
  obtain ⟨t, rfl⟩ := ry
  obtain ⟨its, r, ⟨⟨cls, dd, data, sl⟩, ho, hc, n, hd⟩, hs⟩ := I.tuple hT
  simp only at hc hd
  subst hc hd
  exact wpAny_binaryOp_repeat_ref (T := "tuple") (U := "int") (by decide) ⟨_, ho, rfl⟩ (fun s' => typeIs_int s' 1 t) noFill_tuple_mul F.fills_int_mul F.slot_int_rmul repeat_tuple F.slot_int_index.lookup
    (call_meets F.slot_int_rmul (typeIs_int s 1 t) F.entry_int_rmul (F.args_int_rmul_2 _ _) (int_rmul_tuple 1 t l its.toArray n dd sl)
      ⟨ho, rfl, ⟨_, ho, rfl⟩, call_meets F.slot_tuple_mul ⟨_, ho, rfl⟩ F.entry_tuple_mul (F.args_tuple_mul_2 _ _) (vf_tuple_mul1 l its.toArray n dd sl 1 t rfl) ⟨ho, .ref _, H, I, rfl, q⟩⟩)
def rRepT0 (K : PySem.W.Frag) : R2 := fun x y H Q => ∃ l xs, x = .ref l ∧ y = .int 0 ∧ SqT K H l xs ∧ xs ≠ [] ∧ ∀ p, H p = none → Q (.ref p) (upd H p (.tup []))
theorem op_repT0 : OpR X (binaryOp .Mult) (rRepT0 X.K) := by
  intro pins s σ H x y v u Q I rx ry h
  obtain ⟨l, xs, rfl, rfl, hT, hne, q⟩ := h
  cases rx
  obtain ⟨t, rfl⟩ := ry
  obtain ⟨its, r, ⟨⟨cls, dd, data, sl⟩, ho, hc, n, hd⟩, hs⟩ := I.tuple hT
  simp only at hc hd
  subst hc hd
  have hle : its.length = xs.length := r.length.symm
  have hi : its.toArray.isEmpty = false := by
    cases its with
    | nil => exact absurd (List.eq_nil_of_length_eq_zero hle.symm) hne
    | cons a b => rfl
  refine wpAny_binaryOp_repeat_ref (T := "tuple") (U := "int") (by decide) ⟨_, ho, rfl⟩ (fun s' => typeIs_int s' 0 t) noFill_tuple_mul F.fills_int_mul F.slot_int_rmul repeat_tuple F.slot_int_index.lookup
    (call_meets F.slot_int_rmul (typeIs_int s 0 t) F.entry_int_rmul (F.args_int_rmul_2 _ _) (int_rmul_tuple 0 t l its.toArray n dd sl)
      ⟨ho, rfl, ⟨_, ho, rfl⟩, call_meets F.slot_tuple_mul ⟨_, ho, rfl⟩ F.entry_tuple_mul (F.args_tuple_mul_2 _ _) (vf_tuple_mul0 l its.toArray n dd sl 0 t rfl hi) ⟨ho, ?_⟩⟩)
  refine ⟨.ref s.heap.objs.size, _, I.laid (t' := s.toks) (o := .tup []) (fun b ob q => Heap.get?_push_of_some _ q) (Nat.le_refl _) ?_, rfl, q _ (I.hok.fresh (Nat.le_refl _))⟩
  exact ⟨Nat.zero_le _, [], .nil, IsTup.new _ _⟩
/-- a text times an int of at least two -/
def rMulS : R2 := fun x y H Q => ∃ (z : Str) (k : Int), x = .str z ∧ y = .int k ∧ 2 ≤ k ∧ k ≤ 1000 ∧ 0 < z.length ∧ z.length ≤ 1000 ∧ Q (.str ⟨(List.replicate k.toNat z.cps).foldl (· ++ ·) #[]⟩) H
theorem op_mulS : OpR X (binaryOp .Mult) rMulS := by
  intro pins s σ H x y v u Q I rx ry h
  obtain ⟨z, k, rfl, rfl, h1, h2, h3, h4, q⟩ := h
  obtain ⟨t, rfl⟩ := rx
  obtain ⟨t', rfl⟩ := ry
  have lz : z.length * k.toNat ≤ 1000000 := Nat.le_trans (Nat.mul_le_mul h4 (show k.toNat ≤ 1000 by omega)) (by decide)
  have c1 : (k == 1 || z.length == 0) = false := by
    rw [beq_eq_false_iff_ne.mpr (show k ≠ 1 by omega), beq_eq_false_iff_ne.mpr (show z.length ≠ 0 by omega)]
    rfl
  refine PySem.P.mul_str ?_ (fun _ _ => ?_) (fun _ _ => ?_) ?_
  · rw [decide_eq_false (by omega), decide_eq_false (by omega)]
    rfl
  · have a1 : (1000 : Int) ≤ (2 ^ 63 - 1) / k := by
      refine Int.le_ediv_of_mul_le (by omega) ?_
      omega
    omega
  · show decide (_ > sizeLine) = false
    rw [sizeLine_eq]
    exact decide_eq_false (by omega)
  · rw [if_neg (by omega), c1]
    refine ⟨?_, .str _, H, I.tok _, ⟨_, rfl⟩, q⟩
    have fl : ∀ (m : Nat) (a : Array Nat), (List.foldl (fun x1 x2 => x1 ++ x2) a (List.replicate m z.cps)).size = a.size + m * z.cps.size := fun m => by
      induction m with
      | zero => intro a; simp
      | succ m ih => intro a; rw [List.replicate_succ, List.foldl_cons, ih, Array.size_append, Nat.succ_mul]; omega
    show (List.foldl (fun x1 x2 => x1 ++ x2) #[] (List.replicate k.toNat z.cps)).size ≤ sizeLine
    rw [fl, sizeLine_eq, Nat.mul_comm]
    show 0 + z.length * k.toNat ≤ _
    omega
end
end L2
namespace Vf
open PySem PySem.Spec PyProof.Rows L2 GxR GenW RZ
section
variable {X : Cx}
structure rMuW (K : PySem.W.Frag) (x y : V) (H : Hp) (Q : VK) : Prop where
  h : rMu K x y H Q ∨ rRepT1 K x y H Q ∨ rRepT0 K x y H Q ∨ rMulS x y H Q
theorem u_mulW {K : PySem.W.Frag} (hK : X.K = K) : OpR X (binaryOp .Mult) (rMuW K) := by
  subst hK
  exact fun pins s σ H x y v u Q I rx ry h => (OpR.or (u_mul rfl) (OpR.or op_repT1 (OpR.or op_repT0 op_mulS))) pins s σ H x y v u Q I rx ry h.h
end
/-- any tuple that is not empty, any number of times -/
theorem m_tA {K : PySem.W.Frag} {H : Hp} {Q : VK} {l : Addr} {k : Nat} {xs : List V} (h1 : SqT K H l xs) (h2 : xs ≠ []) (h4 : k ≤ 1000) (h5 : xs.length ≤ 1000) (q1 : k = 1 → Q (.ref l) H)
    (q : k ≠ 1 → ∀ p, H p = none → Q (.ref p) (upd H p (.tup (List.replicate k xs).flatten))) : rMuW K (.ref l) (.int k) H Q := by
  refine ⟨?_⟩
  match k, h4, q1, q with
  | 0, _, _, q => exact .inr (.inr (.inl ⟨l, xs, rfl, rfl, h1, h2, q (by decide)⟩))
  | 1, _, q1, _ => exact .inr (.inl ⟨l, xs, rfl, rfl, h1, q1 rfl⟩)
  | k + 2, h4, _, q => exact .inl (m_tt h1 h2 (by omega) (by omega) h5 (q (by omega)))
theorem m_ss {K : PySem.W.Frag} {H : Hp} {Q : VK} {z : Str} {k : Int} (h1 : 2 ≤ k) (h2 : k ≤ 1000) (h3 : 0 < z.length) (h4 : z.length ≤ 1000) (q : Q (.str ⟨(List.replicate k.toNat z.cps).foldl (· ++ ·) #[]⟩) H) : rMuW K (.str z) (.int k) H Q :=
  ⟨.inr (.inr (.inr ⟨z, k, rfl, rfl, h1, h2, h3, h4, q⟩))⟩
end Vf
end
section
set_option Elab.async false
set_option linter.all false
set_option maxRecDepth 100000
set_option maxHeartbeats 4000000
/-! Own layer: *d of a dict, tuple(d.values()). -/
namespace Vf
open PySem PySem.Spec PyProof.Rows L2 PySem.W
section
variable {prog : Program} {w : World} {A : Around} {E : Value → Shared → Prop} {s : Shared} {T : String} {r d : Addr} {n : Nat} {P : Nat → Value → Prop} {OK : Heap → Prop}
theorem collect_kdl {Q : List Value → Shared → Prop} (K : KdlSrc prog w T r d n P OK) (hh : A.handled = none) (hok : OK s.heap) (hn : n ≤ sizeLine)
    (hQ : ∀ (h' : Heap) (tk : Nat) (acc : Array Value), (∀ b o, s.heap.get? b = some o → h'.get? b = some o) → ItemsOf P acc n → Q acc.toList { s with heap := h', toks := tk }) :
    wpAny (model prog w) A (collect (.ref r)) Q E s := by
  unfold collect
  refine wpAny_bind (wpAny_runValue (codeAny_builtin F.entry_proto_collect ?_))
  rw [Around.under_plainId F.plain_proto_collect _]
  show wpAny _ A.in1 (newList [] >>= fun l => again (.builtin "list.__iadd__" ⟨[l, .ref r], []⟩)) _ _ s
  refine wpAny_bind (wpAny_newObj_type ?_)
  refine wpAny_pure ⟨plainId_quiet F.plain_list_iadd _, codeAny_builtin F.entry_list_iadd ?_⟩
  rw [Around.under_plainId F.plain_list_iadd _]
  show wpAny _ A.in1 (Builtin.List.listExtendWith (.ref s.heap.objs.size) (.ref r) (.ref s.heap.objs.size)) _ _ _
  have hS : (s.heap.push { cls := .type "list", data := .seq ([] : List Value).toArray }).get? s.heap.objs.size = some { cls := .type "list", data := .seq #[] 0 } := Heap.get?_push_size _ rfl
  have hlt := K.there _ hok
  refine wpAny_mono (kdl_extend (A := A) (s := { s with heap := s.heap.push { cls := .type "list", data := .seq ([] : List Value).toArray } }) (R := fun rr s' => rr = .ok (.ret (.ref s.heap.objs.size)) ∧ ∃ (h' : Heap) (tk : Nat) (acc : Array Value) (c' : Nat), s' = { s with heap := h', toks := tk } ∧
      (∀ b o, s.heap.get? b = some o → h'.get? b = some o) ∧ h'.get? s.heap.objs.size = some { cls := .type "list", dict := none, data := .seq acc c', slots := #[] } ∧ ItemsOf P acc n)
    K hh (K.keep _ _ hok fun b _ o e => Heap.get?_push_of_some _ e) s.heap.objs.size (Nat.ne_of_gt hlt.1) (Nat.ne_of_gt hlt.2) _ 0 hS
    (fun h' tk acc c' hk e hi => ⟨rfl, h', tk, acc, c', rfl, fun b o q => hk b o (Nat.ne_of_lt (Heap.lt_size q)) (Heap.get?_push_of_some _ q), e, hi⟩) hn) (fun fin s' h => ?_) (fun e s' h => ?_)
  · cases fin with
    | done f =>
      obtain ⟨e, h', tk, acc, c', rfl, hk, hS', hi⟩ := h
      cases e
      show wpAny _ A (load s.heap.objs.size >>= _) _ _ _
      exact wpAny_bind (wpAny_load hS' (wpAny_pure (hQ h' tk acc hk hi)))
    | again c' =>
      refine ⟨h.1, codeAny_mono h.2 fun rr s'' hr' => ?_⟩
      obtain ⟨rfl, h', tk, acc, c', rfl, hk, hS', hi⟩ := hr'
      show wpAny _ A (load s.heap.objs.size >>= _) _ _ _
      exact wpAny_bind (wpAny_load hS' (wpAny_pure (hQ h' tk acc hk hi)))
  · exact absurd h.1 (by simp)
theorem code_tuple_new_kdl {Q₁ : Value → Shared → Prop} (K : KdlSrc prog w "dict_values" r d n P OK) (hh : A.handled = none) (hok : OK s.heap) (hn : n ≤ sizeLine)
    (h : ∀ (h' : Heap) (tk : Nat) (acc : Array Value), (∀ b o, s.heap.get? b = some o → h'.get? b = some o) → ItemsOf P acc n →
      Q₁ (.ref h'.objs.size) { s with heap := h'.push { cls := .type "tuple", data := .seq acc }, toks := tk }) :
    codeAny (model prog w) A (.call (.builtin "tuple.__new__") ⟨[.type "tuple", .ref r], []⟩) (wants Q₁ E) s := by
  refine codeAny_of_tree ?_
  show wpAny _ A.in1 (do checkBuiltinCall "tuple.__new__" ⟨[.type "tuple", .ref r], []⟩; again (.builtin "tuple.__new__" ⟨[.type "tuple", .ref r], []⟩)) _ _ s
  refine wpAny_bind (wpAny_of_eq (F.newCall_tuple_1 _) (wpAny_pure ⟨plainId_quiet F.plain_tuple_new _, codeAny_builtin F.entry_tuple_new ?_⟩))
  rw [Around.under_plainId F.plain_tuple_new _]
  have hsub := sub_tuple_self
  have hinit := init_tuple_lookup
  have hmh := madeHere_tuple
  have hTI : s.TypeIs (.ref r) "dict_values" := K.type s hok
  have hh1 : A.in1.handled = none := hh
  wp_walk using wpAny_typeOf hTI, collect_kdl (A := A.in1) K hh1 hok hn
  intro h' tk acc hk hacc
  show wpAny _ _ (Builtin.Tuple.tupleExact acc.toList.toArray >>= fun v => ret v) _ _ _
  unfold Builtin.Tuple.tupleExact
  refine wpAny_bind (wpAny_newObj_type ?_ (by show acc.toList.toArray.size ≤ sizeLine; simp only [Array.toArray_toList]; rw [hacc.1]; omega))
  refine wpAny_pure ?_
  have e : acc.toList.toArray = acc := by simp
  rw [e]
  exact h h' tk acc hk hacc
theorem call_tuple_kdl {Q : Value → Shared → Prop} (K : KdlSrc prog w "dict_values" r d n P OK) (hh : A.handled = none) (hok : OK s.heap) (hn : n ≤ sizeLine)
    (hQ : ∀ (h' : Heap) (tk : Nat) (acc : Array Value), (∀ b o, s.heap.get? b = some o → h'.get? b = some o) → ItemsOf P acc n →
      Q (.ref h'.objs.size) { s with heap := h'.push { cls := .type "tuple", data := .seq acc }, toks := tk }) :
    wpAny (model prog w) A (call (.type "tuple") [.ref r]) Q E s := by
  refine callType_codes (Q₁ := fun obj s₁ => s₁.TypeIs obj "tuple" ∧ Q obj s₁) F.called_tuple (F.typeCall_tuple_1 _) F.entry_object_init
    (code_tuple_new_kdl (A := A.in1) K hh hok hn fun h' tk acc hk hacc => ⟨⟨_, Heap.get?_push_size _ rfl, rfl⟩, hQ h' tk acc hk hacc⟩) fun obj s₁ h₁ => ?_
  exact ⟨h₁.1, F.args_object_init_2 obj _, object_init_meets F.called_tuple.init.lookup F.called_tuple.made (by decide) prog w A.in1 _ s₁ ⟨h₁.1, rfl, h₁.2⟩⟩
end
theorem kv_vals {κ : Type} {kvs : List (κ × V)} {vs : List (κ × Value)} (r : KV kvs vs) : Vals (kvs.map (·.2)) (vs.map (·.2)) := by
  unfold KV at r
  induction r with
  | nil => exact .nil
  | cons h t ih => exact .cons h.2 ih
section
variable {X : Cx} {pins : List (Addr × Obj)} {σ : L2.St} {H : Hp} {s : Shared}
theorem star_dK {a : Addr} {kvs : List (Key × V)} {E : Value → Shared → Prop} {Q : List Value → Shared → Prop} (hc : X.calm = true) (I : Inv X pins σ H s) (h : H a = some (.dK kvs))
    (hQ : ∀ us s', Inv X pins σ H s' → Vals (kvs.map fun kv => kV kv.1) us → Q us s') : PySem.W.StarOf (model X.prog X.w) X.A E (.ref a) Q s := by
  obtain ⟨z, lo, vs, rk, hd⟩ := (show ObjOk X.prog X.w H s.heap a (.dK kvs) from I.hok a _ h)
  obtain ⟨ep, hat⟩ := hd.dictAt
  have hl : kvs.length = vs.length := Paired.length rk
  unfold PySem.W.StarOf notIterableAtAll
  refine wpAny_bind (wpAny_specialOf hat.dictOf.typeIs PySem.F.slot_dict_iter.lookup (wpAny_pure ⟨rfl, ?_⟩))
  refine collect_kdl (PySem.W.kdl_dict (knd := mixKind X.prog X.w) (kvs := vs) (ep := ep) lo) (I.ok.hd hc) hat (by rw [← hl]; exact z) fun h' tk acc hk hacc => ?_
  refine hQ _ _ (I.kept (t' := tk) hk) ?_
  have el : acc.toList.length = acc.size := by simp
  refine vals_of_at (by rw [List.length_map, el, hacc.1, hl]) fun j x w h1 h2 => ?_
  obtain ⟨k, y, hky, hi⟩ := hacc.2 j w (by rw [← Array.getElem?_toList]; exact h2)
  have e1 : (kvs.map (·.1))[j]? = some k := by
    rw [KV.keys rk, List.getElem?_map, hky] <;> rfl
  have e2 : (kvs.map fun kv => kV kv.1)[j]? = some (kV k) := by
    have e3 : (kvs.map fun kv => kV kv.1) = (kvs.map (·.1)).map kV := by rw [List.map_map] <;> rfl
    rw [e3, List.getElem?_map, e1] <;> rfl
  rw [e2] at h1
  cases h1
  exact keyIs_rel hi
end
section
variable {X : Cx} {K : PySem.W.Frag} {e : Expr} {es : List Expr} {te : TE} {t : TA} {p pos apos cpos : Pos}
/-- the items of a list, a tuple, the keys of a dict -/
structure StarV (K : PySem.W.Frag) (H : Hp) (p : Addr) (xs : List V) : Prop where
  h : SqT K H p xs ∨ SqL K H p xs ∨ ∃ kvs : List (Key × V), H p = some (.dK kvs) ∧ xs = kvs.map fun kv => kV kv.1
def tStarD (K : PySem.W.Frag) (te : TE) (t : TA) : TA := fun σ H Q => te σ H fun x H1 => ∃ p xs, x = V.ref p ∧ StarV K H1 p xs ∧ t σ H1 fun ys H2 => Q (xs ++ ys) H2
theorem pa_starD (hK : X.K = K) (hc : X.calm = true) (he : PE X e te) (hr : PA X es t) (hs : starEach (.Starred e p :: es) X.env = (true, eval e X.env) :: starEach es X.env := by rfl) : PA X (.Starred e p :: es) (tStarD K te t) := by
  subst hK
  refine ⟨fun pos pins s σ H Q I h => ?_⟩
  refine PySem.W.items_star (thn (he.run pins s σ H _ I h) fun v s1 ⟨y, H1, I1, ry, a, xs, ey, hx, q⟩ => ?_) hs
  subst ey
  obtain rfl : v = Value.ref a := ry
  have fin : ∀ us s2, Inv X pins σ H1 s2 → Vals xs us → wpAny (model X.prog X.w) X.A (spliced (backTo pos (starEach es X.env))) (fun ws s3 => ∃ vs H3, Inv X pins σ H3 s3 ∧ Vals vs (us ++ ws) ∧ Q vs H3) X.xe s2 := fun us s2 I2 rv =>
    thn (hr.run pos pins s2 σ H1 _ I2 q) fun ws s3 ⟨vs, H3, I3, r3, q3⟩ => ⟨xs ++ vs, H3, I3, rv.append r3, q3⟩
  rcases hx.h with h1 | h1 | ⟨kvs, h1, rfl⟩
  · exact StX.star_any I1 (.inl h1) fin
  · exact StX.star_any I1 (.inr h1) fin
  · exact star_dK hc I1 h1 fin
/-- tuple(d.values()) -/
def tTupVals (te : TE) : TE := fun σ H Q => te σ H fun x H1 => ∃ d kvs, x = V.ref d ∧ H1 d = some (.dK kvs) ∧ ∀ q, H1 q = none → Q (.ref q) (upd H1 q (.tup (kvs.map (·.2))))
theorem pe_tupVals {tp : Pos} (hc : X.calm = true) (hg : Gl X "tuple") (hm : X.mg "tuple" = none) (he : PE X e te) (hbase : attributeBase e "values" X.env (eval e X.env) = eval e X.env := by rfl) (hline : (apos.endLine == cpos.line) = true := by rfl)
    (na : starEach [(.Call (.Attribute e "values" apos) [] [] cpos : Expr)] X.env = (false, eval (.Call (.Attribute e "values" apos) [] [] cpos) X.env) :: starEach [] X.env := by rfl) :
    PE X (.Call (.Name "tuple" tp) [.Call (.Attribute e "values" apos) [] [] cpos] [] pos) (tTupVals te) := by
  refine ⟨fun pins s σ H Q I h => ?_⟩
  refine Call_ (ld_blt I hg hm boot_tuple (PyProof.Rows.callWith_type1 (args_cons ?_ na) na))
  refine wpAny_Call_method (T := "dict") (id := "dict.values") hbase rfl hline F.plainAttrs_dict F.slot_dict_values F.type_dict_values (thn (he.run pins s σ H _ I h) fun u s1 ⟨x, H1, I1, rx, d, kvs, ex, hd, q⟩ => ?_)
  subst ex
  obtain rfl : u = Value.ref d := rx
  obtain ⟨z, lo, vs, rk, hda⟩ := (show ObjOk X.prog X.w H1 s1.heap d (.dK kvs) from I1.hok d _ hd)
  obtain ⟨ep, hm2⟩ := hda.dictAt
  have hl : kvs.length = vs.length := Paired.length rk
  refine ⟨hm2.dictOf.typeIs, hm2.dictOf.mapOf.noDict, ?_⟩
  have I2 : Inv X pins σ H1 { s1 with heap := s1.heap.push { cls := .type "dict_values", data := .fields #[.ref d] } } := I1.kept (t' := s1.toks) fun b ob q => Heap.get?_push_of_some _ q
  show wpAny _ _ (callWith cpos (.builtin "dict.values") [.ref d] [] []) _ X.xe s1
  refine method_meetsIn F.slot_dict_values F.entry_dict_values rfl (PySem.evalArgs_none ⟨rfl, hm2.dictOf.typeIs, F.args_dict_values_1 _, _, meets_dict_values (mixKind X.prog X.w) d lo, ⟨vs, hm2.dictOf⟩, ?_⟩)
  refine args_nil ?_
  refine call_tuple_kdl (PySem.W.kdl_values (knd := mixKind X.prog X.w) (kvs := vs) (ep := ep) (d := d)) (I2.ok.hd hc) ⟨⟨_, Heap.get?_push_size _ rfl, rfl, rfl⟩, hm2.push _⟩ (by rw [← hl]; exact z) fun h' tk acc hk hacc => ?_
  have I3 : Inv X pins σ H1 { s1 with heap := h', toks := tk } := I2.kept (t' := tk) hk
  have ev : acc.toList = vs.map (·.2) := PySem.W.kdl_vals_eq _ (by simp [hacc.1]) fun j v hj => hacc.2 j v (by rw [← Array.getElem?_toList]; exact hj)
  refine ⟨.ref h'.objs.size, upd H1 h'.objs.size (.tup (kvs.map (·.2))), I3.laid (t' := tk) (fun c o e => Heap.get?_push_of_some _ e) (Nat.le_refl _) (show ObjOk X.prog X.w _ _ _ (.tup (kvs.map (·.2))) from ⟨?_, acc.toList, ?_, ?_⟩), rfl, q _ (I3.hok.fresh (Nat.le_refl _))⟩
  · rw [List.length_map]; exact z
  · rw [ev]
    exact kv_vals rk
  · rw [Array.toArray_toList]; exact IsTup.new _ _
end
end Vf
end
section
set_option Elab.async false
set_option linter.all false
set_option maxRecDepth 100000
set_option maxHeartbeats 4000000
/-! Own layer: texts cut at one sign. -/
namespace Vf
open PySem PySem.Builtin PySem.Builtin.Str
abbrev cp (x : Str) : List Nat := x.cps.toList
theorem cp_app (a b : Str) : cp (a ++ b) = cp a ++ cp b := by
  show (a.cps ++ b.cps).toList = _
  exact Array.toList_append
theorem cp_inj {a b : Str} (h : cp a = cp b) : a = b := Str.ext' (Array.toList_inj.mp h)
theorem cp_len (a : Str) : (cp a).length = a.length := Array.length_toList
def ic (c : Nat) : List (List Nat) → List Nat
  | [] => []
  | [x] => x
  | x :: y :: r => x ++ c :: ic c (y :: r)
/-- cut at each c -/
def sp (c : Nat) : List Nat → List (List Nat)
  | [] => [[]]
  | x :: l => if x = c then [] :: sp c l else match sp c l with
    | p :: r => (x :: p) :: r
    | [] => [[x]]
theorem sp_ne (c : Nat) : ∀ l, sp c l ≠ []
  | [] => by simp [sp]
  | x :: l => by
    unfold sp
    split
    · simp
    · split <;> simp
theorem sp_free {c : Nat} : ∀ {w : List Nat}, c ∉ w → sp c w = [w]
  | [], _ => rfl
  | x :: l, h => by
    have h1 : x ≠ c := fun e => h (by rw [e]; exact List.mem_cons_self)
    unfold sp
    rw [if_neg h1, sp_free (fun z => h (List.mem_cons_of_mem _ z))]
theorem sp_app (c : Nat) (m : List Nat) : ∀ l, sp c (l ++ c :: m) = sp c l ++ sp c m
  | [] => by
    show sp c (c :: m) = _
    conv => lhs; unfold sp
    rw [if_pos rfl]; rfl
  | x :: l => by
    show sp c (x :: (l ++ c :: m)) = _
    conv => lhs; unfold sp
    conv => rhs; arg 1; unfold sp
    rw [sp_app c m l]
    split
    · rfl
    · cases e : sp c l with
      | nil => exact absurd e (sp_ne c l)
      | cons p r => rfl
theorem sp_ic (c : Nat) : ∀ ps : List (List Nat), ps ≠ [] → (∀ p ∈ ps, c ∉ p) → sp c (ic c ps) = ps
  | [], h, _ => absurd rfl h
  | [x], _, h => sp_free (h x List.mem_cons_self)
  | x :: y :: r, _, h => by
    show sp c (x ++ c :: ic c (y :: r)) = _
    rw [sp_app, sp_free (h x List.mem_cons_self), sp_ic c (y :: r) (by simp) fun p hp => h p (List.mem_cons_of_mem _ hp)]; rfl
theorem cp_join (c : Nat) : ∀ ps : List Str, cp (Str.join ⟨#[c]⟩ ps) = ic c (ps.map cp)
  | [] => rfl
  | [x] => rfl
  | x :: y :: r => by
    show cp (x ++ ⟨#[c]⟩ ++ Str.join ⟨#[c]⟩ (y :: r)) = _
    rw [cp_app, cp_app, cp_join c (y :: r), List.append_assoc]; rfl
theorem split_ne (x y : Str) : Txt.split x y ≠ [] := by
  unfold Txt.split
  split
  · simp
  · split
    · simp
    · rw [StrLaws.partsBetween_eq]
      obtain ⟨p, r, e⟩ := StrLaws.partsFrom_ne x y.length 0 (Builtin.Str.occurrences x y 0 x.length (x.length + 1))
      rw [e]; simp
theorem split_sp (x : Str) (c : Nat) : (Txt.split x ⟨#[c]⟩).map cp = sp c (cp x) := by
  have h1 := congrArg cp (StrLaws.join_split x ⟨#[c]⟩)
  rw [cp_join] at h1
  rw [← h1]
  refine (sp_ic c _ (fun z => split_ne x ⟨#[c]⟩ (List.map_eq_nil_iff.mp z)) fun p hp => ?_).symm
  obtain ⟨q, hq, rfl⟩ := List.mem_map.mp hp
  exact StrLaws.split_free x c q hq
theorem map_cp_inj : ∀ {a b : List Str}, a.map cp = b.map cp → a = b
  | [], [], _ => rfl
  | [], _ :: _, h => by cases h
  | _ :: _, [], h => by cases h
  | x :: a, y :: b, h => by
    rw [List.map_cons, List.map_cons] at h
    injection h with h1 h2
    rw [cp_inj h1, map_cp_inj h2]
/-- texts that were joined are found again -/
theorem split_join {c : Nat} {ps : List Str} (h : ps ≠ []) (hf : ∀ p ∈ ps, c ∉ cp p) : Txt.split (Txt.join ⟨#[c]⟩ ps) ⟨#[c]⟩ = ps := by
  refine map_cp_inj ?_
  rw [split_sp]
  show sp c (cp (Builtin.Str.glued ⟨#[c]⟩ ps)) = _
  rw [StrLaws.glued_eq_join, cp_join]
  refine sp_ic c _ (fun z => h (List.map_eq_nil_iff.mp z)) fun p hp => ?_
  obtain ⟨q, hq, rfl⟩ := List.mem_map.mp hp
  exact hf q hq
/-- what stands between spaces -/
def wd (l : List Nat) : List (List Nat) := (sp 32 l).filter fun p => !p.isEmpty
theorem wd_nil : wd [] = [] := rfl
theorem wd_app (l m : List Nat) : wd (l ++ 32 :: m) = wd l ++ wd m := by
  unfold wd
  rw [sp_app, List.filter_append]
theorem wd_one {w : List Nat} (h : 32 ∉ w) (h2 : w ≠ []) : wd w = [w] := by
  unfold wd
  rw [sp_free h]
  cases w with
  | nil => exact absurd rfl h2
  | cons a r => rfl
theorem wd_sp (m : List Nat) : wd (32 :: m) = wd m := wd_app [] m
theorem wd_rep (m : List Nat) : ∀ k, wd (List.replicate k 32 ++ m) = wd m
  | 0 => rfl
  | k + 1 => by
    rw [List.replicate_succ, List.cons_append, wd_sp, wd_rep m k]
theorem wd_end (l : List Nat) : ∀ k, wd (l ++ List.replicate k 32) = wd l
  | 0 => by rw [List.replicate_zero, List.append_nil]
  | k + 1 => by
    rw [List.replicate_succ, wd_app]
    have q := wd_rep [] k
    rw [List.append_nil] at q
    rw [q, wd_nil, List.append_nil]
theorem stripBy_eqV (g : Nat → Bool) (l r : Bool) (x : Str) : Txt.stripBy g l r x = stripped g l r x := by
  unfold Txt.stripBy
  split
  · rename_i h
    simp only [stripSame, Bool.and_eq_true, beq_iff_eq] at h
    show x = strSub x (stripLo g l x) (stripHi g r x (stripLo g l x))
    rw [h.2, h.1, StrLaws.sub_whole]
  · rfl
def wdS (x : Str) : List Str := (Txt.split x " ").filter fun p => !decide (L2.V.str p = L2.V.str "")
theorem emp_cp (p : Str) : (cp p).isEmpty = decide (L2.V.str p = L2.V.str "") := by
  rw [dvs]
  by_cases h : p = ""
  · subst h; rfl
  · rw [decide_eq_false h]
    cases e : cp p with
    | nil => exact absurd (cp_inj (b := "") e) h
    | cons a r => rfl
theorem wdS_cp (x : Str) : (wdS x).map cp = wd (cp x) := by
  unfold wdS wd
  rw [← split_sp x 32]
  show ((Txt.split x ⟨#[32]⟩).filter _).map cp = _
  rw [List.filter_map]
  congr 1
  refine List.filter_congr fun p _ => ?_
  show (!decide (L2.V.str p = L2.V.str "")) = !(cp p).isEmpty
  rw [emp_cp]
theorem wdS_of {x : Str} {ws : List Str} (h : wd (cp x) = ws.map cp) : wdS x = ws := map_cp_inj ((wdS_cp x).trans h)
theorem tw_rep (l : List Nat) : ∃ k, l.takeWhile (fun c => decide (c = 32)) = List.replicate k 32 := by
  induction l with
  | nil => exact ⟨0, rfl⟩
  | cons a r ih =>
    obtain ⟨k, e⟩ := ih
    by_cases h : a = 32
    · subst h
      refine ⟨k + 1, ?_⟩
      rw [List.takeWhile_cons_of_pos (by simp), e, List.replicate_succ]
    · exact ⟨0, by rw [List.takeWhile_cons_of_neg (by simpa using h)]; rfl⟩
theorem rstrip_cp (x : Str) : ∃ k, cp x = cp (Txt.rstripChars x " ") ++ List.replicate k 32 := by
  have e : Txt.rstripChars x " " = strSub x 0 (x.length - ((cp x).reverse.takeWhile (fun c => decide (c = 32))).length) := by
    unfold Txt.rstripChars
    rw [stripBy_eqV]
    have g : (fun c : Nat => (" " : Str).cps.contains c) = fun c => decide (c = 32) := funext fun c => by
      show (#[32] : Array Nat).contains c = _
      simp
    show strSub x 0 (x.length - (((cp x).drop 0).reverse.takeWhile (fun c : Nat => (" " : Str).cps.contains c)).length) = _
    rw [g, List.drop_zero]
  obtain ⟨k, hk⟩ := tw_rep (cp x).reverse
  refine ⟨k, ?_⟩
  rw [e]
  have q : cp (strSub x 0 (x.length - ((cp x).reverse.takeWhile (fun c => decide (c = 32))).length)) = (cp x).take ((cp x).length - k) := by
    show (strSub _ _ _).cps.toList = _
    rw [StrLaws.strSub_toList, List.drop_zero, Nat.sub_zero, hk, List.length_replicate, cp_len]
  rw [q]
  have s := (List.takeWhile_append_dropWhile (p := fun c => decide (c = 32)) (l := (cp x).reverse))
  rw [hk] at s
  have s2 := congrArg List.reverse s
  rw [List.reverse_append, List.reverse_reverse, List.reverse_replicate] at s2
  generalize ((cp x).reverse.dropWhile (fun c => decide (c = 32))).reverse = r at s2
  rw [← s2]
  congr 1
  have l2 : (r ++ List.replicate k 32).length - k = r.length := by
    rw [List.length_append, List.length_replicate]; omega
  rw [l2, List.take_left]
theorem wd_rstrip (x : Str) : wd (cp (Txt.rstripChars x " ")) = wd (cp x) := by
  obtain ⟨k, e⟩ := rstrip_cp x
  rw [e, wd_end]
/-- words joined by one space -/
theorem wd_join : ∀ {ws : List Str}, (∀ w ∈ ws, 32 ∉ cp w ∧ cp w ≠ []) → wd (cp (Txt.join ⟨#[32]⟩ ws)) = ws.map cp := by
  intro ws h
  show wd (cp (Builtin.Str.glued ⟨#[32]⟩ ws)) = _
  rw [StrLaws.glued_eq_join, cp_join]
  cases ws with
  | nil => rfl
  | cons w r =>
    unfold wd
    rw [sp_ic 32 _ (by simp) fun p hp => ?_]
    · refine List.filter_eq_self.mpr fun p hp => ?_
      obtain ⟨q, hq, rfl⟩ := List.mem_map.mp hp
      have := (h q hq).2
      cases e : cp q with
      | nil => exact absurd e this
      | cons a b => rfl
    · obtain ⟨q, hq, rfl⟩ := List.mem_map.mp hp
      exact (h q hq).1
/-- a text that was closed by a space: what is behind it has its own words -/
def Cl (t : Str) (ws : List Str) : Prop := ∀ m, wd (cp t ++ m) = ws.map cp ++ wd m
theorem Cl.word {t w : Str} {ws : List Str} {k : Nat} (h : Cl t ws) (h1 : 32 ∉ cp w) (h2 : cp w ≠ []) (hk : 1 ≤ k) {t' : Str} (e : cp t' = cp t ++ cp w ++ List.replicate k 32) : Cl t' (ws ++ [w]) := fun m => by
  obtain ⟨j, rfl⟩ : ∃ j, k = j + 1 := ⟨k - 1, by omega⟩
  rw [e, List.append_assoc, List.append_assoc, h, List.replicate_succ, List.cons_append, wd_app, wd_one h1 h2, wd_rep, List.map_append, List.append_assoc]; rfl
theorem Cl.start {t : Str} {k : Nat} (e : cp t = List.replicate k 32) : Cl t [] := fun m => by rw [e, wd_rep]; rfl
theorem Cl.done {t : Str} {ws : List Str} (h : Cl t ws) : wd (cp t) = ws.map cp := by
  have q := h []
  rw [List.append_nil, wd_nil, List.append_nil] at q
  exact q
end Vf
end
section
set_option Elab.async false
set_option linter.all false
set_option maxRecDepth 100000
set_option maxHeartbeats 4000000
/-! Own layer: methods and classes by their promises; a heap in which some objects change. -/
namespace Vf
open PySem PySem.Spec PyProof.Rows L2 GxR GenW RZ
structure Mf (P : Program) (w : World) (K : PySem.W.Frag) (mg : Str → Option Value) (base : Heap) (C : Addr) (m : Str) (k : Nat) (ps : List Str) (sp : Sp) : Prop where
  ex : ∃ (f : Addr) (fd : FuncData), FnOk P w K mg base CX0 k f fd ps sp ∧ Meth K C m f ∧ Binds K fd ps []
structure Cf (P : Program) (w : World) (K : PySem.W.Frag) (mg : Str → Option Value) (base : Heap) (C : Addr) (x : Str) (k : Nat) (ps : List Str) (sp : Sp) : Prop where
  ex : ∃ (f : Addr) (fd : FuncData), FnOk P w K mg base CX0 k f fd ps sp ∧ Mk K C f ∧ mg x = some (.ref C) ∧ Binds K fd ps []
section
variable {X : Cx} {k j : Nat} {x m : Str} {ps : List Str} {sp : Sp} {p pos apos : Pos} {o e : Expr} {es : List Expr} {to : TE} {t : TA} {C : Addr}
theorem pe_mt {pl : Sem Bool} (c : Cls X.K C) (D : Mf X.prog X.w X.K X.mg X.base C m k ps sp) (hr : Room j X.A) (hk : k ≤ j) (ho : PE X o to) (ha : PA X (e :: es) t)
    (hst : starEach (e :: es) X.env = (false, eval e X.env) :: starEach es X.env := by rfl) (hpl : (backTo pos (starEach es X.env)).any (·.1) = false := by rfl)
    (ht : eval (.Call (.Attribute o m apos) (e :: es) [] pos) X.env = (do
      let ov ← eval o X.env
      standAt apos.atName
      let (f, first) ← holding [ov] (getMethod ov m pl)
      callWith pos f first (backTo pos (starEach (e :: es) X.env)) (backToKw pos (keywordEach [] X.env))) := by rfl) :
    PE X (.Call (.Attribute o m apos) (e :: es) [] pos) (tMeth C m sp [] E0 to t) := by
  obtain ⟨f, fd, F, hm, hb⟩ := D.ex
  exact pe_meth (pl := pl) ho c hm F (hr.mono hk) hb .nil pass0 ha hst hpl ht
theorem pe_mt0 {pl : Sem Bool} (c : Cls X.K C) (D : Mf X.prog X.w X.K X.mg X.base C m k ps sp) (hr : Room j X.A) (hk : k ≤ j) (ho : PE X o to)
    (ht : eval (.Call (.Attribute o m apos) [] [] pos) X.env = (do
      let ov ← eval o X.env
      standAt apos.atName
      let (f, first) ← holding [ov] (getMethod ov m pl)
      callWith pos f first (backTo pos (starEach [] X.env)) (backToKw pos (keywordEach [] X.env))) := by rfl) :
    PE X (.Call (.Attribute o m apos) [] [] pos) (tMeth C m sp [] E0 to tNil) := by
  obtain ⟨f, fd, F, hm, hb⟩ := D.ex
  exact pe_meth0 (pl := pl) ho c hm F (hr.mono hk) hb .nil pass0 ht
theorem pe_mk (D : Cf X.prog X.w X.K X.mg X.base C x k ps sp) (hr : Room j X.A) (hk : k + 1 ≤ j) (hg : Gl X x) (ha : PA X (e :: es) t) (hdb : (x == ("__debug__" : Str)) = false := by decide)
    (he : starEach (e :: es) X.env = (false, eval e X.env) :: starEach es X.env := by rfl) (hpl : (backTo pos (starEach es X.env)).any (·.1) = false := by rfl) : PE X (.Call (.Name x p) (e :: es) [] pos) (tMake C sp [] E0 t) := by
  obtain ⟨f, fd, F, M, hm, hb⟩ := D.ex
  exact pe_make M F (hr.mono hk) hg hm hb .nil pass0 ha hdb he hpl
end
/-! ### a heap in which the objects S change -/
def isFix : HO → Bool
  | .tup _ => true
  | .tbl _ => true
  | _ => false
def GrM (S : List Addr) (H H' : Hp) : Prop := ∀ b o, (b ∉ S ∨ isFix o = true) → H b = some o → (H' b = some o ∨ ∃ ps more, o = .tbl ps ∧ H' b = some (.tbl (ps ++ more)) ∧ (TriplesOk ps.toList → TriplesOk (ps ++ more).toList))
/-- what may change stands there, and is none of those that do not -/
def Mu (H : Hp) (b : Addr) : Prop := ∀ o, H b = some o → isFix o = false
section
variable {S S' : List Addr} {H H' H1 H2 : Hp} {b : Addr} {o : HO}
theorem GrM.refl (S : List Addr) (H : Hp) : GrM S H H := fun _ _ _ h => .inl h
theorem Gr.m (g : Gr H H') : GrM S H H' := fun b o _ h => g b o h
theorem GrM.trans (a : GrM S H H1) (b : GrM S H1 H2) : GrM S H H2 := by
  intro c o hc e
  rcases a c o hc e with h | ⟨ps, more, rfl, h, k⟩
  · exact b c o hc h
  · rcases b c _ (.inr rfl) h with h2 | ⟨ps2, more2, e2, h2, k2⟩
    · exact .inr ⟨ps, more, rfl, h2, k⟩
    · cases e2
      exact .inr ⟨ps, more ++ more2, rfl, by rw [← Array.append_assoc]; exact h2, fun z => by rw [← Array.append_assoc]; exact k2 (k z)⟩
theorem GrM.mono (h : GrM S H H') (hs : ∀ b ∈ S, b ∈ S') : GrM S' H H' := fun b o hb e => h b o (hb.imp (fun z y => z (hs b y)) id) e
theorem GrM.keep (g : GrM S H H') (hb : b ∉ S) (h : H b = some o) (n : ∀ ps, o ≠ .tbl ps) : H' b = some o := by
  rcases g b o (.inl hb) h with e | ⟨ps, _, e, _⟩
  · exact e
  · exact absurd e (n ps)
theorem GrM.tup {xs : List V} (g : GrM S H H') (h : H b = some (.tup xs)) : H' b = some (.tup xs) := by
  rcases g b _ (.inr rfl) h with e | ⟨ps, _, e, _⟩
  · exact e
  · cases e
theorem GrM.upd (g : GrM S H H') (hb : b ∈ S) (hm : Mu H b) : GrM S H (L2.upd H' b o) := by
  intro c w hc e
  by_cases z : c = b
  · subst z
    rcases hc with hc | hc
    · exact absurd hb hc
    · rw [hm w e] at hc; cases hc
  · rw [upd_ne z]
    exact g c w hc e
theorem GrM.new (g : GrM S H H') (hb : H b = none) : GrM S H (L2.upd H' b o) := by
  intro c w hc e
  rw [upd_ne (ne_of_none e hb)]
  exact g c w hc e
theorem GrM.drop (g : GrM S' H H') (hs : ∀ b ∈ S', b ∈ S ∨ H b = none) : GrM S H H' := fun b o hb e => by
  refine g b o ?_ e
  rcases hb with hb | hb
  · refine .inl fun z => ?_
    rcases hs b z with y | y
    · exact hb y
    · rw [e] at y; cases y
  · exact .inr hb
theorem GrM.gr (g : GrM S H H') (hs : ∀ b ∈ S, H b = none) : Gr H H' := fun b o e => by
  refine g b o (.inl fun z => ?_) e
  rw [hs b z] at e; cases e
theorem GrM.free (g : GrM S H H') (hb : b ∉ S) (h : H' b = none) : H b = none := by
  cases q : H b with
  | none => rfl
  | some o =>
    rcases g b o (.inl hb) q with h1 | ⟨_, _, _, h1, _⟩
    · rw [h] at h1; cases h1
    · rw [h] at h1; cases h1
theorem GrM.tabG {P : Addr} (g : GrM S H H') (h : TabG H P) : TabG H' P := by
  obtain ⟨ps, h1, h2⟩ := h
  rcases g P _ (.inr rfl) h1 with e | ⟨ps2, more, e, e2, k⟩
  · exact ⟨ps, e, h2⟩
  · cases e
    exact ⟨_, e2, k h2⟩
theorem GrM.seqT {K : PySem.W.Frag} {a : Addr} {xs : List V} (g : GrM S H H') (h : SqT K H a xs) (hf : ∀ o ys, H a ≠ some (.frz o ys)) : SqT K H' a xs := by
  rcases h with (h | ⟨o, h⟩) | h
  · exact .inl (.inl (g.tup h))
  · exact absurd h (hf _ _)
  · exact .inr h
theorem Mu.ins {C dx : Addr} {fs : List (Str × V)} (h : H b = some (.ins C dx fs)) : Mu H b := fun o e => by rw [h] at e; cases e; rfl
theorem Mu.lst {xs : List V} (h : H b = some (.lst xs)) : Mu H b := fun o e => by rw [h] at e; cases e; rfl
theorem Mu.dk {xs : List (Key × V)} (h : H b = some (.dK xs)) : Mu H b := fun o e => by rw [h] at e; cases e; rfl
theorem Mu.none (h : H b = Option.none) : Mu H b := fun o e => by rw [h] at e; cases e
end
/-- any text, any number of times -/
def rMulA : R2 := fun x y H Q => ∃ (z : Str) (k : Nat), x = .str z ∧ y = .int k ∧ k ≤ 1000 ∧ 0 < z.length ∧ z.length ≤ 1000 ∧ ∀ r : Str, cp r = (List.replicate k (cp z)).flatten → Q (.str r) H
theorem fold_cp (z : Array Nat) : ∀ (k : Nat) (a : Array Nat), ((List.replicate k z).foldl (· ++ ·) a).toList = a.toList ++ (List.replicate k z.toList).flatten
  | 0, a => by simp
  | k + 1, a => by
    rw [List.replicate_succ, List.foldl_cons, fold_cp z k, Array.toList_append, List.replicate_succ, List.flatten_cons, List.append_assoc]
section
variable {X : Cx}
theorem op_mulA : OpR X (binaryOp .Mult) rMulA := by
  intro pins s σ H x y v u Q I rx ry h
  obtain ⟨z, k, rfl, rfl, h2, h3, h4, q⟩ := h
  obtain ⟨t, rfl⟩ := rx
  obtain ⟨t', rfl⟩ := ry
  have lz : z.length * k ≤ 1000000 := Nat.le_trans (Nat.mul_le_mul h4 h2) (by decide)
  have tn : ((k : Int)).toNat = k := Int.toNat_natCast k
  refine PySem.P.mul_str ?_ (fun h1 _ => ?_) (fun _ _ => ?_) ?_
  · rw [decide_eq_false (by omega), decide_eq_false (by omega)]
    rfl
  · have a1 : (1000 : Int) ≤ (2 ^ 63 - 1) / (k : Int) := by
      refine Int.le_ediv_of_mul_le (by omega) ?_
      omega
    omega
  · rw [tn]
    show decide (_ > sizeLine) = false
    rw [sizeLine_eq]
    exact decide_eq_false (by omega)
  · by_cases c0 : (k : Int) < 1
    · rw [if_pos c0]
      have k0 : k = 0 := by omega
      subst k0
      exact ⟨by rw [sizeLine_eq]; decide, .str _, H, I.tok _, ⟨_, rfl⟩, q _ rfl⟩
    · rw [if_neg c0]
      by_cases c1 : k = 1
      · subst c1
        exact ⟨.str z, H, I, ⟨_, rfl⟩, q z (by show cp z = (List.replicate 1 (cp z)).flatten; rw [List.replicate_one, List.flatten_singleton])⟩
      · have c2 : ((k : Int) == 1 || z.length == 0) = false := by
          rw [beq_eq_false_iff_ne.mpr (show (k : Int) ≠ 1 by omega), beq_eq_false_iff_ne.mpr (show z.length ≠ 0 by omega)]
          rfl
        rw [if_neg (by rw [c2]; decide), tn]
        have e : cp (⟨(List.replicate k z.cps).foldl (· ++ ·) #[]⟩ : Str) = (List.replicate k (cp z)).flatten := by
          show ((List.replicate k z.cps).foldl (· ++ ·) #[]).toList = _
          rw [fold_cp]; rfl
        refine ⟨?_, .str _, H, I.tok _, ⟨_, rfl⟩, q _ e⟩
        have l := congrArg List.length e
        rw [cp_len] at l
        rw [l, List.length_flatten, List.map_replicate, List.sum_replicate_nat, cp_len, sizeLine_eq]
        rw [Nat.mul_comm]
        omega
structure rMuX (K : PySem.W.Frag) (x y : V) (H : Hp) (Q : VK) : Prop where
  h : rMuW K x y H Q ∨ rMulA x y H Q
theorem u_mulX {K : PySem.W.Frag} (hK : X.K = K) : OpR X (binaryOp .Mult) (rMuX K) := by
  subst hK
  exact fun pins s σ H x y v u Q I rx ry h => (OpR.or (u_mulW rfl) op_mulA) pins s σ H x y v u Q I rx ry h.h
end
theorem mx_s {K : PySem.W.Frag} {H : Hp} {Q : VK} {z : Str} {k : Nat} (h2 : k ≤ 1000) (h3 : 0 < z.length) (h4 : z.length ≤ 1000) (q : ∀ r : Str, cp r = (List.replicate k (cp z)).flatten → Q (.str r) H) : rMuX K (.str z) (.int k) H Q := ⟨.inr ⟨z, k, rfl, rfl, h2, h3, h4, q⟩⟩
theorem mx_w {K : PySem.W.Frag} {x y : V} {H : Hp} {Q : VK} (h : rMuW K x y H Q) : rMuX K x y H Q := ⟨.inl h⟩
end Vf
end
section
set_option Elab.async false
set_option linter.all false
set_option maxRecDepth 100000
set_option maxHeartbeats 4000000
/-! Own layer: any text no times. -/
namespace Vf
open PySem PySem.Spec PyProof.Rows L2 GxR GenW RZ
def rMulZ : R2 := fun x y H Q => ∃ z : Str, x = .str z ∧ y = .int 0 ∧ z.length ≤ 1000 ∧ ∀ r : Str, cp r = [] → Q (.str r) H
section
variable {X : Cx}
theorem op_mulZ : OpR X (binaryOp .Mult) rMulZ := by
  intro pins s σ H x y v u Q I rx ry h
  obtain ⟨z, rfl, rfl, h4, q⟩ := h
  obtain ⟨t, rfl⟩ := rx
  obtain ⟨t', rfl⟩ := ry
  refine PySem.P.mul_str ?_ (fun h1 _ => ?_) (fun _ _ => ?_) ?_
  · rw [decide_eq_false (by omega), decide_eq_false (by omega)]
    rfl
  · omega
  · show decide (_ > sizeLine) = false
    rw [sizeLine_eq]
    exact decide_eq_false (by show ¬ z.length * 0 > _; omega)
  · rw [if_pos (by omega)]
    exact ⟨by rw [sizeLine_eq]; decide, .str _, H, I.tok _, ⟨_, rfl⟩, q _ rfl⟩
structure rMuY (K : PySem.W.Frag) (x y : V) (H : Hp) (Q : VK) : Prop where
  h : rMuX K x y H Q ∨ rMulZ x y H Q
theorem u_mulY {K : PySem.W.Frag} (hK : X.K = K) : OpR X (binaryOp .Mult) (rMuY K) :=
  fun pins s σ H x y v u Q I rx ry h => (OpR.or (u_mulX hK) op_mulZ) pins s σ H x y v u Q I rx ry h.h
end
theorem my_any {K : PySem.W.Frag} {H : Hp} {Q : VK} {z : Str} {k : Nat} (h2 : k ≤ 1000) (h3 : z.length = 0 → k = 0) (h4 : z.length ≤ 1000) (q : ∀ r : Str, cp r = (List.replicate k (cp z)).flatten → Q (.str r) H) : rMuY K (.str z) (.int k) H Q := by
  refine ⟨?_⟩
  by_cases h0 : z.length = 0
  · have k0 := h3 h0
    subst k0
    exact .inr ⟨z, rfl, rfl, h4, fun r hr => q r hr⟩
  · exact .inl (mx_s h2 (by omega) h4 q)
end Vf
end
section
set_option Elab.async false
set_option linter.all false
set_option maxRecDepth 100000
set_option maxHeartbeats 4000000
/-! Own layer: what a test's or a term's word asks grows with its answer (for while). -/
namespace Vf
open PySem PySem.Spec PyProof.Rows L2 GxR GenW RZ
def MoE (t : TE) : Prop := ∀ σ H (Q Q' : VK), (∀ v H1, Q v H1 → Q' v H1) → t σ H Q → t σ H Q'
def MoA (t : TA) : Prop := ∀ σ H (Q Q' : List V → Hp → Prop), (∀ v H1, Q v H1 → Q' v H1) → t σ H Q → t σ H Q'
def MoT (t : TT) : Prop := ∀ σ H (Q Q' : Bool → Hp → Prop), (∀ b H1, Q b H1 → Q' b H1) → t σ H Q → t σ H Q'
def MoR (r : R2) : Prop := ∀ x y H (Q Q' : VK), (∀ v H1, Q v H1 → Q' v H1) → r x y H Q → r x y H Q'
theorem mo_var (i : Nat) : MoE (tVar i) := fun σ H Q Q' h ⟨v, e, q⟩ => ⟨v, e, h _ _ q⟩
theorem mo_c (v : V) : MoE (tC v) := fun σ H Q Q' h q => h _ _ q
theorem mo_op {r : R2} {a b : TE} (hr : MoR r) (ha : MoE a) (hb : MoE b) : MoE (tOp r a b) := fun σ H Q Q' h q => ha σ H _ _ (fun x H1 q1 => hb σ H1 _ _ (fun y H2 q2 => hr x y H2 _ _ h q2) q1) q
theorem mo_nil : MoA tNil := fun σ H Q Q' h q => h _ _ q
theorem mo_cons {a : TE} {t : TA} (ha : MoE a) (ht : MoA t) : MoA (tCons a t) := fun σ H Q Q' h q => ha σ H _ _ (fun x H1 q1 => ht σ H1 _ _ (fun xs H2 q2 => h _ _ q2) q1) q
theorem mo_len {K : PySem.W.Frag} {t : TA} (ht : MoA t) : MoE (tCB (fun xs H Q => ∃ x n, xs = [x] ∧ LenV K x H n ∧ Q (.int n) H) t) := fun σ H Q Q' h q => ht σ H _ _ (fun xs H1 ⟨x, n, e, l, q1⟩ => ⟨x, n, e, l, h _ _ q1⟩) q
theorem mo_test {t : TE} (ht : MoE t) : MoT (tTest t) := fun σ H Q Q' h q => ht σ H _ _ (fun v H1 ⟨k, e, q1⟩ => ⟨k, e, h _ _ q1⟩) q
theorem mo_and {t u : TT} (ht : MoT t) (hu : MoT u) : MoT (tAnd t u) := fun σ H Q Q' h q => ht σ H _ _ (fun c H1 q1 => by
  cases c with
  | true => exact hu σ H1 _ _ h q1
  | false => exact h _ _ q1) q
theorem mo_or {t u : TT} (ht : MoT t) (hu : MoT u) : MoT (tOr t u) := fun σ H Q Q' h q => ht σ H _ _ (fun c H1 q1 => by
  cases c with
  | true => exact h _ _ q1
  | false => exact hu σ H1 _ _ h q1) q
theorem mo_not {t : TT} (ht : MoT t) : MoT (tNot t) := fun σ H Q Q' h q => ht σ H _ _ (fun c H1 q1 => h _ _ q1) q
theorem mo_lt : MoR rLtU := fun x y H Q Q' h q => by
  rcases q.h with ⟨i, j, e1, e2, q⟩ | ⟨i, j, e1, e2, q⟩
  · exact ⟨.inl ⟨i, j, e1, e2, h _ _ q⟩⟩
  · exact ⟨.inr ⟨i, j, e1, e2, h _ _ q⟩⟩
theorem mo_le : MoR rLeU := fun x y H Q Q' h q => by
  rcases q.h with ⟨i, j, e1, e2, q⟩ | ⟨i, j, e1, e2, q⟩
  · exact ⟨.inl ⟨i, j, e1, e2, h _ _ q⟩⟩
  · exact ⟨.inr ⟨i, j, e1, e2, h _ _ q⟩⟩
theorem mo_gt : MoR rGt := fun x y H Q Q' h ⟨⟨i, j, e1, e2, q⟩⟩ => ⟨⟨i, j, e1, e2, h _ _ q⟩⟩
theorem mo_ge : MoR rGe := fun x y H Q Q' h ⟨⟨i, j, e1, e2, q⟩⟩ => ⟨⟨i, j, e1, e2, h _ _ q⟩⟩
theorem mo_eq {K : PySem.W.Frag} : MoR (rEqU K) := fun x y H Q Q' h q => by
  rcases q.h with ⟨e, q⟩ | ⟨d, e, h1, h2, h3, h4, q⟩
  · exact ⟨.inl ⟨e, h _ _ q⟩⟩
  · exact ⟨.inr ⟨d, e, h1, h2, h3, h4, h _ _ q⟩⟩
theorem mo_ne {K : PySem.W.Frag} : MoR (rNeU K) := fun x y H Q Q' h q => by
  rcases q.h with ⟨e, q⟩ | ⟨d, e, h1, h2, h3, h4, q⟩
  · exact ⟨.inl ⟨e, h _ _ q⟩⟩
  · exact ⟨.inr ⟨d, e, h1, h2, h3, h4, h _ _ q⟩⟩
theorem mo_ix {K : PySem.W.Frag} : MoR (rIxU K) := fun x y H Q Q' h q => by
  rcases q.h with ⟨p, xs, i, v, e1, e2, e3, e4, q⟩ | ⟨p, xs, i, v, e1, e2, e3, e4, q⟩ | ⟨z, i, c, e1, e2, e3, e4, q⟩
  · exact ⟨.inl ⟨p, xs, i, v, e1, e2, e3, e4, h _ _ q⟩⟩
  · exact ⟨.inr (.inl ⟨p, xs, i, v, e1, e2, e3, e4, h _ _ q⟩)⟩
  · exact ⟨.inr (.inr ⟨z, i, c, e1, e2, e3, e4, h _ _ q⟩)⟩
end Vf
end
section
set_option Elab.async false
set_option linter.all false
set_option maxRecDepth 100000
set_option maxHeartbeats 4000000
/-! Own layer: dict comprehensions; dicts and sequences of tuples. -/
namespace Vf
open PySem PySem.Spec PyProof.Rows L2 GxR GenW RZ
section
variable {K : PySem.W.Frag} {g : TG} {tt : TT} {tk tv : TE} {vs : List Nat} {σ : L2.St} {H1 : Hp} {D a : Addr} {Qd : Hp → Prop} {xs : List V}
theorem dc_tup (Pv : Nat → Hp → Prop) (h0 : Pv 0 (upd H1 D (.dK []))) (hl : ∀ i H, i ≤ xs.length → Pv i H → SqT K H a xs)
    (hs : ∀ i x H, xs[i]? = some x → Pv i H → g x (wipe σ vs) H fun σ2 H2 => wipe σ2 vs = wipe σ vs ∧ tt σ2 H2 fun b H3 =>
      if b = true then tk σ2 H3 fun y H4 => tv σ2 H4 fun z H5 => ∃ kvs k, y = kV k ∧ H5 D = some (.dK kvs) ∧ kvs.length < sizeLine ∧ Pv (i + 1) (upd H5 D (.dK (putK kvs k z))) else Pv (i + 1) H3) (hd : ∀ H, Pv xs.length H → Qd H) :
    ∃ W : Nat → Nat → Hp → Prop, (∃ m, W 0 m (upd H1 D (.dK []))) ∧ ∀ i m H, W i m H →
      ((Itt K a).stop i H ∧ Qd H) ∨ ((Itt K a).go i H ∧ ∃ Nx : Hp → Prop, (∀ H', Nx H' → ∃ m', m' < m ∧ W (i + 1) m' H') ∧ ∀ x H', (Itt K a).yld i H x H' → g x (wipe σ vs) H' fun σ2 H2 => wipe σ2 vs = wipe σ vs ∧ tt σ2 H2 fun b H3 =>
        if b = true then tk σ2 H3 fun y H4 => tv σ2 H4 fun z H5 => ∃ kvs k, y = kV k ∧ H5 D = some (.dK kvs) ∧ kvs.length < sizeLine ∧ Nx (upd H5 D (.dK (putK kvs k z))) else Nx H3) := by
  refine ⟨fun i m H => m = xs.length - i ∧ i ≤ xs.length ∧ Pv i H, ⟨xs.length, by simp, Nat.zero_le _, h0⟩, ?_⟩
  rintro i m H ⟨rfl, hi, p⟩
  have q := hl i H hi p
  by_cases hlt : i < xs.length
  · refine .inr ⟨⟨xs, xs[i], q, by simp [hlt]⟩, Pv (i + 1), fun H' p' => ⟨xs.length - (i + 1), by omega, rfl, hlt, p'⟩, fun x H' y => ?_⟩
    obtain ⟨e, y⟩ := y
    subst e
    exact hs i x _ (y xs q) p
  · have e : i = xs.length := by omega
    subst e
    exact .inl ⟨⟨xs, q, Nat.le_refl _⟩, hd H p⟩
end
/-! ### dicts of tuples, sequences of tuples -/
section
variable {α : Type}
/-- the dict's items are the things F, by their keys -/
def KB (K : PySem.W.Frag) (key : α → Str) (val : α → List V) (H : Hp) (kvs : List (Key × V)) (F : List α) : Prop := kvs.length = F.length ∧ ∀ (j : Nat) (a : α), F[j]? = some a → ∃ t : Addr, kvs[j]? = some ((Sum.inr (key a) : Key), V.ref t) ∧ SqT K H t (val a)
/-- the sequence's items are the things F -/
def RB (K : PySem.W.Frag) (val : α → List V) (H : Hp) (xs : List V) (F : List α) : Prop := xs.length = F.length ∧ ∀ (j : Nat) (a : α), F[j]? = some a → ∃ t : Addr, xs[j]? = some (V.ref t) ∧ SqT K H t (val a)
variable {K : PySem.W.Frag} {key : α → Str} {val : α → List V} {H H' : Hp} {kvs : List (Key × V)} {F : List α} {xs : List V}
theorem KB.nil : KB K key val H [] [] := ⟨rfl, fun j a e => by simp at e⟩
theorem KB.mono (h : KB K key val H kvs F) (g : ∀ t ys, SqT K H t ys → SqT K H' t ys) : KB K key val H' kvs F := ⟨h.1, fun j a e => by
  obtain ⟨t, e1, e2⟩ := h.2 j a e
  exact ⟨t, e1, g _ _ e2⟩⟩
theorem KB.gr (h : KB K key val H kvs F) (g : Gr H H') : KB K key val H' kvs F := h.mono fun _ _ q => g.seqT q
theorem KB.snoc {t : Addr} {a : α} (h : KB K key val H kvs F) (ht : SqT K H t (val a)) : KB K key val H (kvs ++ [((Sum.inr (key a) : Key), V.ref t)]) (F ++ [a]) := by
  refine ⟨by rw [List.length_append, List.length_append, h.1]; rfl, fun j b e => ?_⟩
  by_cases hj : j < F.length
  · rw [List.getElem?_append_left hj] at e
    obtain ⟨t, e1, e2⟩ := h.2 j b e
    exact ⟨t, by rw [List.getElem?_append_left (by rw [h.1]; exact hj)]; exact e1, e2⟩
  · have je : j = F.length := by
      have := (List.getElem?_eq_some_iff.mp e).1
      rw [List.length_append, List.length_singleton] at this
      omega
    subst je
    rw [List.getElem?_append_right (Nat.le_refl _), Nat.sub_self] at e
    cases e
    exact ⟨t, by rw [List.getElem?_append_right (by rw [h.1]; exact Nat.le_refl _), h.1, Nat.sub_self]; rfl, ht⟩
theorem KB.keys (h : KB K key val H kvs F) : kvs.map (·.1) = (F.map key).map (fun x => (Sum.inr x : Key)) := by
  refine List.ext_getElem? fun j => ?_
  rw [List.getElem?_map, List.getElem?_map, List.getElem?_map]
  cases e : F[j]? with
  | none =>
    have hn : kvs[j]? = none := by
      rw [List.getElem?_eq_none_iff, h.1]
      exact List.getElem?_eq_none_iff.mp e
    rw [hn]; rfl
  | some a =>
    obtain ⟨t, e1, _⟩ := h.2 j a e
    rw [e1]; rfl
theorem valV_at {kvs : List (Key × V)} {k : Key} {v : V} : ∀ {j : Nat}, kvs[j]? = some (k, v) → (∀ i, i < j → ∀ p, kvs[i]? = some p → p.1 ≠ k) → valV kvs k = some v := by
  induction kvs with
  | nil => intro j h; simp at h
  | cons p kvs ih =>
    intro j h hn
    cases j with
    | zero =>
      cases h
      exact valV_pos rfl
    | succ j =>
      rw [valV_neg (hn 0 (Nat.succ_pos j) p rfl)]
      exact ih h fun i hi q hq => hn (i + 1) (by omega) q hq
theorem nodup_at {β : Type} : ∀ {l : List β}, l.Nodup → ∀ {i j : Nat} {x : β}, l[i]? = some x → l[j]? = some x → i = j
  | [], _, i, j, x, h, _ => by simp at h
  | a :: l, nd, i, j, x, h1, h2 => by
    have nd2 := List.nodup_cons.mp nd
    cases i with
    | zero =>
      cases h1
      cases j with
      | zero => rfl
      | succ j => exact absurd (List.mem_of_getElem? (show l[j]? = some a from h2)) nd2.1
    | succ i =>
      cases j with
      | zero =>
        cases h2
        exact absurd (List.mem_of_getElem? (show l[i]? = some a from h1)) nd2.1
      | succ j => rw [nodup_at nd2.2 (show l[i]? = some x from h1) (show l[j]? = some x from h2)]
theorem KB.get (h : KB K key val H kvs F) (nd : (F.map key).Nodup) {a : α} (ha : a ∈ F) : ∃ t : Addr, valV kvs (Sum.inr (key a) : Key) = some (V.ref t) ∧ SqT K H t (val a) := by
  obtain ⟨j, hj⟩ := List.getElem?_of_mem ha
  obtain ⟨t, e1, e2⟩ := h.2 j a hj
  refine ⟨t, valV_at e1 fun i hi p hp => ?_, e2⟩
  have il : i < F.length := by
    have := (List.getElem?_eq_some_iff.mp hj).1
    omega
  obtain ⟨t2, e3, _⟩ := h.2 i F[i] (List.getElem?_eq_getElem il)
  rw [e3] at hp
  cases hp
  intro z
  have q := Sum.inr.inj z
  have q1 : (F.map key)[i]? = some (key a) := by rw [List.getElem?_map, List.getElem?_eq_getElem il]; exact congrArg some q
  have q2 : (F.map key)[j]? = some (key a) := by rw [List.getElem?_map, hj]; rfl
  have := nodup_at nd q1 q2
  omega
theorem putK_new {kvs : List (Key × V)} {k : Key} {v : V} (h : valV kvs k = none) : putK kvs k v = kvs ++ [(k, v)] := by
  unfold putK
  rw [valV_any, h]
  rfl
theorem KB.none (h : KB K key val H kvs F) {x : Str} (hx : ∀ a ∈ F, key a ≠ x) : valV kvs (Sum.inr x : Key) = Option.none := by
  unfold valV
  rw [List.find?_eq_none.mpr ?_]
  · rfl
  · intro p hp
    obtain ⟨j, hj⟩ := List.getElem?_of_mem hp
    have jl : j < F.length := by rw [← h.1]; exact (List.getElem?_eq_some_iff.mp hj).1
    obtain ⟨t, e1, _⟩ := h.2 j F[j] (List.getElem?_eq_getElem jl)
    rw [hj] at e1
    cases e1
    have n := hx F[j] (List.getElem_mem jl)
    simp only [decide_eq_true_eq]
    exact fun z => n (Sum.inr.inj z)
theorem RB.nil : RB K val H [] [] := ⟨rfl, fun j a e => by simp at e⟩
theorem RB.mono (h : RB K val H xs F) (g : ∀ t ys, SqT K H t ys → SqT K H' t ys) : RB K val H' xs F := ⟨h.1, fun j a e => by
  obtain ⟨t, e1, e2⟩ := h.2 j a e
  exact ⟨t, e1, g _ _ e2⟩⟩
theorem RB.gr (h : RB K val H xs F) (g : Gr H H') : RB K val H' xs F := h.mono fun _ _ q => g.seqT q
theorem RB.snoc {t : Addr} {a : α} (h : RB K val H xs F) (ht : SqT K H t (val a)) : RB K val H (xs ++ [V.ref t]) (F ++ [a]) := by
  refine ⟨by rw [List.length_append, List.length_append, h.1]; rfl, fun j b e => ?_⟩
  by_cases hj : j < F.length
  · rw [List.getElem?_append_left hj] at e
    obtain ⟨t, e1, e2⟩ := h.2 j b e
    exact ⟨t, by rw [List.getElem?_append_left (by rw [h.1]; exact hj)]; exact e1, e2⟩
  · have je : j = F.length := by
      have := (List.getElem?_eq_some_iff.mp e).1
      rw [List.length_append, List.length_singleton] at this
      omega
    subst je
    rw [List.getElem?_append_right (Nat.le_refl _), Nat.sub_self] at e
    cases e
    exact ⟨t, by rw [List.getElem?_append_right (by rw [h.1]; exact Nat.le_refl _), h.1, Nat.sub_self]; rfl, ht⟩
theorem RB.at_ (h : RB K val H xs F) {i : Nat} {x : V} (hx : xs[i]? = some x) : ∃ (a : α) (t : Addr), F[i]? = some a ∧ x = .ref t ∧ SqT K H t (val a) := by
  have il : i < F.length := by rw [← h.1]; exact (List.getElem?_eq_some_iff.mp hx).1
  obtain ⟨t, e1, e2⟩ := h.2 i F[i] (List.getElem?_eq_getElem il)
  rw [hx] at e1
  exact ⟨F[i], t, List.getElem?_eq_getElem il, Option.some.inj e1, e2⟩
theorem RB.mem (h : RB K val H xs F) {x : V} (hx : x ∈ xs) : ∃ (a : α) (t : Addr), a ∈ F ∧ x = .ref t ∧ SqT K H t (val a) := by
  obtain ⟨i, hi⟩ := List.getElem?_of_mem hx
  obtain ⟨a, t, e, r⟩ := h.at_ hi
  exact ⟨a, t, List.mem_of_getElem? e, r⟩
end
end Vf
end
section
set_option Elab.async false
set_option linter.all false
set_option maxRecDepth 100000
set_option maxHeartbeats 4000000
/-! Own exceptions as values: made, asked what they are, their fields read. -/
namespace Vf
open PySem PySem.Spec PyProof.Rows L2 GxR GenW RZ
theorem kin_classO {prog : Program} {w : World} {A : Around} {E : Value → Shared → Prop} {s : Shared} {K : PySem.W.Frag} {x D : Addr} {ox : Obj} {od : Option Obj} {Q : Option Value → Shared → Prop} (hga : PySem.W.findIn K (.ref D) "__getattribute__" = some (some (.builtin "BaseException.__getattribute__"))) (hgt : PySem.W.findIn K (.ref D) "__getattr__" = some none) (hsub : PySem.W.subIn K (.ref D) (.type "BaseException") = some true)
    (hf : PySem.W.findObj K D od "__class__" = some (.bind (.builtin "getset_descriptor.__get__") (.builtin "object.__class__"))) (hm : PySem.W.mroIn K D (.type "object") = some true)
    (X : K.In s.heap) (I : PySem.W.InstAt s.heap x ox D od) (h : Q (some (.ref D)) { s with toks := s.toks + 1 }) : wpAny (model prog w) A (getAttr? (.ref x) "__class__") Q E s := by
  obtain ⟨hp, g, d, t, os⟩ := s
  have L0 := I.type (M := model prog w)
  have L1 := PySem.W.looks_findIn (M := model prog w) X hga
  have L2 := PySem.W.looks_findIn (M := model prog w) X hgt
  have L3 := PySem.W.looks_find (M := model prog w) X I hf
  have sub : PySem.W.Looks (model prog w) hp (isInstance (.ref x) (.type "BaseException")) true := L0.andThen (PySem.W.looks_subIn X hsub)
  have hx0 : (false && onTheHeap (Value.builtin "BaseException.__getattribute__")) = false := rfl
  have hx2 : (Value.builtin "BaseException.__getattribute__" == Value.builtin "object.__getattribute__") = false := by decide +kernel
  have hx1 : (onTheHeap (Value.ref D) && Value.builtin "BaseException.__getattribute__" == Value.builtin "object.__getattribute__") = false := by rw [hx2]; rfl
  unfold getAttr? getAttrBy? getAttrBy
  refine wpAny_bind (wpAny_mkText (wpAny_bind (wpAny_attempt (wpAny_holding (wpAny_bind (L0.at (wpAny_bind (L1.at ?_))))))))
  show wpAny _ _ (if (onTheHeap (Value.ref D) && Value.builtin "BaseException.__getattribute__" == Value.builtin "object.__getattribute__") = true then _ else _) _ _ _
  rw [hx1, if_neg Bool.false_ne_true]
  unfold getAttrByItsOwn hookBefore
  refine wpAny_bind ?_
  rw [if_pos (show onTheHeap (Value.ref D) = true from rfl)]
  refine L2.at ?_
  refine wpAny_bind (wpAny_attempt (wpAny_holding ?_))
  unfold callGetattribute
  rw [hx0, if_neg Bool.false_ne_true]
  unfold boundAndCalled
  rw [PySem.F.excAttr_ValueError.ga.bind (.ref x)]
  refine wpAny_bind (wpAny_pure ?_)
  show wpAny _ _ (call (.builtin "BaseException.__getattribute__") [.ref x, .str "__class__" t]) _ _ _
  refine wpAny_call (codeAny_call_builtin PySem.F.excAttr_ValueError.ga.plain PySem.F.entry_bexc_ga ?_)
  refine @PySem.W.check_slot (model prog w) _ _ ⟨hp, g, d, t + 1, os⟩ "BaseException.__getattribute__" "BaseException" "__getattribute__" (.ref x) [.str "__class__" t] [] _ (by decide +kernel) (by decide +kernel) sub (PySem.F.args_bexc_ga (.ref x) (.str "__class__" t)) ?_
  unfold Builtin.«object.__getattribute__»
  refine wpAny_bind (wpAny_of_eq (a := ((Value.ref x : Value), [Value.str "__class__" t])) (by first | rfl | (simp only [slotArgs]; rfl)) ?_)
  refine wpAny_bind (wpAny_pure (wpAny_bind (L0.at (wpAny_bind (L3.at ?_)))))
  show wpAny _ _ (holding [Value.builtin "object.__class__"] (call (.builtin "getset_descriptor.__get__") [.builtin "object.__class__", .ref x, .ref D]) >>= ret) _ _ _
  refine wpAny_bind (wpAny_holding (wpAny_call (PySem.W.class_get (s := ⟨hp, g, d, t + 1, os⟩) (ox := ox) (od := od) X I hm ?_)))
  refine wpAny_pure ?_
  show wpAny _ _ (handedOut (.ref D)) _ _ _
  rw [PySem.W.handedOut_of (v := .ref D) rfl]
  first
    | exact wpAny_pure (wpAny_pure h)
    | exact wpAny_pure h
    | exact wpAny_pure (wpAny_bind (wpAny_pure (wpAny_pure h)))
theorem ExcC.find {K : PySem.W.Frag} {D : Addr} (c : ExcC K D) (od : Option Obj) : PySem.W.findObj K D od "__class__" = some (.bind (.builtin "getset_descriptor.__get__") (.builtin "object.__class__")) := by
  have hc : (PySem.W.clsIn K D).isSome = true := by
    have h := c.hd
    obtain ⟨cd, hcd, _⟩ := PySem.W.any_some h
    rw [hcd]; rfl
  cases od with
  | none => exact PySem.W.findObj_dataN hc c.ha c.hn c.ht
  | some o => exact PySem.W.findObj_data hc c.ha c.hn c.ht
theorem kitx_excO {K : PySem.W.Frag} {D x : Addr} {ox : Obj} {od : Option Obj} (c : ExcC K D) : PySem.W.KitX K (.ref x) (.ref D) (fun h => PySem.W.InstAt h x ox D od) where
  ty := fun _ _ _ I => I.type
  it := fun _ _ X _ => by
    obtain ⟨cdD, hcD, _⟩ := PySem.W.any_some c.hd
    unfold PySem.W.clsIn at hcD
    split at hcD
    · rename_i c' d' cd' sl' ho
      intro A' Q' E' s' k q
      unfold isType loadHead
      exact wpAny_bind (wpAny_loadPart (k _ _ (X _ _ ho)) (wpAny_pure q))
    · cases hcD
  ne := fun h tp dd its n sl X htp => by
    obtain ⟨cdD, hcD, _⟩ := PySem.W.any_some c.hd
    refine Bool.eq_false_iff.mpr fun q => ?_
    have e : D = tp := Value.ref.inj (beq_iff_eq.mp q)
    subst e
    unfold PySem.W.clsIn at hcD
    split at hcD
    · rename_i c' d' cd' sl' ho
      have z := (X _ _ ho).symm.trans htp
      cases z
    · cases hcD
  ca := fun X I k => kin_classO c.hg c.hk c.hs (ExcC.find c od) c.hm X I k
/-- at a: an exception object of the class at C -/
def IsEx (H : Hp) (a C : Addr) : Prop := H a = some (ExO (.ref C) a) ∨ ∃ d fs, H a = some (exo a C (some d)) ∧ H d = some (exd d fs)
section
variable {X : Cx}
structure rIsX (K : PySem.W.Frag) (xs : List V) (H : Hp) (Q : VK) : Prop where
  h : ∃ (a C : Addr) (c : V) (cv : Value) (b : Bool), xs = [.ref a, c] ∧ IsEx H a C ∧ ExcC K C ∧ ClsV c cv ∧ PySem.W.kitOne K (.ref C) cv = some b ∧ Q (.bl b) H
theorem call_isX {K : PySem.W.Frag} (hK : X.K = K) : CallR X (.builtin "isinstance") (rIsX K) := by
  subst hK
  intro pins s σ H xs us Q I r h
  obtain ⟨a, C, c, cv, b, rfl, hx, ec, kc, e, q⟩ := h.h
  obtain ⟨u1, u2, rfl, r1, r2⟩ := vals2 r
  have e2 := kc.eq r2
  subst e2
  cases r1
  have fin : ∀ (ox : Obj) (od : Option Obj), PySem.W.InstAt s.heap a ox C od → wpAny (model X.prog X.w) X.A (call (.builtin "isinstance") [.ref a, u2]) (EP X pins σ Q) X.xe s := fun ox od J =>
    PySem.W.kia_one (kitx_excO ec) I.kIn J e (fun z => nomatch z) fun tk => ⟨.bl b, H, I.tok tk, rfl, q⟩
  rcases hx with hx | ⟨d, fs, h1, h2⟩
  · obtain ⟨⟨oe, vs, ho, ⟨z1, z2⟩, hd, _⟩, _, _⟩ := I.hok a _ hx
    obtain ⟨oc, od, oda, osl⟩ := oe
    dsimp only at z1 z2 hd
    subst z1 z2 hd
    exact fin _ none ⟨ho, rfl, rfl, trivial⟩
  · obtain ⟨t1, ho⟩ := exo_at I.hok h1
    obtain ⟨mA, ⟨oD, es, ep, hoD, _⟩, _⟩ := exd_at I.hok h2
    exact fin _ (some oD) ⟨ho, rfl, rfl, hoD⟩
/-- e.f, e an exception that is held as a value -/
structure rFld (K : PySem.W.Frag) (f : Str) (x : V) (H : Hp) (Q : VK) : Prop where
  h : ∃ (a C d : Addr) (fs : List (Str × V)) (v : V), x = .ref a ∧ XfC K C ∧ PySem.W.findIn K (.ref C) f = some none ∧ H a = some (exo a C (some d)) ∧ H d = some (exd d fs) ∧ fs.lookup f = some v ∧ Q v H
theorem pe_fldX {K : PySem.W.Frag} {e : Expr} {te : TE} {pos : Pos} {n : Str} (hK : X.K = K) (he : PE X e te) (hb : attributeBase e n X.env (eval e X.env) = eval e X.env := by rfl) :
    PE X (.Attribute e n pos) (fun σ H Q => te σ H fun x H1 => rFld K n x H1 Q) := by
  subst hK
  refine ⟨fun pins s σ H Q I h => ?_⟩
  refine attr_of hb (thn (he.run pins s σ H _ I h) fun u s1 hh => ?_)
  obtain ⟨x, H1, I1, rx, q⟩ := hh
  obtain ⟨a, C, d, fs, v, rfl, T, hno, h1, h2, l, q⟩ := q.h
  cases rx
  obtain ⟨t1, ho⟩ := exo_at I1.hok h1
  obtain ⟨mA, hns, hr⟩ := exd_at I1.hok h2
  obtain ⟨od, hod, hl⟩ := lookIn_ns hns
  obtain ⟨u, hu, ru⟩ := RelO.some_of (v := v) (o := mA n) (by rw [← l]; exact hr n)
  have J : PySem.W.InstAt s1.heap a _ C (some od) := ⟨ho, rfl, rfl, hod⟩
  exact HandSPX.exc_get I1.kIn J T.ga T.gg T.exC (PySem.W.findObj_own T.hdC hno rfl (by rw [hl, hu])) (handed_of ru) ⟨v, H1, I1.tok _, ru, q⟩
/-- C(e, ..), C's own __init__ keeping sp, held as a value -/
def tMkV (C : Addr) (sp : Sp) (ta : TA) : TE := fun σ H Q => ta σ H fun vs H1 => vs.length ≤ 1000 ∧ ∀ a, H1 a = none → sp (.ref a :: vs) (upd H1 a (exo a C none)) (fun v H2 => v = .non ∧ Q (.ref a) H2) (fun _ _ _ => False)
structure DfI (P : Program) (w : World) (K : PySem.W.Frag) (mg : Str → Option Value) (base : Heap) (x : Str) (C : Addr) (k : Nat) (ps : List Str) (sp : Sp) : Prop where
  ex : ∃ (fI : Addr) (fd : FuncData), OexC K C ∧ mg x = some (.ref C) ∧ PySem.W.findIn K (.ref C) "__init__" = some (some (.ref fI)) ∧ PySem.W.typeIn K (.ref fI) = some (.type "function") ∧ FnOk P w K mg base CX0 k fI fd ps sp ∧ Binds K fd ps []
theorem pe_mkV {x : Str} {C : Addr} {k : Nat} {ps : List Str} {sp : Sp} {e : Expr} {es : List Expr} {ta : TA} {p pos : Pos} {j : Nat} (D : DfI X.prog X.w X.K X.mg X.base x C k ps sp) (hr : Room j X.A) (hj : k + 1 ≤ j) (hg : Gl X x) (ha : PA X (e :: es) ta)
    (hdb : (x == ("__debug__" : Str)) = false := by decide) (he : starEach (e :: es) X.env = (false, eval e X.env) :: starEach es X.env := by rfl) (hpl : (backTo pos (starEach es X.env)).any (·.1) = false := by rfl) :
    PE X (.Call (.Name x p) (e :: es) [] pos) (tMkV C sp ta) := by
  obtain ⟨fI, fd, T, hm, iC, tI, F1, hb⟩ := D.ex
  have hr := hr.mono hj
  refine ⟨fun pins s σ H Q I h => ?_⟩
  obtain ⟨nm, q, N, bs, bm, sn, sub, ab, col, dd, k0, k1, k2, k3, k5, hC, hbm⟩ := T.cls
  refine wpAny_Call_Name_kw (ld_glob I hg hm ?_ hdb)
  refine PySem.W.callWith_K (h₀ := X.base) I.ok.mod.kin T.kC (thn (ha.run pos pins s σ H _ I h) fun us s1 ⟨vs, H1, I1, r1, hz, q1⟩ => ⟨I1.kIn, ?_⟩) he hpl
  show wpAny _ _ (call (.ref C) us) _ _ _
  obtain ⟨hp, g, dr, tk, os⟩ := s1
  have hsz : hp.objs.size ≤ hp.objs.size + 1 := Nat.le_succ _
  have hn : H1 (hp.objs.size + 1) = none := I1.hok.fresh hsz
  have hq := q1 (hp.objs.size + 1) hn
  have kk : ∀ b o, hp.get? b = some o → ((hp.push (PySem.W.kdv_tup us)).push (PySem.HandSPX.excO C hp.objs.size)).get? b = some o := fun b o e => Heap.get?_push_of_some _ (Heap.get?_push_of_some _ e)
  have hget : ((hp.push (PySem.W.kdv_tup us)).push (PySem.HandSPX.excO C hp.objs.size)).get? (hp.objs.size + 1) = some (PySem.HandSPX.excO C hp.objs.size) := by heap_get
  have I2 : Inv X pins σ (upd H1 (hp.objs.size + 1) (exo (hp.objs.size + 1) C none)) ⟨(hp.push (PySem.W.kdv_tup us)).push (PySem.HandSPX.excO C hp.objs.size), g, dr, tk, os⟩ :=
    I1.laid (t' := tk) (a := hp.objs.size + 1) (o := exo (hp.objs.size + 1) C none) (h' := (hp.push (PySem.W.kdv_tup us)).push (PySem.HandSPX.excO C hp.objs.size)) kk hsz (exo_ok hget)
  have r2 : Vals (V.ref (hp.objs.size + 1) :: vs) (Value.ref (hp.objs.size + 1) :: us) := .cons rfl r1
  have hl : (Value.ref (hp.objs.size + 1) :: us).length = ps.length := by
    have e := r2.length
    rw [F1.len _ _ _ _ hq] at e
    exact e.symm
  have hus : us.length ≤ sizeLine := by
    rw [← Paired.length r1, sizeLine_eq]
    omega
  have hb' := hb _ (Value.ref (hp.objs.size + 1) :: us) I2.kIn (by rw [List.append_nil]; exact hl)
  rw [List.append_nil] at hb'
  refine wpAny_call (PySem.HandSPX.call_own F.excBase_ValueError (fun Y => PySem.HandSPX.refsVE_contains Y bm hbm) (I1.kIn _ _ hC) (PySem.W.looks_findIn I1.kIn iC) (fun self => PySem.W.bind_fn I1.kIn self tI) hus
    (codeAny_mono (F1.run _ X.stack _ _ ⟨Value.ref (hp.objs.size + 1) :: us, []⟩ (Value.ref (hp.objs.size + 1) :: us) _ _ (fun _ _ _ => False) (hr.make C us []) (I2.env0.make C us []) hb' r2 hq) fun r s' hq' => ?_))
  cases r with
  | error er => exact hq'.elim
  | ok fl =>
    cases fl with
    | ret u =>
      obtain ⟨v, H2, J, rv, ev, q2⟩ := I2.after hq'
      subst ev
      exact ⟨rv, V.ref (hp.objs.size + 1), H2, J, rfl, q2⟩
    | next => exact False.elim hq'
    | brk => exact False.elim hq'
    | cont => exact False.elim hq'
/-- C(e), C without own __init__, held as a value -/
structure DfX (K : PySem.W.Frag) (mg : Str → Option Value) (x : Str) (C : Addr) : Prop where
  m : mg x = some (.ref C)
  x : PySem.W.excIn K C [.type "ValueError", .type "Exception", .type "BaseException", .type "object"] "ValueError.__new__" = true
  k : PySem.W.keepIn K (.ref C) = true
theorem pe_mkX {x : Str} {C : Addr} {e : Expr} {ta : TE} {p pos : Pos} (D : DfX X.K X.mg x C) (hg : Gl X x) (he : PE X e ta) (hs : starEach [e] X.env = (false, eval e X.env) :: starEach [] X.env := by rfl) (hdb : (x == ("__debug__" : Str)) = false := by decide) :
    PE X (.Call (.Name x p) [e] [] pos) (fun σ H Q => ta σ H fun _ H1 => ∀ a, H1 a = none → Q (.ref a) (upd H1 a (ExO (.ref C) a))) :=
  pe_exc1 F.excBase_ValueError D.x D.m D.k hg he hs hdb
theorem k_unl {K : PySem.W.Frag} {es : List Expr} {k : Nat} {t : TGs} {pos : Pos} (n : Nat) (hK : X.K = K) (hc : X.calm = true) (h : PGs X es t)
    (hn : (assignEach es X.env).length = n := by rfl) (hst : (assignEach es X.env).findIdx? (·.1) = none := by rfl) : PG X (.Tuple es k pos) (gUnl K n t) := by
  subst hK
  exact pg_unl hc h hn hst
end
/-- what the class says, as one Bool -/
def oexB (K : PySem.W.Frag) (C : Addr) : Bool := (match K.lookup C with
  | some ⟨.type "type", _, .cls cd, sl⟩ => (match cd.mro, sl.toList with
    | .ref C' :: bm, [_, _, _, _, some (.builtin n), _] => decide (C' = C) && decide (n = "ValueError.__new__") && cd.hasDict && !cd.hasDel && PySem.HandSPX.refsVE bm
    | _, _ => false)
  | _ => false) && decide (PySem.W.findIn K (.ref C) "__setattr__" = some (some (.builtin "object.__setattr__"))) && decide (PySem.W.subIn K (.ref C) (.type "BaseException") = some true) && decide (PySem.W.typeIn K (.ref C) = some (.type "type")) && PySem.W.keepIn K (.ref C)
theorem oexB_ok {K : PySem.W.Frag} {C : Addr} (h : oexB K C = true) : OexC K C := by
  unfold oexB at h
  simp only [Bool.and_eq_true, decide_eq_true_eq] at h
  obtain ⟨⟨⟨⟨h1, h2⟩, h3⟩, h4⟩, h5⟩ := h
  refine ⟨?_, h2, h3, h4, h5⟩
  split at h1
  · rename_i dd cd sl ho
    split at h1
    · rename_i C' bm k0 k1 k2 k3 n k5 hm hs
      simp only [Bool.and_eq_true, decide_eq_true_eq, Bool.not_eq_true'] at h1
      obtain ⟨⟨⟨⟨e1, e2⟩, hd⟩, hdel⟩, hr⟩ := h1
      subst e1 e2
      obtain ⟨nm, bs, mro, ns, qn, hdct, sn, sub, ab, col, del⟩ := cd
      dsimp only at hm hd hdel
      subst hm hd hdel
      have hsl : sl = #[k0, k1, k2, k3, some (.builtin "ValueError.__new__"), k5] := by
        obtain ⟨l⟩ := sl
        simp only at hs
        rw [hs]
      subst hsl
      exact ⟨nm, qn, ns, bs, bm, sn, sub, ab, col, dd, k0, k1, k2, k3, k5, ho, hr⟩
    · cases h1
  · cases h1
def excCB (K : PySem.W.Frag) (D : Addr) : Bool := decide (PySem.W.findIn K (.ref D) "__getattribute__" = some (some (.builtin "BaseException.__getattribute__"))) && decide (PySem.W.findIn K (.ref D) "__getattr__" = some none) && decide (PySem.W.subIn K (.ref D) (.type "BaseException") = some true) && PySem.W.hasDictIn K D &&
  decide (PySem.W.findIn K (.ref D) "__class__" = some (some (.builtin "object.__class__"))) && decide (PySem.W.specialIn K (.builtin "object.__class__") "__get__" = some (some (.builtin "getset_descriptor.__get__"))) && decide (PySem.W.takesIn K (.builtin "object.__class__") = some true) && decide (PySem.W.mroIn K D (.type "object") = some true)
theorem excCB_ok {K : PySem.W.Frag} {D : Addr} (h : excCB K D = true) : ExcC K D := by
  unfold excCB at h
  simp only [Bool.and_eq_true, decide_eq_true_eq] at h
  obtain ⟨⟨⟨⟨⟨⟨⟨h1, h2⟩, h3⟩, h4⟩, h5⟩, h6⟩, h7⟩, h8⟩ := h
  exact ⟨h1, h2, h3, h4, h5, h6, h7, h8⟩
theorem ExcC.xf {K : PySem.W.Frag} {D : Addr} (c : ExcC K D) : XfC K D := ⟨c.hg, c.hk, c.hs, c.hd⟩
end Vf
end
section
set_option Elab.async false
set_option linter.all false
set_option maxRecDepth 100000
set_option maxHeartbeats 4000000
/-! Own layer: defs that let exceptions out, by their promises; an exception that is caught and kept as a value. -/
namespace Vf
open PySem PySem.Spec PyProof.Rows L2 GxR GenW RZ
/-- at a: an exception that was caught; its class, its dict -/
def CxO (cls : Value) (d : Option Addr) (a : Addr) : HO := .ext fun h => ∃ (ob : Obj) (fv : Array Value), h.get? a = some ob ∧ Zc cls d ob ∧ ob.data = .fields fv
theorem cxO_ok {P : Program} {w : World} {H : Hp} {h : Heap} {a : Addr} {cls : Value} {d : Option Addr} {ob : Obj} {fv : Array Value} (h1 : h.get? a = some ob) (h2 : Zc cls d ob) (h3 : ob.data = .fields fv) : ObjOk P w H h a (CxO cls d a) :=
  ⟨⟨ob, fv, h1, h2, h3⟩, ⟨ob, h1⟩, fun _ _ ⟨x, y, z1, z2⟩ k => ⟨x, y, k x z1, z2⟩⟩
/-- the clause's wish: the exception stays, as a value -/
def wKp (K : PySem.W.Frag) (c : Value) (i : Nat) (ts : Addr → TS) (Wo : WX) (D : L2.Ends) : WX := fun cls d σ H => ∃ b, PySem.W.exmOne K cls c = some b ∧ (b = false → Wo cls d σ H) ∧
  (b = true → ∀ a, H a = none → ts a ⟨fun τ G => D.nx (τ.set i none) G, D.rt, fun τ G => D.bk (τ.set i none) G, fun τ G => D.ct (τ.set i none) G⟩ (σ.set i (some (.ref a))) (upd H a (CxO cls d a)))
/-- into the clause's suite, nothing pinned -/
theorem Inv.toSuite {X : Cx} {pins : List (Addr × Obj)} {σ : L2.St} {H : Hp} {s : Shared} (I : Inv X pins σ H s) (a : Addr) : Inv (X.suite a (X.pn ++ pins)) [] σ H s where
  ok := I.ok.suite _ _
  os := I.os
  bare := I.bare
  base := I.base
  loc := I.loc
  cell := I.cell
  free := I.free
  freeC := I.freeC
  pin := fun p hp => I.pin p (by
    have q : p ∈ (X.pn ++ pins) ++ [] := hp
    rwa [List.append_nil] at q)
  hok := I.hok
  len := I.len
theorem Inv.ofSuite {X : Cx} {pins qs : List (Addr × Obj)} {σ : L2.St} {H : Hp} {s : Shared} {a : Addr} (I : Inv (X.suite a (X.pn ++ pins)) qs σ H s) (ok : X.Ok) : Inv X pins σ H s where
  ok := ok
  os := I.os
  bare := I.bare
  base := I.base
  loc := I.loc
  cell := I.cell
  free := I.free
  freeC := I.freeC
  pin := fun p hp => I.pin p (List.mem_append_left qs hp)
  hok := I.hok
  len := I.len
section
variable {X : Cx}
/-- the exception's object is tracked from now on -/
theorem Inv.caught {pins : List (Addr × Obj)} {σ : L2.St} {H : Hp} {sI s1 : Shared} {B : Heap} {a : Addr} {cls : Value} {d : Option Addr} {fr : List Env} (J : Inv X pins σ H sI)
    (nb : ∀ b o, sI.heap.get? b = some o → b ∉ frs X.stack → B.get? b = some o) (fl : HandSPX.FlyingZ B fr a (Zc cls d) s1.heap) (nf : a ∉ frs X.stack) (up : sI.heap.UpToSlots s1.heap) (os : s1.os = sI.os) (ag : AllBare s1.gens) (na : H a = none) :
    Inv X pins σ (upd H a (CxO cls d a)) s1 := by
  obtain ⟨keepB, Ba, _, _⟩ := id fl
  obtain ⟨ob, fv, ea, hz, hd⟩ := fl.there
  obtain ⟨G, in1, out1⟩ := restrict s1.heap fun b => decide (b ≠ a)
  have same : ∀ b, b ≠ a → G.get? b = s1.heap.get? b := fun b hb => in1 b (decide_eq_true hb)
  have gone : G.get? a = none := out1 a (decide_eq_false fun z => z rfl)
  have notI : sI.heap.get? a = none := by
    cases q : sI.heap.get? a with
    | none => rfl
    | some o =>
      have z := nb a o q nf
      rw [Ba] at z
      cases z
  have stG : B.StaysIn G := fun b o e => by
    have n : b ≠ a := fun z => by rw [z, Ba] at e; cases e
    rw [same b n]
    exact keepB b o e
  have upG : sI.heap.UpToSlots G := fun b o e hnf => by
    have n : b ≠ a := fun z => by rw [z, notI] at e; cases e
    rw [same b n]
    exact up b o e hnf
  have J1 : Inv X pins σ H { s1 with heap := G } := J.landed (s' := { s1 with heap := G }) nb stG upG os ag
  have J2 := J1.laidN (a := a) (o := CxO cls d a) (h' := s1.heap) (t' := s1.toks) (fun b o e => by
    have n : b ≠ a := fun z => by
      have e : G.get? b = some o := e
      rw [z, gone] at e
      cases e
    exact (same b n).symm.trans e) gone na (cxO_ok ea hz hd)
  exact J2
variable {x n : Str} {c : Value} {i : Nat} {body : List Stmt} {b0 : Stmt} {rest : List Stmt} {p1 p2 p3 : Pos} {tb : WX → TS} {ts : Addr → TS} {Wo : WX}
theorem ps_try_keep (hst : X.stack = X.env :: X.outer) (hfr : X.env.frame = some X.env.locals) (nd : X.N.Nodup) (hi : X.N[i]? = some n) (hl : X.env.kindOf n = some .local) (hc : Names X x c) (tk : Takes X Wo)
    (hb : ∀ (W : WX) (pn : List (Addr × Obj)) (xe : Value → Shared → Prop), Takes (X.tr pn xe) W → PassesOwn (model X.prog X.w) X.A X.env xe → PSs (X.tr pn xe) body (tb W))
    (hsu : ∀ (a : Addr) (pn : List (Addr × Obj)), PSs (X.suite a pn) (b0 :: rest) (ts a)) :
    PS X (.Try body [.ExceptHandler (some (.Name x p1)) (some n) (b0 :: rest) p2] [] [] p3) (fun D σ H => tb (wKp X.K c i ts Wo D) D σ H) := by
  refine ⟨fun pins s σ H D I h => ?_⟩
  have okX := I.ok
  have frames : X.A.frames = some (X.env :: X.outer) := okX.frames.trans (congrArg some hst)
  refine wpAny_Try_except ?_
  have inBody := (hb (wKp X.K c i ts Wo D) (X.pn ++ pins)
    (fun e s1 => wpAny (model X.prog X.w) X.A (noteFrame e X.env) (fun _ s2 => wpAny (model X.prog X.w) X.A (setFlight e none)
      (fun _ s3 => wpAny (model X.prog X.w) X.A (handleBy e X.env [.ExceptHandler (some (.Name x p1)) (some n) (b0 :: rest) p2]) (SP X pins D) X.xe s3) X.xe s2) X.xe s1)
    ?caught PassesOwn.looking).run [] s σ H D (I.toTry _) h
  case caught =>
    intro u s1 air
    obtain ⟨a, B, sI, ps, τ, G, cls, d, rfl, JT, nb, up1, sky, na, os, ag, b, hm, no, yes⟩ := air
    have J := JT.ofTry (pins := pins) okX
    have sky2 : Sky B (X.env :: X.outer) a (Zc cls d) X.env.locals s1.heap := hst ▸ sky
    refine Sky.land Zc.steady frames hfr sky2 fun h3 fl3 up3 => ?_
    have up13 := up1.trans up3
    obtain ⟨o3, f3, e3, z3, d3⟩ := fl3.there
    have nfr : a ∉ frs X.stack := fun z => by
      rw [hst] at z
      obtain ⟨_, o', e', q⟩ := fl3.2.2.1.mem z
      rw [e3] at e'
      cases e'
      exact q _ d3
    have J3 : Inv X pins τ G { s1 with heap := h3 } := J.landed nb fl3.1 up13 os ag
    refine wpAny_handleBy_cons (codeAny_handlers_test ?_) (fun q => nomatch q)
    have isC : PySem.W.Looks (model X.prog X.w) h3 (typeOf (.ref a)) cls := fun A Q E s k q => wpAny_typeOf_ref (k _ _ e3) (z3.1.symm ▸ q)
    have hits := PySem.W.exm_one (M := model X.prog X.w) J3.kIn isC hm
    have S3 := Vf.Inv.toSuite J3 a
    have named : ∀ {Q E : Value → Shared → Prop}, Q c { s1 with heap := h3 } → wpAny (model X.prog X.w) (X.A.mark (some (.ref a))) (eval (.Name x p1) X.env) Q E { s1 with heap := h3 } := fun {Q E} q => by
      obtain ⟨g1, g2, g3⟩ := hc
      rcases g3 with g3 | ⟨g3, g4, g5⟩
      · exact ld_glob (X := X.suite a (X.pn ++ pins)) S3 g1 g3 q g2
      · exact ld_blt (X := X.suite a (X.pn ++ pins)) S3 g1 g3 g4 q g5 g2
    refine named (hits.here ?_)
    cases b with
    | false =>
      refine wpAny_handleBy_nil ?_
      obtain ⟨_, _, _, o5, f5, T, oT, tv, e5, z5, d5, g1, _⟩ := id fl3
      have tid : ¬ (Value.ref T == Value.none) = true := by simp
      have onward : wpAny (model X.prog X.w) X.A (setFlight (.ref a) X.env.frame) (fun _ s4 => wpAny (model X.prog X.w) X.A (throw (.ref a) : Sem Flow) (SP X pins D) X.xe s4) X.xe { s1 with heap := h3 } := by
        rw [hfr]
        refine HandSPX.setFlight_upZ fl3 fun h4 held up4 => wpAny_throw (tk _ _ ⟨a, B, sI, pins, τ, G, cls, d, rfl, J, nb, up13.trans up4, .inr (.inr (hst.symm ▸ held)), na, os, ag, no rfl⟩)
      unfold PySem.passOn
      refine wpAny_bind (wpAny_field e5 d5 g1 ?_)
      rw [if_neg tid]
      first
        | exact wpAny_bind onward
        | exact wpAny_bind (wpAny_pure (wpAny_bind onward))
    | true =>
      refine codeAny_handlers_suite_as ?_
      refine HandSPX.lands_againZ fl3 fun h4 fl4 up4 => ?_
      have J4 : Inv X pins τ (upd G a (CxO cls d a)) { s1 with heap := h4 } := Vf.Inv.caught (s1 := { s1 with heap := h4 }) J nb fl4 nfr (up13.trans up4) os ag na
      have S4 := Vf.Inv.toSuite J4 a
      refine store_ok (X := X.suite a (X.pn ++ pins)) (v := .ref a) S4 nd hi (.inl hl) rfl (fun s5 S5 => ?_) (.inr hl)
      have inSuite := (hsu a (X.pn ++ pins)).run [] s5 _ _ _ S5 (yes rfl a na)
      refine wpAny_mono inSuite (fun f s6 w => ?_) fun _ _ z => z.elim
      have off : ∀ {τ6 : L2.St} {G6 : Hp} {R : Shared → Prop}, Inv (X.suite a (X.pn ++ pins)) [] τ6 G6 s6 → (∀ s7, Inv X pins (τ6.set i none) G6 s7 → R s7) → wpAny (model X.prog X.w) X.A (do bindName X.env n .none; unbindBehindTheSuite X.env n p2) (fun _ s7 => R s7) X.xe s6 :=
        fun S6 r => gone_ok (Vf.Inv.ofSuite S6 okX) nd hi hl r
      cases f with
      | ret u =>
        obtain ⟨v6, τ6, G6, S6, r6, w6⟩ := w
        exact off S6 fun s7 J7 => ⟨v6, _, _, J7, r6, w6⟩
      | next =>
        obtain ⟨τ6, G6, S6, w6⟩ := w
        exact off S6 fun s7 J7 => ⟨_, _, J7, w6⟩
      | cont =>
        obtain ⟨τ6, G6, S6, w6⟩ := w
        exact off S6 fun s7 J7 => ⟨_, _, J7, w6⟩
      | brk =>
        obtain ⟨τ6, G6, S6, w6⟩ := w
        exact off S6 fun s7 J7 => ⟨_, _, J7, w6⟩
  refine wpAny_mono inBody (fun f s1 w => ?_) fun e s1 z => z
  cases f with
  | ret u =>
    obtain ⟨v, τ, G, J, r, q⟩ := w
    exact ⟨v, τ, G, J.ofTry okX, r, q⟩
  | next =>
    obtain ⟨τ, G, J, q⟩ := w
    exact wpAny_execs_nil ⟨τ, G, J.ofTry okX, q⟩
  | cont =>
    obtain ⟨τ, G, J, q⟩ := w
    exact ⟨τ, G, J.ofTry okX, q⟩
  | brk =>
    obtain ⟨τ, G, J, q⟩ := w
    exact ⟨τ, G, J.ofTry okX, q⟩
end
end Vf
end
section
set_option Elab.async false
set_option linter.all false
set_option maxRecDepth 100000
set_option maxHeartbeats 4000000
/-! Own layer: defs and methods that let exceptions out, by their promises (Dx, Mx); raise of a class with its own __init__; what is known of a caught exception. -/
namespace Vf
open PySem PySem.Spec PyProof.Rows L2 GxR GenW RZ
structure Dx (P : Program) (w : World) (K : PySem.W.Frag) (mg : Str → Option Value) (base : Heap) (x : Str) (k : Nat) (ps : List Str) (sp : Sp) : Prop where
  ex : ∃ (f : Addr) (fd : FuncData), FnOk P w K mg base (L2.CX P w) k f fd ps sp ∧ mg x = some (.ref f) ∧ PySem.W.keepIn K (.ref f) = true ∧ Binds K fd ps []
structure Mx (P : Program) (w : World) (K : PySem.W.Frag) (mg : Str → Option Value) (base : Heap) (C : Addr) (m : Str) (k : Nat) (ps : List Str) (sp : Sp) : Prop where
  ex : ∃ (f : Addr) (fd : FuncData), FnOk P w K mg base (L2.CX P w) k f fd ps sp ∧ Meth K C m f ∧ Binds K fd ps []
section
variable {CX : CXT} {P : Program} {w : World} {K : PySem.W.Frag} {mg : Str → Option Value} {base : Heap} {k : Nat} {p : Str × Option Str} {x qual : Str} {params : Arguments} {body : List Stmt} {scope : Scope} {fd : FuncData} {N ps : List Str} {sp : Sp} {dvs : List PySem.Expr} {kws : List (Option PySem.Expr)}
end
section
variable {X : Cx} {W : WX} {E : XK} {j k : Nat} {x m : Str} {C : Addr} {ps : List Str} {sp : Sp} {p pos pos2 apos : Pos} {e o : Expr} {es : List Expr} {to : TE} {t : TA}
theorem pe_fnX (tk : Takes X W) (D : Dx X.prog X.w X.K X.mg X.base x k ps sp) (hr : Room j X.A) (hk : k ≤ j) (hg : Gl X x) (ha : PA X (e :: es) t) (hdb : (x == ("__debug__" : Str)) = false := by decide)
    (he : starEach (e :: es) X.env = (false, eval e X.env) :: starEach es X.env := by rfl) (hpl : (backTo pos (starEach es X.env)).any (·.1) = false := by rfl) : PE X (.Call (.Name x p) (e :: es) [] pos) (tCallS sp (WE W) t) := by
  obtain ⟨f, fd, F, hm, hkp, hb⟩ := D.ex
  exact pe_callS F (hr.mono hk) hg hm hkp hb (passAt tk) ha hdb he hpl
theorem pe_mtX {pl : Sem Bool} (tk : Takes X fun c d _ H => E c d H) (c : Cls X.K C) (D : Mx X.prog X.w X.K X.mg X.base C m k ps sp) (hr : Room j X.A) (hk : k ≤ j) (ho : PE X o to) (ha : PA X (e :: es) t)
    (hst : starEach (e :: es) X.env = (false, eval e X.env) :: starEach es X.env := by rfl) (hpl : (backTo pos (starEach es X.env)).any (·.1) = false := by rfl)
    (ht : eval (.Call (.Attribute o m apos) (e :: es) [] pos) X.env = (do
      let ov ← eval o X.env
      standAt apos.atName
      let (f, first) ← holding [ov] (getMethod ov m pl)
      callWith pos f first (backTo pos (starEach (e :: es) X.env)) (backToKw pos (keywordEach [] X.env))) := by rfl) :
    PE X (.Call (.Attribute o m apos) (e :: es) [] pos) (tMeth C m sp [] E to t) := by
  obtain ⟨f, fd, F, hm, hb⟩ := D.ex
  exact pe_meth (pl := pl) ho c hm F (hr.mono hk) hb .nil (passes_call tk fun _ _ _ _ h => h) ha hst hpl ht
theorem pe_mtX0 {pl : Sem Bool} (tk : Takes X fun c d _ H => E c d H) (c : Cls X.K C) (D : Mx X.prog X.w X.K X.mg X.base C m k ps sp) (hr : Room j X.A) (hk : k ≤ j) (ho : PE X o to)
    (ht : eval (.Call (.Attribute o m apos) [] [] pos) X.env = (do
      let ov ← eval o X.env
      standAt apos.atName
      let (f, first) ← holding [ov] (getMethod ov m pl)
      callWith pos f first (backTo pos (starEach [] X.env)) (backToKw pos (keywordEach [] X.env))) := by rfl) :
    PE X (.Call (.Attribute o m apos) [] [] pos) (tMeth C m sp [] E to tNil) := by
  obtain ⟨f, fd, F, hm, hb⟩ := D.ex
  exact pe_meth0 (pl := pl) ho c hm F (hr.mono hk) hb .nil (passes_call tk fun _ _ _ _ h => h) ht
/-- raise C(e, ..), C's own __init__ keeping sp -/
theorem ps_raiseI (hc : X.calm = true) (tk : Takes X W) (D : DfI X.prog X.w X.K X.mg X.base x C k ps sp) (hr : Room j X.A) (hj : k + 1 ≤ j) (hg : Gl X x) (ha : PA X (e :: es) t) (hdb : (x == ("__debug__" : Str)) = false := by decide)
    (he : starEach (e :: es) X.env = (false, eval e X.env) :: starEach es X.env := by rfl) (hpl : (backTo pos (starEach es X.env)).any (·.1) = false := by rfl) :
    PS X (.Raise (some (.Call (.Name x p) (e :: es) [] pos)) none pos2) (fun _ σ H => tMkO C sp [] t σ H fun cls d H' => W cls d σ H') := by
  obtain ⟨fI, fd, T, hm, iC, tI, F1, hb⟩ := D.ex
  exact ps_raise hc tk (pmk_oex T iC tI F1 (hr.mono hj) hb .nil pass0 hg hm ha hdb he hpl)
/-! ### a caught exception -/
structure rIsC (K : PySem.W.Frag) (xs : List V) (H : Hp) (Q : VK) : Prop where
  h : ∃ (a D dd : Addr) (fs : List (Str × V)) (c : V) (cv : Value) (b : Bool), xs = [.ref a, c] ∧ H a = some (CxO (.ref D) (some dd) a) ∧ H dd = some (.xd fs) ∧ ExcC K D ∧ ClsV c cv ∧ PySem.W.kitOne K (.ref D) cv = some b ∧ Q (.bl b) H
theorem caught_at {P : Program} {w : World} {H : Hp} {h : Heap} {a : Addr} {cls : Value} {d : Option Addr} (hok : HOk P w H h) (e : H a = some (CxO cls d a)) : ∃ (ob : Obj) (fv : Array Value), h.get? a = some ob ∧ Zc cls d ob ∧ ob.data = .fields fv := by
  obtain ⟨z, _, _⟩ := hok a _ e
  exact z
theorem call_isC {K : PySem.W.Frag} (hK : X.K = K) : CallR X (.builtin "isinstance") (rIsC K) := by
  subst hK
  intro pins s σ H xs us Q I r h
  obtain ⟨a, D, dd, fs, c, cv, b, rfl, hx, hd, ec, kc, e, q⟩ := h.h
  obtain ⟨u1, u2, rfl, r1, r2⟩ := vals2 r
  have e2 := kc.eq r2
  subst e2
  cases r1
  obtain ⟨ob, fv, ho, ⟨z1, z2⟩, hf⟩ := caught_at I.hok hx
  have ox : ObjOk X.prog X.w H s.heap dd (.xd fs) := I.hok dd _ hd
  obtain ⟨mA, hns, _⟩ := ox
  obtain ⟨oD, es, ep, hoD, _⟩ := hns
  obtain ⟨oc, od, oda, osl⟩ := ob
  dsimp only at z1 z2 hf
  subst z1 z2 hf
  have J : PySem.W.InstAt s.heap a _ D (some oD) := ⟨ho, rfl, rfl, hoD⟩
  exact PySem.W.kia_one (kitx_excO ec) I.kIn J e (fun z => nomatch z) fun tk => ⟨.bl b, H, I.tok tk, rfl, q⟩
structure rFldC (K : PySem.W.Frag) (f : Str) (x : V) (H : Hp) (Q : VK) : Prop where
  h : ∃ (a D dd : Addr) (fs : List (Str × V)) (v : V), x = .ref a ∧ XfC K D ∧ PySem.W.findIn K (.ref D) f = some none ∧ H a = some (CxO (.ref D) (some dd) a) ∧ H dd = some (.xd fs) ∧ fs.lookup f = some v ∧ Q v H
theorem pe_fldC {K : PySem.W.Frag} {te : TE} {n : Str} (hK : X.K = K) (he : PE X e te) (hb : attributeBase e n X.env (eval e X.env) = eval e X.env := by rfl) :
    PE X (.Attribute e n pos) (fun σ H Q => te σ H fun x H1 => rFldC K n x H1 Q) := by
  subst hK
  refine ⟨fun pins s σ H Q I h => ?_⟩
  refine attr_of hb (thn (he.run pins s σ H _ I h) fun u s1 ⟨y, H1, I1, ry, q⟩ => ?_)
  obtain ⟨a, D, dd, fs, v, rfl, T, hno, h1, h2, l, q⟩ := q.h
  cases ry
  obtain ⟨ob, fv, ho, ⟨z1, z2⟩, hf⟩ := caught_at I1.hok h1
  have ox : ObjOk X.prog X.w H1 s1.heap dd (.xd fs) := I1.hok dd _ h2
  obtain ⟨mA, hns, hr⟩ := ox
  obtain ⟨od, hod, hl⟩ := lookIn_ns hns
  obtain ⟨u, hu, ru⟩ := RelO.some_of (v := v) (o := mA n) (by rw [← l]; exact hr n)
  obtain ⟨oc, odd, oda, osl⟩ := ob
  dsimp only at z1 z2 hf
  subst z1 z2 hf
  have J : PySem.W.InstAt s1.heap a _ D (some od) := ⟨ho, rfl, rfl, hod⟩
  exact HandSPX.exc_get I1.kIn J T.ga T.gg T.exC (PySem.W.findObj_own T.hdC hno rfl (by rw [hl, hu])) (handed_of ru) ⟨v, H1, I1.tok _, ru, q⟩
end
end Vf
namespace Vf
open PySem PySem.Spec PyProof.Rows L2 GxR GenW RZ
section
variable {P : Program} {w : World} {K : PySem.W.Frag} {mg : Str → Option Value} {base : Heap} {CX : CXT} {k : Nat} {fd : FuncData} {ps : List Str} {sp : Sp}
  {qual x : Str} {params : Arguments} {body : List Stmt} {scope : Scope} {dvs : List V} {kws : List (Str × V)} {N : List Str} {p : He.Defn}
/-- okP for a def that lets exceptions out -/
theorem okPX (F : FunD K x qual params body scope dvs kws (He.fAd K p) fd) (S : FnScope N ps scope) (len : ∀ vs H Q E, sp vs H Q E → vs.length = ps.length)
    (hbody : ∀ (A : Around) (outer : List Env) (s : Shared) (H : Hp) (vs : List V) (Q : VK) (E : XK), Room k (A.deeper (envOfC qual scope s.heap.objs.size (He.fAd K p) (.ref (He.codeOf K p)))) → sp vs H Q E →
      ∃ t, PSs (cxOf CX P w K mg base N qual scope (He.fAd K p) (.ref (He.codeOf K p)) A outer s H E) body t ∧ t { nx := fun _ H' => Q .non H', rt := Q } (start N vs) H) : FnOk P w K mg base CX (k + 1) (He.fAd K p) fd ps sp := by
  obtain ⟨oc, od, dV, kV, doc, pm, an, cdv, ct, osl, rfl, lk, hcd, _, _⟩ := F.ex
  obtain ⟨c, rfl⟩ := He.codeIn_ref hcd
  obtain rfl : He.codeOf K p = c := He.codeOf_eq lk rfl
  exact fn_of lk hcd S len hbody
theorem takesF {X : Cx} : Takes X fun _ _ _ _ => False := fun u s' x => by
  obtain ⟨_, _, _, _, _, _, _, _, _, _, _, _, _, _, _, _, z⟩ := x
  exact z.elim
end
end Vf
end
section
set_option Elab.async false
set_option linter.all false
set_option maxRecDepth 100000
set_option maxHeartbeats 4000000
namespace Vf
open PySem PySem.Spec PyProof.Rows L2 GxR GenW RZ
abbrev s_is_word : Stmt := top 4
abbrev n_is_word : List Str := ["thing", "character"]
abbrev p_is_word : List Str := ["thing"]
theorem sc_is_word : FnScope n_is_word p_is_word (defScope s_is_word) := ⟨rfl, rfl, rfl, by decide +kernel, rfl, by decide +kernel, by decide +kernel⟩

abbrev s_is_sign : Stmt := top 23
abbrev n_is_sign : List Str := ["text"]
abbrev p_is_sign : List Str := ["text"]
theorem sc_is_sign : FnScope n_is_sign p_is_sign (defScope s_is_sign) := ⟨rfl, rfl, rfl, by decide +kernel, rfl, by decide +kernel, by decide +kernel⟩

abbrev s_is_form_name : Stmt := top 22
abbrev n_is_form_name : List Str := ["text", "character"]
abbrev p_is_form_name : List Str := ["text"]
theorem sc_is_form_name : FnScope n_is_form_name p_is_form_name (defScope s_is_form_name) := ⟨rfl, rfl, rfl, by decide +kernel, rfl, by decide +kernel, by decide +kernel⟩

abbrev s__law_all_signs : Stmt := top 51
abbrev n__law_all_signs : List Str := []
abbrev p__law_all_signs : List Str := []
theorem sc__law_all_signs : FnScope n__law_all_signs p__law_all_signs (defScope s__law_all_signs) := ⟨rfl, rfl, rfl, by decide +kernel, rfl, by decide +kernel, by decide +kernel⟩

abbrev s__law_some_set : Stmt := top 50
abbrev n__law_some_set : List Str := ["urn", "feature"]
abbrev p__law_some_set : List Str := ["urn"]
theorem sc__law_some_set : FnScope n__law_some_set p__law_some_set (defScope s__law_some_set) := ⟨rfl, rfl, rfl, by decide +kernel, rfl, by decide +kernel, by decide +kernel⟩

abbrev s__law_some_form : Stmt := top 52
abbrev n__law_some_form : List Str := ["urn", "name", "features", "signs", "turn", "picked", "there", "sign", "is_there"]
abbrev p__law_some_form : List Str := ["urn", "name", "features"]
theorem sc__law_some_form : FnScope n__law_some_form p__law_some_form (defScope s__law_some_form) := ⟨rfl, rfl, rfl, by decide +kernel, rfl, by decide +kernel, by decide +kernel⟩

/-- the parts of a form: the word, where its signs stand -/
def parts : List (Str × List Nat) := [("cell", [1]), ("level", [2]), ("bold", [3]), ("slant", [4]), ("link", [5, 6, 7]), ("escape", [8])]
abbrev LR (K : PySem.W.Frag) : Addr := He.ga K "LineReader"
abbrev CS (K : PySem.W.Frag) : Addr := He.ga K "SyntaxProblem"
abbrev CE (K : PySem.W.Frag) : Addr := He.ga K "ClipError"
structure PtsAt (K : PySem.W.Frag) (a : Addr) (t p : Nat → Addr) : Prop where
  top : ∀ H, SqT K H a ((List.range 6).map fun i => V.ref (t i))
  row : ∀ H i w ps, parts[i]? = some (w, ps) → SqT K H (t i) [.str w, .ref (p i)]
  pl : ∀ H i w ps, parts[i]? = some (w, ps) → SqT K H (p i) (ps.map fun n => V.int (n : Nat))
/-- more of the module's names -/
structure TY (K : PySem.W.Frag) (mg : Str → Option Value) : Prop extends TX mg where
  b_isinstance : mg "isinstance" = none
  b_all : mg "all" = none
  b_str : mg "str" = none
  b_tuple : mg "tuple" = none
  b_list : mg "list" = none
  b_zip : mg "zip" = none
  c_MOST_WORD_CHARACTERS : ∃ u, mg "MOST_WORD_CHARACTERS" = some u ∧ RelV (.int 12) u
  c_MOST_COST : ∃ u, mg "MOST_COST" = some u ∧ RelV (.int 1000) u
  c_MOST_PROGRAM_LINES : ∃ u, mg "MOST_PROGRAM_LINES" = some u ∧ RelV (.int 50) u
  c_FORM_STRINGS : ∃ u, mg "FORM_STRINGS" = some u ∧ RelV (.int 9) u
  c_MOST_NAME_CHARACTERS : ∃ u, mg "MOST_NAME_CHARACTERS" = some u ∧ RelV (.int 8) u
  c_NAME_LETTERS : ∃ u, mg "NAME_LETTERS" = some u ∧ RelV (.str "abcdefghijklmnopqrstuvwxyz") u
  c_DIGITS : ∃ u, mg "DIGITS" = some u ∧ RelV (.str "0123456789") u
  c_WORD_CHARACTERS : ∃ u, mg "WORD_CHARACTERS" = some u ∧ RelV (.str "abcdefghijklmnopqrstuvwxyz0123456789") u
  c_LETTERS_AND_DIGITS : ∃ u, mg "LETTERS_AND_DIGITS" = some u ∧ RelV (.str "0123456789ABCDEFGHIJKLMNOPQRSTUVWXYZabcdefghijklmnopqrstuvwxyz") u
  c_ESCAPE : ∃ u, mg "ESCAPE" = some u ∧ RelV (.int 8) u
  c_PLAIN : ∃ a, mg "PLAIN" = some (.ref a) ∧ ∀ H, SqT K H a (strV ["plain", "", "", "", "", "", "", "", ""])
  c_PARTS : ∃ a t p, mg "PARTS" = some (.ref a) ∧ PtsAt K a t p
  cl : Cls K (LR K)
  nN : NoAttr K (LR K) "number"
  nW : NoAttr K (LR K) "words"
  nA : NoAttr K (LR K) "at"
  g_SyntaxProblem : mg "SyntaxProblem" = some (.ref (CS K))
  g_ClipError : mg "ClipError" = some (.ref (CE K))
  oS : OexC K (CS K)
  eS : ExcC K (CS K)
  xS : XfC K (CS K)
  lS : PySem.W.findIn K (.ref (CS K)) "line" = some none
  uS : PySem.W.findIn K (.ref (CS K)) "column" = some none
  kS : PySem.W.kitOne K (.ref (CS K)) (.ref (CS K)) = some true
  mS : PySem.W.exmOne K (.ref (CS K)) (.ref (CE K)) = some true
theorem GrU.m {u c : Addr} {H H' : Hp} (g : GrU u H H') (h : Urn c H u) : GrM [u] H H' := fun b o hb e => by
  refine g b o (fun z => ?_) e
  subst z
  obtain ⟨ns, p, a, r, h1, _⟩ := h
  rw [h1] at e
  cases e
  rcases hb with hb | hb
  · exact hb (by simp)
  · cases hb
/-! ### what they say -/
def letters : List Nat := ("0123456789ABCDEFGHIJKLMNOPQRSTUVWXYZabcdefghijklmnopqrstuvwxyz" : Str).cps.toList
def azs : List Nat := ("abcdefghijklmnopqrstuvwxyz" : Str).cps.toList
def wordsC : List Nat := ("abcdefghijklmnopqrstuvwxyz0123456789" : Str).cps.toList
def sgnC (c : Nat) : Bool := decide (32 < c) && (decide (c ≤ 126) && !decide (c ∈ letters))
def isSg (x : Str) : Bool := match x.cps.toList with
  | [c] => sgnC c
  | _ => false
def isNm (x : Str) : Bool := decide (1 ≤ x.length ∧ x.length ≤ 8) && ((match x.cps.toList with | c :: _ => decide (c ∈ azs) | [] => false) && x.cps.toList.all fun c => decide (c ∈ wordsC))
theorem lt1 (a b : Nat) : decide (([a] : List Nat) < [b]) = decide (a < b) := by
  rw [decide_eq_decide]
  constructor
  · intro h
    cases h with
    | rel h => exact h
    | cons h => cases h
  · exact fun h => List.Lex.rel h
def spIsSign : Sp := fun vs H Q _ => ∃ x : Str, vs = [.str x] ∧ x.length ≤ sizeLine ∧ Q (.bl (isSg x)) H
def spName (K : PySem.W.Frag) : Sp := fun vs H Q _ => ∃ x : Str, vs = [.str x] ∧ x.length ≤ sizeLine ∧ TabG H (tb K "is_form_name") ∧ ∀ H', Gr H H' → Q (.bl (isNm x)) H'
section
variable {P : Program} {w : World} {K : PySem.W.Frag} {mg : Str → Option Value} {base : Heap}
theorem one_sign {x : Str} (h : x.length = 1) : ∃ c, x = ⟨#[c]⟩ := by
  obtain ⟨⟨l⟩⟩ := x
  match l, h with
  | [c], _ => exact ⟨c, rfl⟩
theorem ok_is_sign {fd : FuncData} (F : FnP K "is_sign" s_is_sign fd) (T : TY K mg) : FnOk P w K mg base CX0 1 (He.fAd K ("is_sign", none)) fd p_is_sign spIsSign := by
  refine okP F sc_is_sign (fun vs H Q E h => by obtain ⟨s, rfl, _⟩ := h; rfl) (fun A outer s H vs Q E hr h => ?_)
  obtain ⟨x, rfl, hx, k⟩ := h
  refine ⟨_, (pss_one (ps_ret (pe_and (pe_cmpR (u_eq (K := K) rfl hr.units) (pe_callB (k_len (K := K) rfl) rfl T.b_len (by decide +kernel) (pa_cons (pv 0) pa_nil)) pe_int (nomark _)) (pe_and (pe_chain u_lt u_le pe_str (pv 0) pe_str) (pe_one (pe_cmpR (u_ni (K := K) rfl) (pv 0) (pe_gl T.c_LETTERS_AND_DIGITS rfl) (by first | exact nomark _ | rfl))))))), ?_⟩
  refine ⟨_, rfl, _, _, rfl, ⟨hx, rfl⟩, e_flat rfl ⟨_, rfl, ?_⟩⟩
  by_cases h1 : x.length = 1
  · obtain ⟨c, rfl⟩ := one_sign h1
    rw [if_pos (by rw [h1]; rfl)]
    have e1 : isSg ⟨#[c]⟩ = sgnC c := rfl
    rw [e1] at k
    refine ⟨_, rfl, l_ss ⟨_, rfl, ?_⟩⟩
    have e2 : decide ((" " : Str).cps.toList < (⟨#[c]⟩ : Str).cps.toList) = decide (32 < c) := lt1 32 c
    rw [e2]
    refine ite2 (fun h2 => ?_) (fun h2 => ?_)
    · refine le_ss ⟨_, rfl, ?_⟩
      have e3 : decide (("~" : Str).cps.toList < (⟨#[c]⟩ : Str).cps.toList) = decide (126 < c) := lt1 126 c
      rw [e3]
      refine ite2 (fun h3 => ?_) (fun h3 => ?_)
      · refine ⟨_, rfl, ni_sign ?_⟩
        have e4 : sgnC c = !decide (c ∈ letters) := by
          unfold sgnC
          have a1 : 32 < c := by simpa using h2
          have a2 : c ≤ 126 := by simpa using h3
          simp [a1, a2]
        rw [e4] at k
        exact k
      · have e4 : sgnC c = false := by
          unfold sgnC
          have a2 : ¬ c ≤ 126 := by simpa using h3
          simp [a2]
        rw [e4] at k
        exact k
    · have e4 : sgnC c = false := by
        unfold sgnC
        have a2 : ¬ 32 < c := by simpa using h2
        simp [a2]
      rw [e4] at k
      exact ⟨_, rfl, k⟩
  · rw [if_neg (by simp; omega)]
    have e1 : isSg x = false := by
      unfold isSg
      split
      · rename_i c hc
        exact absurd (by show x.cps.size = 1; rw [← Array.length_toList, hc]; rfl) h1
      · rfl
    rw [e1] at k
    exact k
theorem ok_name {fd : FuncData} (F : FnP K "is_form_name" s_is_form_name fd) (T : TY K mg) (TB : TBx K mg base "is_form_name") : FnOk P w K mg base CX0 2 (He.fAd K ("is_form_name", none)) fd p_is_form_name (spName K) := by
  refine okP F sc_is_form_name (fun vs H Q E h => by obtain ⟨s, rfl, _⟩ := h; rfl) (fun A outer s H vs Q E hr h => ?_)
  obtain ⟨x, rfl, hx, hT, k⟩ := h
  refine ⟨_, (pss_cons (ps_if (PW.pt (pw_or (pt_not (pt_chain u_le u_le pe_int (pe_callB (k_len (K := K) rfl) rfl T.b_len (by decide +kernel) (pa_cons (pv 0) pa_nil)) (pe_gl T.c_MOST_NAME_CHARACTERS rfl))) (pw_or1 (pt_cmpR (u_ni (K := K) rfl) (pe_ix (u_ix (K := K) rfl) (pv 0) pe_int (fun _ _ => rfl)) (pe_gl T.c_NAME_LETTERS rfl) (by first | exact nomark _ | rfl)))))
      (pss_one (ps_ret pe_bl))
      pss_nil)
      (pss_one (ps_ret (pe_allL (own := [1]) (j := 1) hr rfl T.b_all (by decide +kernel) TB rfl (gok_by (N := n_is_form_name) (sc := defScope s_is_form_name) (by decide +kernel)) sc_is_form_name.nd rfl (by simp) (pi_str (pv 0)) (fun _ _ _ _ _ _ hr' => pts_nil) (fun _ _ _ _ _ _ hr' => (pe_cmpR (u_in (K := K) rfl) (pv 1) (pe_gl T.c_WORD_CHARACTERS rfl) (by first | exact nomark _ | rfl))))))), ?_⟩
  have no : isNm x = false → Q (.bl false) H := fun e => e ▸ k H (Gr.refl H)
  have fin : ∀ H', Gr H H' → ∀ b, isNm x = b → Q (.bl b) H' := fun H' g b e => e ▸ k H' g
  refine ⟨_, rfl, _, _, rfl, ⟨hx, rfl⟩, le_ii ⟨_, rfl, ite2 (fun h1 => le_ii ⟨_, rfl, ?_⟩) (fun h1 => ⟨_, rfl, iteT (no ?_)⟩)⟩⟩
  · have h1 : 1 ≤ x.length := by have := of_decide_eq_true h1; omega
    by_cases h2 : x.length ≤ 8
    · have e1 : (decide ((x.length : Int) ≤ 8)) = true := by simp; omega
      rw [e1]
      obtain ⟨c, r, hd⟩ : ∃ c r, x.cps.toList = c :: r := by
        cases e : x.cps.toList with
        | nil =>
          have h0 : x.length = x.cps.toList.length := Array.length_toList.symm
          rw [e] at h0
          simp at h0
          omega
        | cons c r => exact ⟨c, r, rfl⟩
      have e2 : x.cps.toList[0]? = some c := by rw [hd]; rfl
      refine iteF ⟨_, rfl, x_s hx (atI_nat (j := 0) e2) (ni_sign ⟨_, rfl, ?_⟩)⟩
      have eN : isNm x = (decide (c ∈ azs) && x.cps.toList.all fun c => decide (c ∈ wordsC)) := by
        unfold isNm
        rw [decide_eq_true ⟨h1, h2⟩, Bool.true_and, hd]
      refine ite2 (fun h3 => no ?_) (fun h3 => ?_)
      · have h3 : c ∉ azs := fun z => by
          have q : (!decide (c ∈ azs)) = true := h3
          rw [decide_eq_true z] at q
          cases q
        rw [eN, decide_eq_false h3, Bool.false_and]
      · have h3 : c ∈ azs := by
          by_cases z : c ∈ azs
          · exact z
          · exact absurd (show (!decide (c ∈ azs)) = true by rw [decide_eq_false z]; rfl) h3
        rw [decide_eq_true h3, Bool.true_and] at eN
        refine ⟨_, rfl, _, rfl, hT, fun H2 hTb => ?_⟩
        have g := Gr.tabb hTb
        refine turns_S (fun i H' => H' = H2 ∧ ∀ c ∈ x.cps.toList.take i, c ∈ wordsC) ⟨rfl, by simp⟩ ?_ ?_
        · rintro i c H' hc ⟨rfl, ha⟩
          refine ⟨_, rfl, in_sign ⟨_, rfl, ite2 (fun h4 => ⟨rfl, ?_⟩) (fun h4 => ?_)⟩⟩
          · intro d hd
            rw [List.take_succ, hc] at hd
            rcases List.mem_append.mp hd with hd | hd
            · exact ha d hd
            · simp only [Option.toList_some, List.mem_singleton] at hd
              subst hd
              exact of_decide_eq_true h4
          · have h4 : c ∉ wordsC := fun z => h4 (decide_eq_true z)
            have e : isNm x = false := by
              rw [eN, List.all_eq_false]
              exact ⟨c, List.mem_of_getElem? hc, by simp [h4]⟩
            exact fin _ g false e
        · rintro H' ⟨rfl, ha⟩
          rw [List.take_length] at ha
          have e : isNm x = true := by
            rw [eN, List.all_eq_true]
            exact fun c hc => by simp [ha c hc]
          exact fin _ g true e
    · have e1 : (decide ((x.length : Int) ≤ 8)) = false := by simp; omega
      rw [e1]
      refine iteT (no ?_)
      unfold isNm
      rw [decide_eq_false (by omega), Bool.false_and]
  · have h1 : ¬ 1 ≤ x.length := fun z => h1 (decide_eq_true (by omega))
    unfold isNm
    rw [decide_eq_false (by omega), Bool.false_and]
end
def isWs (x : Str) : Bool := decide (1 ≤ x.length ∧ x.length ≤ 12) && x.cps.toList.all fun c => decide (c ∈ wordsC)
def isWd : PyData → Bool
  | .str x => isWs x
  | _ => false
def spWord (K : PySem.W.Frag) : Sp := fun vs H Q _ => ∃ (v : V) (d : PyData), vs = [v] ∧ Dd K H v d ∧ (∀ x, d = .str x → x.length ≤ sizeLine) ∧ TabG H (tb K "is_word") ∧ ∀ H', Gr H H' → Q (.bl (isWd d)) H'
section
variable {P : Program} {w : World} {K : PySem.W.Frag} {mg : Str → Option Value} {base : Heap}
theorem ok_word {fd : FuncData} (F : FnP K "is_word" s_is_word fd) (T : TY K mg) (TB : TBx K mg base "is_word") : FnOk P w K mg base CX0 2 (He.fAd K ("is_word", none)) fd p_is_word (spWord K) := by
  refine okP F sc_is_word (fun vs H Q E h => by obtain ⟨v, d, rfl, _⟩ := h; rfl) (fun A outer s H vs Q E hr h => ?_)
  obtain ⟨v, d, rfl, hd, hz, hT, k⟩ := h
  refine ⟨_, (pss_cons (ps_if (PW.pt (pw_or (pt_not (pt_val (pe_callB (call_isD (K := K) rfl) rfl T.b_isinstance (by decide +kernel) (pa_cons (pv 0) (pa_cons (pe_ty (T := "str") rfl T.b_str (by decide +kernel)) pa_nil))))) (pw_or1 (pt_not (pt_chain u_le u_le pe_int (pe_callB (k_len (K := K) rfl) rfl T.b_len (by decide +kernel) (pa_cons (pv 0) pa_nil)) (pe_gl T.c_MOST_WORD_CHARACTERS rfl))))))
      (pss_one (ps_ret pe_bl))
      pss_nil)
      (pss_one (ps_ret (pe_allL (own := [1]) (j := 1) hr rfl T.b_all (by decide +kernel) TB rfl (gok_by (N := n_is_word) (sc := defScope s_is_word) (by decide +kernel)) sc_is_word.nd rfl (by simp) (pi_str (pv 0)) (fun _ _ _ _ _ _ hr' => pts_nil) (fun _ _ _ _ _ _ hr' => (pe_cmpR (u_in (K := K) rfl) (pv 1) (pe_gl T.c_WORD_CHARACTERS rfl) (by first | exact nomark _ | rfl))))))), ?_⟩
  refine ⟨_, rfl, v, d, "str", rfl, hd, .inr (.inl rfl), _, rfl, ite2 (fun h1 => ?_) (fun h1 => ?_)⟩
  · have e : isWd d = false := by
      cases d <;> first | rfl | simp [isaD] at h1
    exact e ▸ k _ (Gr.refl H)
  obtain ⟨x, rfl⟩ := isStr_iff.mp (show isaD "str" d = true by simpa using h1)
  cases hd
  have hx := hz x rfl
  have no : isWs x = false → Q (.bl false) H := fun e => by
    have q := k H (Gr.refl H)
    rw [show isWd (.str x) = isWs x from rfl, e] at q
    exact q
  have fin : ∀ H', Gr H H' → ∀ b, isWs x = b → Q (.bl b) H' := fun H' g b e => by
    have q := k H' g
    rw [show isWd (.str x) = isWs x from rfl, e] at q
    exact q
  refine ⟨_, rfl, _, _, rfl, ⟨hx, rfl⟩, le_ii ⟨_, rfl, ite2 (fun h1 => le_ii ⟨_, rfl, ?_⟩) (fun h1 => ⟨_, rfl, iteT (no ?_)⟩)⟩⟩
  rotate_left
  · have h1 : ¬ 1 ≤ x.length := fun z => h1 (decide_eq_true (by omega))
    unfold isWs
    rw [decide_eq_false (by omega), Bool.false_and]
  have h1 : 1 ≤ x.length := by have := of_decide_eq_true h1; omega
  by_cases h2 : x.length ≤ 12
  rotate_left
  · have e1 : (decide ((x.length : Int) ≤ 12)) = false := by simp; omega
    rw [e1]
    refine iteT (no ?_)
    unfold isWs
    rw [decide_eq_false (by omega), Bool.false_and]
  have e1 : (decide ((x.length : Int) ≤ 12)) = true := by simp; omega
  rw [e1]
  have eN : isWs x = x.cps.toList.all fun c => decide (c ∈ wordsC) := by
    unfold isWs
    rw [decide_eq_true ⟨h1, h2⟩, Bool.true_and]
  refine iteF ⟨_, rfl, _, rfl, hT, fun H2 hTb => ?_⟩
  have g := Gr.tabb hTb
  refine turns_S (fun i H' => H' = H2 ∧ ∀ c ∈ x.cps.toList.take i, c ∈ wordsC) ⟨rfl, by simp⟩ ?_ ?_
  · rintro i c H' hc ⟨rfl, ha⟩
    refine ⟨_, rfl, in_sign ⟨_, rfl, ite2 (fun h4 => ⟨rfl, ?_⟩) (fun h4 => ?_)⟩⟩
    · intro d hd
      rw [List.take_succ, hc] at hd
      rcases List.mem_append.mp hd with hd | hd
      · exact ha d hd
      · simp only [Option.toList_some, List.mem_singleton] at hd
        subst hd
        exact of_decide_eq_true h4
    · have h4 : c ∉ wordsC := fun z => h4 (decide_eq_true z)
      have e : isWs x = false := by
        rw [eN, List.all_eq_false]
        exact ⟨c, List.mem_of_getElem? hc, by simp [h4]⟩
      exact fin _ g false e
  · rintro H' ⟨rfl, ha⟩
    rw [List.take_length] at ha
    have e : isWs x = true := by
      rw [eN, List.all_eq_true]
      exact fun c hc => by simp [ha c hc]
    exact fin _ g true e
end
def allS : List Str := sS "!#$&'()*+,-./:;<=>?\x40[]^_{|}~" ++ (["\"", "\\", "`"] : List Str)
def spAll : Sp := fun vs H Q _ => vs = [] ∧ ∀ l H', Gr H H' → H l = none → H' l = some (.lst (strV allS)) → Q (.ref l) H'
def F5 : List Str := ["cells", "nest", "link", "bold", "slant"]
def pickF (bs : List Bool) : List Str := (F5.zip bs).filterMap fun p => if p.2 = true then some p.1 else none
def spSomeSet (K : PySem.W.Frag) : Sp := fun vs H Q _ => ∃ (u c : Addr), vs = [.ref u] ∧ Urn c H u ∧ ∀ t bs H', bs.length = 5 → GrU u H H' → Urn c H' u → H t = none → t ≠ u → H' t = some (.tup (strV (pickF bs))) → Q (.ref t) H'
theorem pickF_snoc {bs : List Bool} {b : Bool} {f : Str} (h : F5[bs.length]? = some f) : pickF (bs ++ [b]) = pickF bs ++ (if b = true then [f] else []) := by
  have hl := (List.getElem?_eq_some_iff.mp h).1
  have e : F5 = F5.take bs.length ++ f :: F5.drop (bs.length + 1) := by
    have h2 := (List.getElem?_eq_some_iff.mp h).2
    rw [← h2, List.getElem_cons_drop, List.take_append_drop]
  have hlt : (F5.take bs.length).length = bs.length := by rw [List.length_take]; omega
  have z1 : F5.zip (bs ++ [b]) = (F5.take bs.length).zip bs ++ [(f, b)] := by
    conv => lhs; rw [e]
    rw [List.zip_append hlt, List.zip_cons_cons, List.zip_nil_right]
  have z2 : F5.zip bs = (F5.take bs.length).zip bs := by
    conv => lhs; rw [e, ← List.append_nil bs]
    rw [List.zip_append (by rw [List.append_nil]; exact hlt), List.append_nil]
    exact List.append_nil _
  unfold pickF
  rw [z1, z2, List.filterMap_append]
  congr 1
  cases b <;> rfl
theorem pickF_len (bs : List Bool) : (pickF bs).length ≤ 5 := by
  unfold pickF
  refine Nat.le_trans (List.length_filterMap_le _ _) ?_
  rw [List.length_zip]
  exact Nat.min_le_left _ _
def thereL (fs : List Str) : List Bool :=
  [inV (.str "cells") (strV fs), inV (.str "nest") (strV fs), inV (.str "bold") (strV fs), inV (.str "slant") (strV fs)] ++ List.replicate 3 (inV (.str "link") (strV fs)) ++ [!PyData.eqv (.tuple (fs.map PyData.str)) (.tuple [])]
def mkS (p : Str × Bool) : Str := if p.2 = true then p.1 else ""
def mask (fs : List Str) (ps : List Str) : List Str := (ps.zip (thereL fs)).map mkS
def spSomeForm (K : PySem.W.Frag) : Sp := fun vs H Q _ => ∃ (u c a : Addr) (n : Str) (fs : List Str), vs = [.ref u, .str n, .ref a] ∧ Urn c H u ∧ SqT K H a (strV fs) ∧ (∀ t ∈ fs, PyData.canLay0 (.str t) = true) ∧
  ∀ t ps rs H', ps.length = 8 → (ps ++ rs).Perm allS → GrU u H H' → Urn c H' u → H t = none → t ≠ u → H' t = some (.tup (strV (n :: mask fs ps))) → Q (.ref t) H'
theorem pop_perm {ps rs : List Str} {k : Nat} {y : Str} (h : rs[k]? = some y) : (ps ++ [y] ++ rs.eraseIdx k).Perm (ps ++ rs) := by
  rw [List.append_assoc]
  refine List.Perm.append_left ps ?_
  have hk := (List.getElem?_eq_some_iff.mp h).1
  have hy := (List.getElem?_eq_some_iff.mp h).2
  rw [List.eraseIdx_eq_take_drop_succ]
  refine List.Perm.trans (List.perm_middle (l₁ := rs.take k) (l₂ := rs.drop (k + 1)) (a := y)).symm ?_
  rw [← hy, List.getElem_cons_drop, List.take_append_drop]
section
variable {P : Program} {w : World} {K : PySem.W.Frag} {mg : Str → Option Value} {base : Heap}
theorem ok_all_signs {fd : FuncData} (F : FnP K "_law_all_signs" s__law_all_signs fd) (T : TY K mg) : FnOk P w K mg base CX0 1 (He.fAd K ("_law_all_signs", none)) fd p__law_all_signs spAll := by
  refine okP F sc__law_all_signs (fun vs H Q E h => by obtain ⟨rfl, _⟩ := h; rfl) (fun A outer s H vs Q E hr h => ?_)
  obtain ⟨rfl, k⟩ := h
  refine ⟨_, (pss_one (ps_ret (pe_op (u_add (K := K) rfl) (pe_callTy (call_listU (K := K) rfl rfl) rfl T.b_list (by decide +kernel) (pa_cons pe_str pa_nil)) (pe_lst (pa_cons pe_str (pa_cons pe_str (pa_cons pe_str pa_nil))))))), ?_⟩
  refine lsU_s (by rw [sizeLine_eq]; decide) fun l hl => ⟨by rw [sizeLine_eq]; decide, fun b hb => ?_⟩
  have h1 : upd (upd H l (.lst (sgn "!#$&'()*+,-./:;<=>?\x40[]^_{|}~"))) b (.lst [.str "\"", .str "\\", .str "`"]) l = some (.lst (sgn "!#$&'()*+,-./:;<=>?\x40[]^_{|}~")) := by
    rw [upd_ne (ne_of_none upd_same hb)]
    exact upd_same
  refine a_ll h1 upd_same (by rw [sizeLine_eq]; decide) fun p hp => ?_
  have g : Gr H (upd (upd H l (.lst (sgn "!#$&'()*+,-./:;<=>?\x40[]^_{|}~"))) b (.lst [.str "\"", .str "\\", .str "`"])) := (Gr.new hl).trans (Gr.new hb)
  refine k p _ (g.trans (Gr.new hp)) (g.free hp) (upd_same.trans ?_)
  rw [sgn_strV]
  unfold allS strV
  rw [List.map_append]; rfl
theorem ok_some_set {fd : FuncData} (F : FnP K "_law_some_set" s__law_some_set fd) (T : TY K mg) (D__law_upto : Df P w K mg base "_law_upto" 2 p__law_upto spUpto) : FnOk P w K mg base CX0 3 (He.fAd K ("_law_some_set", none)) fd p__law_some_set (spSomeSet K) := by
  refine okP F sc__law_some_set (fun vs H Q E h => by obtain ⟨u, c, rfl, _⟩ := h; rfl) (fun A outer s H vs Q E hr h => ?_)
  obtain ⟨u, c, rfl, hu, k⟩ := h
  refine ⟨_, (pss_one (ps_ret (k_tuple (K := K) rfl rfl T.b_tuple (pe_lc (own := [("feature", 1)]) (g := gName 1) rfl sc__law_some_set.nd (k_tup (K := K) rfl (pe_tup (pa_cons pe_str (pa_cons pe_str (pa_cons pe_str (pa_cons pe_str (pa_cons pe_str pa_nil))))))) (blkOk_by (own := [("feature", 1)]) (N := n__law_some_set) (sc := defScope s__law_some_set) (by decide +kernel)) (fun _ _ _ _ _ => (pg_name (i := 1) sc__law_some_set.nd rfl (by first | exact Or.inl rfl | exact Or.inr rfl))) (fun _ _ _ _ _ => (pts_one (pt_cmpR (u_eq (K := K) rfl hr.units) (pe_fn D__law_upto hr (by decide) rfl (pa_cons (pv 0) (pa_cons pe_int pa_nil))) pe_int (nomark _)))) (fun _ _ _ _ _ => (pv 1)))))), ?_⟩
  refine ⟨by show 5 ≤ sizeLine; rw [sizeLine_eq]; decide, fun p hp => ⟨p, rfl, ⟨_, SqT.of upd_same⟩, fun D hD => ?_⟩⟩
  have g1 : Gr H (upd H p (.tup (strV F5))) := Gr.new hp
  have hu1 : Urn c (upd H p (.tup (strV F5))) u := hu.gr g1
  have oD := hu1.ou hD
  have cD := hu1.oc hD
  have hD0 := g1.free hD
  refine lc_tup (K := K) (a := p) (xs := strV F5) (fun i H' => GrU u (upd H p (.tup (strV F5))) H' ∧ Urn c H' u ∧ ∃ bs, bs.length = i ∧ H' D = some (.lst (strV (pickF bs)))) ⟨(Gr.new hD).u, hu1.gr (Gr.new hD), [], rfl, upd_same⟩ ?_ ?_ ?_
  · rintro i H' _ ⟨g, _, _⟩
    exact g.seqT hu1 (SqT.of upd_same)
  · rintro i x H' hx ⟨g, hu', bs, hb, hL⟩
    obtain ⟨f, hf, rfl⟩ := str_at hx
    refine ⟨rfl, ?_⟩
    refine ⟨_, rfl, u, c, 2, rfl, hu', by decide, by decide, fun r H2 _ _ g2 hu2 => e_flat rfl ⟨_, rfl, ?_⟩⟩
    have hL2 := g2.keep oD hL (fun _ z => by cases z)
    have gg := g.trans g2
    refine ite2 (fun h1 => ?_) (fun h1 => ?_)
    · refine ⟨_, rfl, _, hL2, ?_, gruD gg hD, hu2.updD oD cD, bs ++ [true], by rw [List.length_append, hb]; rfl, ?_⟩
      · show (List.map V.str _).length < _
        rw [List.length_map, sizeLine_eq]
        exact Nat.lt_of_le_of_lt (pickF_len bs) (by decide)
      · rw [upd_same, pickF_snoc (f := f) (by rw [hb]; exact hf), if_pos rfl]
        unfold strV
        rw [List.map_append]; rfl
    · refine ⟨gg, hu2, bs ++ [false], by rw [List.length_append, hb]; rfl, ?_⟩
      rw [hL2, pickF_snoc (f := f) (by rw [hb]; exact hf), if_neg (by decide), List.append_nil]
  · rintro H' ⟨g, hu', bs, hb, hL⟩
    refine ⟨.inl ⟨D, _, rfl, SqL.of hL, fun t ht => k t bs _ hb ?_ (hu'.gr (Gr.new ht)) ?_ ?_ upd_same⟩⟩
    · exact (g1.u.trans g).trans (Gr.new ht).u
    · exact g1.free (g.free (hu'.ou ht) ht)
    · exact hu'.ou ht
theorem ok_some_form {fd : FuncData} (F : FnP K "_law_some_form" s__law_some_form fd) (T : TY K mg) (D__law_upto : Df P w K mg base "_law_upto" 2 p__law_upto spUpto) (D__law_all_signs : Df P w K mg base "_law_all_signs" 1 p__law_all_signs spAll) : FnOk P w K mg base CX0 3 (He.fAd K ("_law_some_form", none)) fd p__law_some_form (spSomeForm K) := by
  refine okP F sc__law_some_form (fun vs H Q E h => by obtain ⟨u, c, a, n, fs, rfl, _⟩ := h; rfl) (fun A outer s H vs Q E hr h => ?_)
  obtain ⟨u, c, a, n, fs, rfl, hu, hS, hf, k⟩ := h
  refine ⟨_, (pss_cons (ps_set (i := 3) sc__law_some_form.nd rfl (by first | exact Or.inl rfl | exact Or.inr rfl) (pe_fn0 D__law_all_signs hr (by decide) rfl))
      (pss_cons (ps_setLc (i := 5) (own := [("turn", 4)]) (g := gName 4) (tt := tYes) rfl sc__law_some_form.nd rfl rfl (sw_true rfl rfl rfl (by decide +kernel)) (pi_range1 rfl T.b_range (pa_cons pe_int pa_nil)) (blkOk_by (own := [("turn", 4)]) (N := n__law_some_form) (sc := defScope s__law_some_form) (by decide +kernel)) (fun _ _ _ _ _ => (pg_name (i := 4) sc__law_some_form.nd rfl (by first | exact Or.inl rfl | exact Or.inr rfl))) (fun _ _ _ _ _ => pts_nil) (fun _ _ _ _ _ => (k_bm (K := K) rfl PySem.F.plainAttrs_list PySem.F.slot_list_pop PySem.F.type_list_pop mt_popAt (pv 3) (pa_cons (pe_fn D__law_upto hr (by decide) rfl (pa_cons (pv 0) (pa_cons (pe_callB (k_len (K := K) rfl) rfl T.b_len (by decide +kernel) (pa_cons (pv 3) pa_nil)) pa_nil))) pa_nil))))
      (pss_cons (ps_set (i := 6) sc__law_some_form.nd rfl (by first | exact Or.inl rfl | exact Or.inr rfl) (pe_lst (pa_cons (pe_cmpR (u_in (K := K) rfl) pe_str (pv 2) (by first | exact nomark _ | rfl)) (pa_cons (pe_cmpR (u_in (K := K) rfl) pe_str (pv 2) (by first | exact nomark _ | rfl)) (pa_cons (pe_cmpR (u_in (K := K) rfl) pe_str (pv 2) (by first | exact nomark _ | rfl)) (pa_cons (pe_cmpR (u_in (K := K) rfl) pe_str (pv 2) (by first | exact nomark _ | rfl)) pa_nil))))))
      (pss_cons (ps_set (i := 6) sc__law_some_form.nd rfl (by first | exact Or.inl rfl | exact Or.inr rfl) (pe_op (u_add (K := K) rfl) (pe_op (u_add (K := K) rfl) (pv 6) (pe_op (u_mul (K := K) rfl) (pe_lst (pa_cons (pe_cmpR (u_in (K := K) rfl) pe_str (pv 2) (by first | exact nomark _ | rfl)) pa_nil)) pe_int)) (pe_lst (pa_cons (pe_cmpR (u_ne (K := K) rfl hr.units) (pv 2) (pe_tup pa_nil) (nomark _)) pa_nil))))
      (pss_one (ps_ret (pe_op (u_add (K := K) rfl) (pe_tup (pa_cons (pv 1) pa_nil)) (k_tuple (K := K) rfl rfl T.b_tuple (pe_lc (own := [("sign", 7), ("is_there", 8)])  (tt := tYes) rfl sc__law_some_form.nd (k_zip (K := K) rfl rfl T.b_zip (pa_cons (pv 5) (pa_cons (pv 6) pa_nil))) (blkOk_by (own := [("sign", 7), ("is_there", 8)]) (N := n__law_some_form) (sc := defScope s__law_some_form) (by decide +kernel)) (fun _ _ _ _ _ => (kg_tup 2 (K := K) rfl rfl (pgs_cons (pg_name (i := 7) sc__law_some_form.nd rfl (by first | exact Or.inl rfl | exact Or.inr rfl)) (pgs_cons (pg_name (i := 8) sc__law_some_form.nd rfl (by first | exact Or.inl rfl | exact Or.inr rfl)) pgs_nil)))) (fun _ _ _ _ _ => pts_nil) (fun _ _ _ _ _ => (pe_ifExp (k_truth (K := K) rfl (pv 8) (by intro _; rfl)) (pv 7) pe_str))))))))))), ?_⟩
  refine ⟨rfl, fun l H1 g1 hl hL => ?_⟩
  refine ⟨8, rfl, by decide, by decide, fun D hD => ?_⟩
  have lu := hu.ou hl
  have lc := hu.oc hl
  have hu1 := hu.gr g1
  have Du := hu1.ou hD
  have Dc := hu1.oc hD
  have lD : l ≠ D := ne_of_none hL hD
  have hD0 := g1.free hD
  refine lc_range (lo := 0) (n := 8) (fun i H' => ∃ ps rs, ps.length = i ∧ (ps ++ rs).Perm allS ∧ GrU u H H' ∧ Urn c H' u ∧ H' l = some (.lst (strV rs)) ∧ H' D = some (.lst (strV ps))) ⟨[], allS, rfl, List.Perm.refl _, gruD g1.u hD0, hu1.gr (Gr.new hD), by rw [upd_ne lD]; exact hL, upd_same⟩ ?_ ?_
  · rintro i H' hi ⟨ps, rs, hp, hpm, g, hu', h1, h2⟩
    have hlen : i + rs.length = 31 := by
      have q := hpm.length_eq
      rw [List.length_append, hp] at q
      exact q
    have lr : (strV rs).length = rs.length := List.length_map _
    refine ⟨rfl, ?_⟩
    refine ⟨_, rfl, .inl ⟨rfl, _, SqL.of h1⟩, _, rfl, _, rfl, _, _, rfl, .inl ⟨_, SqL.of h1, rfl⟩, u, c, _, rfl, hu', by rw [lr]; omega, by rw [lr]; omega, fun r H2 h0 hr1 g2 hu2 => ?_⟩
    obtain ⟨j, rfl⟩ := Int.eq_ofNat_of_zero_le h0
    rw [lr] at hr1
    have hj : j < rs.length := by omega
    have e1 := g2.keep lu h1 (fun _ z => by cases z)
    have e2 := g2.keep Du h2 (fun _ z => by cases z)
    refine ⟨l, strV rs, j, j, .str rs[j], rfl, rfl, e1, by omega, by omega, ?_, ?_, ?_⟩
    · unfold seqIndex?
      rw [lr]
      have q1 : ¬ (j : Int) < 0 := by omega
      simp only [q1, if_false]
      rw [if_pos (by simp; omega)]; rfl
    · unfold strV
      rw [List.getElem?_map, List.getElem?_eq_getElem hj]; rfl
    · refine ⟨strV ps, by rw [upd_ne (Ne.symm lD)]; exact e2, ?_, ps ++ [rs[j]], rs.eraseIdx j, by rw [List.length_append, hp]; rfl, (pop_perm (List.getElem?_eq_getElem hj)).trans hpm, gruD (gruD (g.trans g2) hl) hD0, (hu2.updD lu lc).updD Du Dc, ?_, ?_⟩
      · unfold strV
        rw [List.length_map, hp, sizeLine_eq]; omega
      · rw [upd_ne lD, upd_same]
        unfold strV
        rw [List.eraseIdx_eq_take_drop_succ, List.eraseIdx_eq_take_drop_succ, List.map_append, List.map_take, List.map_drop]
      · rw [upd_same]
        unfold strV
        rw [List.map_append]; rfl
  · rintro H' ⟨ps, rs, hp, hpm, g, hu', h1, h2⟩
    have hS' := g.seqT hu hS
    have hSf : (strV fs).all flatV = true := by
      unfold strV
      rw [List.all_map, List.all_eq_true]
      intro x _; rfl
    refine ⟨_, rfl, in_seq (.inr hS') rfl hSf ⟨_, rfl, in_seq (.inr hS') rfl hSf ⟨_, rfl, in_seq (.inr hS') rfl hSf ⟨_, rfl, in_seq (.inr hS') rfl hSf ⟨by show 4 ≤ sizeLine; rw [sizeLine_eq]; decide, fun p1 hp1 => ?_⟩⟩⟩⟩⟩
    refine newH hp1 fun Ha Ga s1 => ?_
    refine ⟨_, rfl, _, rfl, in_seq (.inr (Ga.seqT hS')) rfl hSf ⟨by show 1 ≤ sizeLine; rw [sizeLine_eq]; decide, fun p2 hp2 => ?_⟩⟩
    refine newH hp2 fun Hb Gb s2 => ?_
    refine m_ll s2 (by decide) (by decide) (by show 1 * 3 ≤ sizeLine; rw [sizeLine_eq]; decide) fun p3 hp3 => ?_
    refine newH hp3 fun Hc Gc s3 => ?_
    refine a_ll (Gc.lst (Gb.lst s1)) s3 (by rw [sizeLine_eq]; show 4 + 3 ≤ 16777216; decide) fun p4 hp4 => ?_
    refine newH hp4 fun Hd Gd s4 => ?_
    have G4 := ((Ga.trans Gb).trans Gc).trans Gd
    refine ⟨_, rfl, Nat.zero_le _, fun pe hpe => ?_⟩
    refine newH hpe fun Hx Ge se => ?_
    refine n_data (Dp.tup ((G4.trans Ge).seqT hS') (dp_strs fs)) (Dp.tup (SqT.of se) .nil) (shp_strsT hf) rfl ?_
    refine ⟨by show 1 ≤ sizeLine; rw [sizeLine_eq]; decide, fun p5 hp5 => ?_⟩
    refine newH hp5 fun Hf Gf s5 => ?_
    refine a_ll ((Ge.trans Gf).lst s4) s5 (by rw [sizeLine_eq]; show 7 + 1 ≤ 16777216; decide) fun p6 hp6 => ?_
    refine newH hp6 fun Hg Gg s6 => ?_
    have G6 := ((G4.trans Ge).trans Gf).trans Gg
    have e6 : Hg p6 = some (.lst ((thereL fs).map V.bl)) := s6.trans rfl
    have d6 := G6.lst h2
    refine ⟨_, rfl, by show 1 ≤ sizeLine; rw [sizeLine_eq]; decide, fun pT hpT => ?_⟩
    refine newH hpT fun Hh Gh sT => ?_
    refine ⟨_, rfl, _, rfl, D, p6, _, _, rfl, .inl ⟨SqL.of (Gh.lst d6), SqL.of (Gh.lst e6), fun Z hZ => ?_⟩⟩
    have rl : ∀ i, (((ps.zip (thereL fs)).take i).map mkS).length ≤ 8 := fun i => by
      rw [List.length_map, List.length_take, List.length_zip]
      omega
    refine lc_zL (a := D) (b := p6) (xs := strV ps) (ys := (thereL fs).map V.bl) (by unfold strV; rw [List.length_map, List.length_map, hp]; rfl) (fun i H' => Gr Hh H' ∧ H' Z = some (.lst (strV (((ps.zip (thereL fs)).take i).map mkS)))) ⟨Gr.new hZ, upd_same⟩ ?_ ?_ ?_
    · rintro i H2 ⟨g3, _⟩
      exact ⟨SqL.of (g3.lst (Gh.lst d6)), SqL.of (g3.lst (Gh.lst e6))⟩
    · rintro i x y T2 H2 hx hy ⟨g3, h3⟩ hT2
      obtain ⟨t, ht, rfl⟩ := str_at hx
      rw [List.getElem?_map] at hy
      obtain ⟨b, hb, rfl⟩ : ∃ b, (thereL fs)[i]? = some b ∧ y = .bl b := by
        cases e : (thereL fs)[i]? with
        | none => rw [e] at hy; cases hy
        | some b => rw [e] at hy; exact ⟨b, rfl, (Option.some.inj hy).symm⟩
      have hz : (ps.zip (thereL fs))[i]? = some (t, b) := by
        rw [List.getElem?_zip_eq_some]
        exact ⟨ht, hb⟩
      refine newH hT2 fun H3 g4 s8 => ?_
      have g5 := g3.trans g4
      have h4 := g4.lst h3
      refine ⟨_, _, rfl, SqT.of s8, rfl, _, _, rfl, _, _, rfl, rfl, rfl, ?_⟩
      have st : ((ps.zip (thereL fs)).take (i + 1)).map mkS = ((ps.zip (thereL fs)).take i).map mkS ++ [mkS (t, b)] := by
        rw [List.take_succ, hz, List.map_append]; rfl
      have nl : (strV (((ps.zip (thereL fs)).take i).map mkS)).length < sizeLine := by
        unfold strV
        rw [List.length_map, sizeLine_eq]
        exact Nat.lt_of_le_of_lt (rl i) (by decide)
      refine ⟨_, rfl, b, rfl, ite2 (fun hb => ?_) (fun hb => ?_)⟩
      · refine ⟨_, rfl, _, h4, nl, g5.upd' hZ, ?_⟩
        rw [upd_same, st]
        unfold strV
        rw [List.map_append]
        show _ = some (HO.lst (_ ++ [V.str (mkS (t, b))]))
        have e : mkS (t, b) = t := if_pos hb
        rw [e]
      · refine ⟨_, h4, nl, g5.upd' hZ, ?_⟩
        rw [upd_same, st]
        unfold strV
        rw [List.map_append]
        show _ = some (HO.lst (_ ++ [V.str (mkS (t, b))]))
        have e : mkS (t, b) = "" := if_neg hb
        rw [e]
    · rintro H2 ⟨g3, h3⟩
      refine ⟨.inl ⟨Z, _, rfl, SqL.of h3, fun t8 ht8 => ?_⟩⟩
      refine newH ht8 fun H3 g4 s8 => ?_
      have g5 := (G6.trans Gh).trans (g3.trans g4)
      have ln : (strV ps).length = 8 := by unfold strV; rw [List.length_map]; exact hp
      have tk : (ps.zip (thereL fs)).take (strV ps).length = ps.zip (thereL fs) := by
        rw [ln]
        refine List.take_of_length_le ?_
        rw [List.length_zip]
        omega
      have ml : (mask fs ps).length = 8 := by
        unfold mask
        rw [List.length_map, List.length_zip, hp]; rfl
      rw [tk] at s8
      have s8 : H3 t8 = some (.tup (strV (mask fs ps))) := s8
      have sl : (strV (mask fs ps)).length = 8 := by unfold strV; rw [List.length_map]; exact ml
      refine a_tt (SqT.of ((g3.trans g4).tup sT)) (SqT.of s8) (by rw [sl, sizeLine_eq]; show 1 + 8 ≤ 16777216; decide) (fun z => by cases z) (fun _ z => ?_) (fun _ _ t ht => ?_)
      · rw [z] at sl
        cases sl
      · refine newH ht fun H4 g6 s9 => ?_
        have g7 := g5.trans g6
        refine k t ps rs _ hp hpm (g.trans g7.u) (hu'.gr g7) (g.free (hu'.ou (g5.free ht)) (g5.free ht)) (hu'.ou (g5.free ht)) (s9.trans rfl)
end
end Vf
end
section
set_option Elab.async false
set_option linter.all false
set_option maxRecDepth 100000
set_option maxHeartbeats 4000000
namespace Vf
open PySem PySem.Spec PyProof.Rows L2 GxR GenW RZ
abbrev s_SyntaxProblem____init__ : Stmt := inClass (top 7) 0
abbrev n_SyntaxProblem____init__ : List Str := ["self", "line", "column"]
abbrev p_SyntaxProblem____init__ : List Str := ["self", "line", "column"]
theorem sc_SyntaxProblem____init__ : FnScope n_SyntaxProblem____init__ p_SyntaxProblem____init__ (defScope s_SyntaxProblem____init__) := ⟨rfl, rfl, rfl, by decide +kernel, rfl, by decide +kernel, by decide +kernel⟩

abbrev s_words_of : Stmt := top 29
abbrev n_words_of : List Str := ["text", "words", "column", "word"]
abbrev p_words_of : List Str := ["text"]
theorem sc_words_of : FnScope n_words_of p_words_of (defScope s_words_of) := ⟨rfl, rfl, rfl, by decide +kernel, rfl, by decide +kernel, by decide +kernel⟩

abbrev s_LineReader____init__ : Stmt := inClass (top 28) 0
abbrev n_LineReader____init__ : List Str := ["self", "number", "text"]
abbrev p_LineReader____init__ : List Str := ["self", "number", "text"]
theorem sc_LineReader____init__ : FnScope n_LineReader____init__ p_LineReader____init__ (defScope s_LineReader____init__) := ⟨rfl, rfl, rfl, by decide +kernel, rfl, by decide +kernel, by decide +kernel⟩

abbrev s_LineReader__ahead : Stmt := inClass (top 28) 1
abbrev n_LineReader__ahead : List Str := ["self"]
abbrev p_LineReader__ahead : List Str := ["self"]
theorem sc_LineReader__ahead : FnScope n_LineReader__ahead p_LineReader__ahead (defScope s_LineReader__ahead) := ⟨rfl, rfl, rfl, by decide +kernel, rfl, by decide +kernel, by decide +kernel⟩

abbrev s_LineReader__take : Stmt := inClass (top 28) 2
abbrev n_LineReader__take : List Str := ["self", "word"]
abbrev p_LineReader__take : List Str := ["self"]
theorem sc_LineReader__take : FnScope n_LineReader__take p_LineReader__take (defScope s_LineReader__take) := ⟨rfl, rfl, rfl, by decide +kernel, rfl, by decide +kernel, by decide +kernel⟩

abbrev s_LineReader__refuse : Stmt := inClass (top 28) 3
abbrev n_LineReader__refuse : List Str := ["self"]
abbrev p_LineReader__refuse : List Str := ["self"]
theorem sc_LineReader__refuse : FnScope n_LineReader__refuse p_LineReader__refuse (defScope s_LineReader__refuse) := ⟨rfl, rfl, rfl, by decide +kernel, rfl, by decide +kernel, by decide +kernel⟩

abbrev s_LineReader__need : Stmt := inClass (top 28) 4
abbrev n_LineReader__need : List Str := ["self", "is_right"]
abbrev p_LineReader__need : List Str := ["self", "is_right"]
theorem sc_LineReader__need : FnScope n_LineReader__need p_LineReader__need (defScope s_LineReader__need) := ⟨rfl, rfl, rfl, by decide +kernel, rfl, by decide +kernel, by decide +kernel⟩

abbrev s_LineReader__take_only : Stmt := inClass (top 28) 5
abbrev n_LineReader__take_only : List Str := ["self", "word"]
abbrev p_LineReader__take_only : List Str := ["self", "word"]
theorem sc_LineReader__take_only : FnScope n_LineReader__take_only p_LineReader__take_only (defScope s_LineReader__take_only) := ⟨rfl, rfl, rfl, by decide +kernel, rfl, by decide +kernel, by decide +kernel⟩

abbrev FmP (K : PySem.W.Frag) (m q : Str) (st : Stmt) (fd : FuncData) : Prop := FunD K m q (defArgs st) (defBody st) (defScope st) [] [] (He.fAd K ("LineReader", some m)) fd
abbrev FmS (K : PySem.W.Frag) (m q : Str) (st : Stmt) (fd : FuncData) : Prop := FunD K m q (defArgs st) (defBody st) (defScope st) [] [] (He.fAd K ("SyntaxProblem", some m)) fd
/-! ### the words of a line, where they begin -/
abbrev WC := List (Nat × Str)
def wcs : List Str → Nat → WC
  | [], _ => []
  | w :: r, a => (if w = "" then [] else [(a, w)]) ++ wcs r (a + w.length + 1)
def pos : List Str → Nat
  | [] => 0
  | w :: r => w.length + 1 + pos r
theorem wcs_app : ∀ (a b : List Str) (n : Nat), wcs (a ++ b) n = wcs a n ++ wcs b (n + pos a)
  | [], b, n => rfl
  | w :: r, b, n => by
    show _ ++ wcs (r ++ b) _ = (_ ++ wcs r _) ++ _
    rw [wcs_app r b, List.append_assoc]
    show _ ++ (_ ++ wcs b (n + w.length + 1 + pos r)) = _ ++ (_ ++ wcs b (n + (w.length + 1 + pos r)))
    rw [show n + w.length + 1 + pos r = n + (w.length + 1 + pos r) by omega]
theorem pos_app : ∀ a b : List Str, pos (a ++ b) = pos a + pos b
  | [], b => (Nat.zero_add _).symm
  | w :: r, b => by
    show w.length + 1 + pos (r ++ b) = w.length + 1 + pos r + pos b
    rw [pos_app r b]; omega
theorem wcs_take {l : List Str} {i : Nat} {w : Str} (h : l[i]? = some w) : wcs (l.take (i + 1)) 0 = wcs (l.take i) 0 ++ (if w = "" then [] else [(pos (l.take i), w)]) := by
  rw [List.take_succ, h, wcs_app, Nat.zero_add]
  show _ ++ (_ ++ []) = _
  rw [List.append_nil]
theorem pos_take {l : List Str} {i : Nat} {w : Str} (h : l[i]? = some w) : pos (l.take (i + 1)) = pos (l.take i) + w.length + 1 := by
  rw [List.take_succ, h, pos_app]
  show _ + (w.length + 1 + 0) = _
  omega
theorem wcs_len : ∀ (l : List Str) (n : Nat), (wcs l n).length ≤ l.length
  | [], _ => Nat.le_refl _
  | w :: r, n => by
    have := wcs_len r (n + w.length + 1)
    show ((if w = "" then [] else [(n, w)]) ++ wcs r (n + w.length + 1)).length ≤ r.length + 1
    rw [List.length_append]
    split
    · simp only [List.length_nil]; omega
    · simp only [List.length_cons, List.length_nil]; omega
abbrev fin1 (e : Nat) : WC := [(e, ("" : Str))]
def wc (x : Str) : WC := wcs (Txt.split x " ") 0 ++ fin1 x.length
/-- a word of a line -/
structure Wd (w : Str) : Prop where
  ne : w ≠ ""
  ln : w.length ≤ 900000
  pc : 37 ∉ cp w
/-- words, and an end behind them -/
inductive WL : WC → Prop where
  | last (e : Nat) : WL (fin1 e)
  | cons {c : Nat} {w : Str} {r : WC} : Wd w → WL r → WL ((c, w) :: r)
theorem wcs_wl (e : Nat) : ∀ (l : List Str) (n : Nat), (∀ w ∈ l, w ≠ "" → Wd w) → WL (wcs l n ++ fin1 e)
  | [], _, _ => .last e
  | w :: r, n, hw => by
    show WL (((if w = "" then [] else [(n, w)]) ++ wcs r (n + w.length + 1)) ++ fin1 e)
    have ih := wcs_wl e r (n + w.length + 1) fun y hy => hw y (List.mem_cons_of_mem _ hy)
    split
    · exact ih
    · rename_i h
      exact .cons (hw w List.mem_cons_self h) ih
theorem WL.go {l : WC} (h : WL l) : ∃ c w r, l = (c, w) :: r ∧ (w ≠ "" → WL r ∧ Wd w) := by
  cases h with
  | last e => exact ⟨e, "", [], rfl, fun z => absurd rfl z⟩
  | cons a b => exact ⟨_, _, _, rfl, fun _ => ⟨b, a⟩⟩
theorem WL.nx {c : Nat} {w : Str} {r : WC} (h : WL ((c, w) :: r)) (n : w ≠ "") : WL r := by
  cases h with
  | last e => exact absurd rfl n
  | cons a b => exact b
theorem WL.len {c : Nat} {w : Str} {r : WC} (h : WL ((c, w) :: r)) : w.length ≤ 900000 := by
  cases h with
  | last e => decide
  | cons a b => exact a.ln
theorem WL.pc {c : Nat} {w : Str} {r : WC} (h : WL ((c, w) :: r)) : 37 ∉ cp w := by
  cases h with
  | last e => decide
  | cons a b => exact a.pc
theorem WL.en {c : Nat} {r : WC} (h : WL ((c, "") :: r)) : r = [] := by
  cases h with
  | last e => rfl
  | cons a b => exact absurd rfl a.ne
theorem piece_sub {x p : Str} {c : Nat} (h : p ∈ Txt.split x ⟨#[c]⟩) : ∀ d ∈ cp p, d ∈ cp x := by
  have key : ∀ (ps : List (List Nat)) (q : List Nat), q ∈ ps → ∀ d ∈ q, d ∈ ic c ps := fun ps => by
    induction ps with
    | nil => intro q hq; cases hq
    | cons a r ih =>
      intro q hq d hd
      cases r with
      | nil =>
        rw [List.mem_singleton.mp hq] at hd
        exact hd
      | cons b s =>
        show d ∈ a ++ c :: ic c (b :: s)
        rcases List.mem_cons.mp hq with z | z
        · rw [z] at hd
          exact List.mem_append_left _ hd
        · exact List.mem_append_right _ (List.mem_cons_of_mem _ (ih q z d hd))
  have e := congrArg cp (StrLaws.join_split x ⟨#[c]⟩)
  rw [cp_join] at e
  intro d hd
  rw [← e]
  exact key _ (cp p) (List.mem_map.mpr ⟨p, h, rfl⟩) d hd
/-! ### what stands in the heap -/
def WAt (H : Hp) (ws : List V) (W : WC) : Prop := ws.length = W.length ∧ ∀ (j c : Nat) (x : Str), W[j]? = some (c, x) → ∃ t : Addr, ws[j]? = some (V.ref t) ∧ H t = some (.tup [.int ((c + 1 : Nat)), .str x])
theorem WAt.m {S : List Addr} {H H' : Hp} {ws : List V} {W : WC} (h : WAt H ws W) (g : GrM S H H') : WAt H' ws W := ⟨h.1, fun j c x e => by
  obtain ⟨t, h1, h2⟩ := h.2 j c x e
  exact ⟨t, h1, g.tup h2⟩⟩
theorem WAt.nil {H : Hp} : WAt H [] [] := ⟨rfl, fun j c x e => by simp at e⟩
theorem WAt.snoc {H : Hp} {ws : List V} {W : WC} {t : Addr} {c : Nat} {x : Str} (h : WAt H ws W) (ht : H t = some (.tup [.int ((c + 1 : Nat)), .str x])) : WAt H (ws ++ [V.ref t]) (W ++ [(c, x)]) := by
  refine ⟨by rw [List.length_append, List.length_append, h.1]; rfl, fun j c' y e => ?_⟩
  by_cases hj : j < W.length
  · rw [List.getElem?_append_left hj] at e
    obtain ⟨t', h1, h2⟩ := h.2 j c' y e
    exact ⟨t', by rw [List.getElem?_append_left (by rw [h.1]; exact hj)]; exact h1, h2⟩
  · rw [List.getElem?_append_right (by omega)] at e
    have e0 : j - W.length = 0 := by
      have := (List.getElem?_eq_some_iff.mp e).1
      simp at this
      omega
    rw [e0] at e
    cases e
    refine ⟨t, ?_, ht⟩
    rw [List.getElem?_append_right (by rw [h.1]; omega), h.1, e0]; rfl
def flds (n : Int) (wl : Addr) (i : Nat) : List (Str × V) := [("number", .int n), ("words", .ref wl), ("at", .int i)]
/-- a reader at r, its words at wl, with these still ahead -/
structure Rd (K : PySem.W.Frag) (H : Hp) (r wl : Addr) (n : Int) (rest : WC) : Prop where
  ex : ∃ (dx : Addr) (ws : List V) (W : WC) (i : Nat), H r = some (.ins (LR K) dx (flds n wl i)) ∧ H wl = some (.lst ws) ∧ WAt H ws W ∧ W.drop i = rest ∧ W.length ≤ 1000000
section
variable {K : PySem.W.Frag} {S : List Addr} {H H' : Hp} {r wl : Addr} {n : Int} {rest : WC}
theorem Rd.m (h : Rd K H r wl n rest) (g : GrM S H H') (hr : r ∉ S) (hw : wl ∉ S) : Rd K H' r wl n rest := by
  obtain ⟨dx, ws, W, i, h1, h2, h3, h4, h5⟩ := h.ex
  exact ⟨dx, ws, W, i, g.keep hr h1 (fun _ z => by cases z), g.keep hw h2 (fun _ z => by cases z), h3.m g, h4, h5⟩
theorem Rd.gr (h : Rd K H r wl n rest) (g : Gr H H') : Rd K H' r wl n rest := h.m (g.m (S := [])) (by simp) (by simp)
theorem Rd.mu (h : Rd K H r wl n rest) : Mu H r := by
  obtain ⟨dx, ws, W, i, h1, _⟩ := h.ex
  exact Mu.ins h1
theorem Rd.ne (h : Rd K H r wl n rest) : wl ≠ r := by
  obtain ⟨dx, ws, W, i, h1, h2, _⟩ := h.ex
  exact ne_of h2 h1 (by intro z; cases z)
end
/-- the error at column c of the line n may go out -/
def Er (K : PySem.W.Frag) (E : XK) (S : List Addr) (n : Int) (c : Nat) (H : Hp) : Prop := ∀ d H', GrM S H H' → H' d = some (.xd [("column", .int ((c + 1 : Nat))), ("line", .int n)]) → E (.ref (CS K)) (some d) H'
theorem Er.go {K : PySem.W.Frag} {E : XK} {S S' : List Addr} {n : Int} {c : Nat} {H H1 : Hp} (h : Er K E S n c H) (g : GrM S H H1) (hs : ∀ b ∈ S', b ∈ S) : Er K E S' n c H1 := fun d H' g' he => h d H' (g.trans (g'.mono hs)) he
/-- kept, but for what stands at a -/
def Kp (a : Addr) (H H' : Hp) : Prop := ∀ b o, b ≠ a → H b = some o → H' b = some o
def spSI (K : PySem.W.Frag) : Sp := fun vs H Q _ => ∃ (a : Addr) (v w : V), vs = [.ref a, v, w] ∧ H a = some (exo a (CS K) none) ∧ ∀ d H', H d = none → Kp a H H' → H' a = some (exo a (CS K) (some d)) → H' d = some (exd d [("column", w), ("line", v)]) → Q .non H'
def spWordsOf : Sp := fun vs H Q _ => ∃ x : Str, vs = [.str x] ∧ x.length ≤ 900000 ∧ ∀ wl ws H', Gr H H' → H wl = none → H' wl = some (.lst ws) → WAt H' ws (wc x) → (wc x).length ≤ 900002 → Q (.ref wl) H'
def spInit (K : PySem.W.Frag) : Sp := fun vs H Q _ => ∃ (r dx : Addr) (n : Int) (x : Str), vs = [.ref r, .int n, .str x] ∧ H r = some (.ins (LR K) dx []) ∧ x.length ≤ 900000 ∧ ∀ wl H', GrM [r] H H' → H wl = none → Rd K H' r wl n (wc x) → Q .non H'
def spAhead (K : PySem.W.Frag) : Sp := fun vs H Q _ => ∃ (r wl : Addr) (n : Int) (c : Nat) (x : Str) (rest : WC), vs = [.ref r] ∧ Rd K H r wl n ((c, x) :: rest) ∧ Q (.str x) H
def spTake (K : PySem.W.Frag) : Sp := fun vs H Q _ => ∃ (r wl : Addr) (n : Int) (c : Nat) (x : Str) (rest : WC), vs = [.ref r] ∧ Rd K H r wl n ((c, x) :: rest) ∧ ∀ H', GrM [r] H H' → Rd K H' r wl n rest → Q (.str x) H'
def spRefuse (K : PySem.W.Frag) : Sp := fun vs H Q E => ∃ (r wl : Addr) (n : Int) (c : Nat) (x : Str) (rest : WC), vs = [.ref r] ∧ Rd K H r wl n ((c, x) :: rest) ∧ Er K E [] n c H
def spNeed (K : PySem.W.Frag) : Sp := fun vs H Q E => ∃ (r wl : Addr) (n : Int) (c : Nat) (x : Str) (rest : WC) (b : Bool), vs = [.ref r, .bl b] ∧ Rd K H r wl n ((c, x) :: rest) ∧ (b = true → Q .non H) ∧ (b = false → Er K E [] n c H)
def spOnly (K : PySem.W.Frag) : Sp := fun vs H Q E => ∃ (r wl : Addr) (n : Int) (c : Nat) (x y : Str) (rest : WC), vs = [.ref r, .str y] ∧ Rd K H r wl n ((c, x) :: rest) ∧ (x = y → ∀ H', GrM [r] H H' → Rd K H' r wl n rest → Q .non H') ∧ (x ≠ y → Er K E [] n c H)
theorem split_len (x : Str) : (Txt.split x " ").length ≤ x.length + 1 := by
  have key : ∀ l : List Nat, (sp 32 l).length ≤ l.length + 1 := fun l => by
    induction l with
    | nil => exact Nat.le_refl _
    | cons a r ih =>
      unfold sp
      split
      · simp only [List.length_cons]; omega
      · split
        · rename_i p q e
          rw [e] at ih
          simp only [List.length_cons] at ih ⊢
          omega
        · simp
  have q := congrArg List.length (split_sp x 32)
  rw [List.length_map] at q
  show (Txt.split x ⟨#[32]⟩).length ≤ _
  rw [q]
  have := key (cp x)
  rw [cp_len] at this
  exact this
theorem piece_len {x p : Str} (h : p ∈ Txt.split x " ") : p.length ≤ x.length := by
  have key : ∀ (ps : List (List Nat)) (q : List Nat), q ∈ ps → q.length ≤ (ic 32 ps).length := fun ps => by
    induction ps with
    | nil => intro q hq; cases hq
    | cons a r ih =>
      intro q hq
      cases r with
      | nil =>
        rw [List.mem_singleton.mp hq]
        exact Nat.le_refl _
      | cons b s =>
        show q.length ≤ (a ++ 32 :: ic 32 (b :: s)).length
        rw [List.length_append, List.length_cons]
        rcases List.mem_cons.mp hq with z | z
        · rw [z]; omega
        · have := ih q z
          omega
  have e := congrArg cp (StrLaws.join_split x ⟨#[32]⟩)
  rw [cp_join] at e
  have q := key _ (cp p) (List.mem_map.mpr ⟨p, h, rfl⟩)
  rw [cp_len] at q
  refine Nat.le_trans q ?_
  rw [← cp_len x, ← e]
  exact Nat.le_refl _
theorem wc_wl {x : Str} (h : x.length ≤ 900000) (h7 : 37 ∉ cp x) : WL (wc x) := wcs_wl _ _ _ fun w hw ne => ⟨ne, Nat.le_trans (piece_len hw) h, fun z => h7 (piece_sub hw _ z)⟩
section
variable {P : Program} {w : World} {K : PySem.W.Frag} {mg : Str → Option Value} {base : Heap}
theorem ok_SyntaxProblem {fd : FuncData} (F : FmS K "__init__" "SyntaxProblem.__init__" s_SyntaxProblem____init__ fd) (T : TY K mg) : FnOk P w K mg base CX0 1 (He.fAd K ("SyntaxProblem", some "__init__")) fd p_SyntaxProblem____init__ (spSI K) := by
  refine okP F sc_SyntaxProblem____init__ (fun vs H Q E h => by obtain ⟨a, v, w, rfl, _⟩ := h; rfl) (fun A outer s H vs Q E hr h => ?_)
  obtain ⟨a, v, w, rfl, h1, k⟩ := h
  refine ⟨_, (pss_cons (ps_ost (pv 0) (pv 1)) (pss_one (ps_ost (pv 0) (pv 2)))), ?_⟩
  refine ⟨_, rfl, _, rfl, a, _, rfl, T.oS, T.lS, .inl ⟨h1, fun d hd hda => ?_⟩⟩
  refine ⟨_, rfl, _, rfl, a, _, rfl, T.oS, T.uS, .inr ⟨d, _, upd_same, by rw [upd_ne hda]; exact upd_same, (by show 1 ≤ 900; decide), ?_⟩⟩
  refine k d _ hd (fun b o hb e => ?_) (by rw [upd_ne (Ne.symm hda)]; exact upd_same) upd_same
  have hbd := ne_of_none e hd
  rw [upd_ne hbd, upd_ne hb, upd_ne hbd]
  exact e
theorem ok_words_of {fd : FuncData} (F : FnP K "words_of" s_words_of fd) (T : TY K mg) : FnOk P w K mg base CX0 1 (He.fAd K ("words_of", none)) fd p_words_of spWordsOf := by
  refine okP F sc_words_of (fun vs H Q E h => by obtain ⟨s, rfl, _⟩ := h; rfl) (fun A outer s H vs Q E hr h => ?_)
  obtain ⟨x, rfl, hx, k⟩ := h
  refine ⟨_, (pss_cons (ps_set (i := 1) sc_words_of.nd rfl (by first | exact Or.inl rfl | exact Or.inr rfl) (pe_lst pa_nil))
      (pss_cons (ps_set (i := 2) sc_words_of.nd rfl (by first | exact Or.inl rfl | exact Or.inr rfl) pe_int)
      (pss_cons (ps_for PassesOwn.never rfl (k_list (K := K) rfl (pe_split (pv 0) pe_str)) (pg_name (i := 3) sc_words_of.nd rfl (by first | exact Or.inl rfl | exact Or.inr rfl))
      (C8.pss_cut (ps_if (pt_cmpR (u_ne (K := K) rfl hr.units) (pv 3) pe_str (nomark _))
      (pss_one (ps_expr (k_bm (K := K) rfl PySem.F.plainAttrs_list PySem.F.slot_list_append PySem.F.type_list_append mt_append (pv 1) (pa_cons (pe_tup (pa_cons (pv 2) (pa_cons (pv 3) pa_nil))) pa_nil))))
      pss_nil)
      (pss_one (ps_aug (i := 2) sc_words_of.nd rfl (.inl rfl) (pe_op (u_add (K := K) rfl) (pe_callB (k_len (K := K) rfl) rfl T.b_len (by decide +kernel) (pa_cons (pv 3) pa_nil)) pe_int) ip_add))))
      (pss_cons (ps_expr (k_bm (K := K) rfl PySem.F.plainAttrs_list PySem.F.slot_list_append PySem.F.type_list_append mt_append (pv 1) (pa_cons (pe_tup (pa_cons (pe_op (u_add (K := K) rfl) (pe_callB (k_len (K := K) rfl) rfl T.b_len (by decide +kernel) (pa_cons (pv 0) pa_nil)) pe_int) (pa_cons pe_str pa_nil))) pa_nil)))
      (pss_one (ps_ret (pv 1))))))), ?_⟩
  have sl : (Txt.split x " ").length ≤ 900001 := Nat.le_trans (split_len x) (by omega)
  refine ⟨Nat.zero_le _, fun wl hwl => ?_⟩
  refine newH hwl fun H1 g1 s1 => ?_
  refine ⟨_, rfl, ⟨_, rfl⟩, x, " ", rfl, rfl, by decide +kernel, by rw [sizeLine_eq]; omega, fun L hL => ?_⟩
  have nL : L ≠ wl := Ne.symm (ne_of_none s1 hL)
  refine newH hL fun H2 g2 s2 => ?_
  have s2w := g2.lst s1
  refine ⟨L, rfl, ⟨_, SqL.of s2⟩, ?_⟩
  have wl2 : ∀ {i : Nat} {ws : List V} {H' : Hp}, WAt H' ws (wcs ((Txt.split x " ").take i) 0) → ws.length ≤ 900001 := fun {i ws H'} ha => by
    rw [ha.1]
    exact Nat.le_trans (wcs_len _ _) (by rw [List.length_take]; omega)
  refine for_list (K := K) (a := L) (xs := strV (Txt.split x " ")) (fun i σ H' => ∃ (ws : List V) (o3 : Option V), σ = [some (.str x), some (.ref wl), some (.int ((pos ((Txt.split x " ").take i) + 1 : Nat))), o3] ∧ GrM [wl] H2 H' ∧ H' wl = some (.lst ws) ∧ WAt H' ws (wcs ((Txt.split x " ").take i) 0))
    ⟨[], none, rfl, GrM.refl _ _, s2w, WAt.nil⟩ ?_ ?_ ?_
  · rintro i σ H' _ ⟨ws, o3, rfl, g, _⟩
    exact SqL.of (g.keep (by simpa using nL) s2 (fun _ z => by cases z))
  · rintro i y σ H' hy ⟨ws, o3, rfl, g, hw, ha⟩
    obtain ⟨p, hp, rfl⟩ := str_at hy
    have pl := piece_len (List.mem_of_getElem? hp)
    have wl2 := wl2 ha
    have key := wcs_take hp
    refine ⟨fun σ H' => ∃ (ws : List V), σ = [some (.str x), some (.ref wl), some (.int ((pos ((Txt.split x " ").take i) + 1 : Nat))), some (.str p)] ∧ GrM [wl] H2 H' ∧ H' wl = some (.lst ws) ∧ WAt H' ws (wcs ((Txt.split x " ").take (i + 1)) 0), ?_, ?_⟩
    · refine ⟨_, rfl, n_flat rfl ⟨_, rfl, ?_⟩⟩
      rw [dvs]
      by_cases h1 : p = ""
      · rw [decide_eq_true h1]
        rw [if_pos h1, List.append_nil] at key
        refine iteF ⟨_, rfl, g, hw, ?_⟩
        rw [key]
        exact ha
      · rw [decide_eq_false h1]
        rw [if_neg h1] at key
        refine iteT ⟨_, rfl, .inl ⟨rfl, _, SqL.of hw⟩, _, rfl, _, rfl, by show 2 ≤ sizeLine; rw [sizeLine_eq]; decide, fun t ht => ?_⟩
        have nt : t ≠ wl := Ne.symm (ne_of_none hw ht)
        refine newH ht fun H3 g3 s3 => ?_
        have hw3 := g3.lst hw
        refine ⟨wl, _, _, rfl, rfl, hw3, by rw [sizeLine_eq]; omega, ?_⟩
        refine ⟨_, rfl, (g.trans g3.m).upd (by simp) (Mu.lst s2w), upd_same, ?_⟩
        rw [key]
        refine WAt.snoc ?_ (by rw [upd_ne nt]; exact s3)
        exact ha.m (S := [wl]) ((g3.m).upd (by simp) (Mu.lst hw))
    · rintro σ H3 ⟨ws, rfl, g, hw, ha⟩
      refine ⟨_, rfl, _, rfl, _, _, rfl, ⟨by rw [sizeLine_eq]; omega, rfl⟩, a_ii ⟨_, _, rfl, rfl, ?_⟩⟩
      have e : (((pos ((Txt.split x " ").take i) + 1 : Nat) : Int) + (((p.length : Nat) : Int) + 1)) = ((pos ((Txt.split x " ").take (i + 1)) + 1 : Nat) : Int) := by
        rw [pos_take hp]; omega
      exact ⟨ws, some (.str p), by rw [← e]; rfl, g, hw, ha⟩
  · rintro σ H' ⟨ws, o3, rfl, g, hw, ha⟩
    have wl2 := wl2 ha
    have ha : WAt H' ws (wcs (Txt.split x " ") 0) := by
      have e : (Txt.split x " ").take (strV (Txt.split x " ")).length = Txt.split x " " := List.take_of_length_le (by unfold strV; rw [List.length_map]; exact Nat.le_refl _)
      rw [e] at ha
      exact ha
    refine ⟨_, rfl, .inl ⟨rfl, _, SqL.of hw⟩, _, rfl, _, _, rfl, ⟨by rw [sizeLine_eq]; omega, rfl⟩, a_ii ⟨by show 2 ≤ sizeLine; rw [sizeLine_eq]; decide, fun t ht => ?_⟩⟩
    have nt : t ≠ wl := Ne.symm (ne_of_none hw ht)
    refine newH ht fun H3 g3 s3 => ?_
    have hw3 := g3.lst hw
    refine ⟨wl, _, _, rfl, rfl, hw3, by rw [sizeLine_eq]; omega, ?_⟩
    have g4 : GrM [wl] H2 (upd H3 wl (.lst (ws ++ [V.ref t]))) := (g.trans g3.m).upd (by simp) (Mu.lst s2w)
    refine ⟨_, rfl, k wl (ws ++ [.ref t]) _ ?_ hwl upd_same ?_ ?_⟩
    · exact GrM.gr (((g1.trans g2).m (S := [wl])).trans g4) (by simpa using hwl)
    · show WAt _ _ (wcs (Txt.split x " ") 0 ++ [(x.length, ("" : Str))])
      refine WAt.snoc (c := x.length) ?_ (by rw [upd_ne nt]; exact s3)
      exact ha.m (S := [wl]) ((g3.m).upd (by simp) (Mu.lst hw))
    · unfold wc
      rw [List.length_append, List.length_singleton]
      have := wcs_len (Txt.split x " ") 0
      omega
theorem put_fl {x : Str} (y : V) : ∀ {l : List (Str × V)}, putF x y l = putF x y l := fun {_} => rfl
theorem flds_words (n : Int) (wl : Addr) (i : Nat) : (flds n wl i).lookup ("words" : Str) = some (.ref wl) := by
  have h1 : (("words" : Str) == ("number" : Str)) = false := by decide +kernel
  have h2 : (("words" : Str) == ("words" : Str)) = true := by decide +kernel
  unfold flds
  simp only [List.lookup_cons, h1, h2]
theorem flds_num (n : Int) (wl : Addr) (i : Nat) : (flds n wl i).lookup ("number" : Str) = some (.int n) := by
  have h1 : (("number" : Str) == ("number" : Str)) = true := by decide +kernel
  unfold flds
  simp only [List.lookup_cons, h1]
theorem flds_at (n : Int) (wl : Addr) (i : Nat) : (flds n wl i).lookup ("at" : Str) = some (.int i) := by
  have h1 : (("at" : Str) == ("number" : Str)) = false := by decide +kernel
  have h2 : (("at" : Str) == ("words" : Str)) = false := by decide +kernel
  have h3 : (("at" : Str) == ("at" : Str)) = true := by decide +kernel
  unfold flds
  simp only [List.lookup_cons, h1, h2, h3]
theorem flds_no (n : Int) (wl : Addr) (i : Nat) {m : Str} (h1 : (m == ("number" : Str)) = false) (h2 : (m == ("words" : Str)) = false) (h3 : (m == ("at" : Str)) = false) : (flds n wl i).lookup m = none := by
  unfold flds
  simp only [List.lookup_cons, h1, h2, h3, List.lookup_nil]
theorem sne {a b : Str} (h : decide (a = b) = false) : ¬ a = b := of_decide_eq_false h
theorem flds_put (n : Int) (wl : Addr) (i j : Nat) : putF "at" (.int j) (flds n wl i) = flds n wl j := by
  unfold flds
  show (if ("number" : Str) = "at" then _ else (("number" : Str), V.int n) :: (if ("words" : Str) = "at" then _ else (("words" : Str), V.ref wl) :: (if ("at" : Str) = "at" then [(("at" : Str), V.int j)] else _))) = _
  rw [if_neg (by decide +kernel), if_neg (by decide +kernel), if_pos rfl]
theorem flds_two (n : Int) (wl : Addr) : putF "words" (.ref wl) (putF "number" (.int n) []) = [(("number" : Str), V.int n), (("words" : Str), V.ref wl)] := by
  have e1 : putF "number" (.int n) [] = [(("number" : Str), V.int n)] := rfl
  rw [e1]
  show (if ("number" : Str) = "words" then _ else (("number" : Str), V.int n) :: putF "words" (.ref wl) []) = _
  rw [if_neg (by decide +kernel)]; rfl
theorem flds_mk (n : Int) (wl : Addr) : putF "at" (.int (0 : Nat)) (putF "words" (.ref wl) (putF "number" (.int n) [])) = flds n wl 0 := by
  unfold flds
  have e1 : putF "number" (.int n) [] = [(("number" : Str), V.int n)] := rfl
  rw [e1]
  have e2 : putF "words" (.ref wl) [(("number" : Str), V.int n)] = [(("number" : Str), V.int n), (("words" : Str), V.ref wl)] := by
    show (if ("number" : Str) = "words" then _ else (("number" : Str), V.int n) :: putF "words" (.ref wl) []) = _
    rw [if_neg (by decide +kernel)]; rfl
  rw [e2]
  show (if ("number" : Str) = "at" then _ else (("number" : Str), V.int n) :: (if ("words" : Str) = "at" then _ else (("words" : Str), V.ref wl) :: putF "at" (.int (0 : Nat)) [])) = _
  rw [if_neg (by decide +kernel), if_neg (by decide +kernel)]; rfl
theorem ok_init {fd : FuncData} (F : FmP K "__init__" "LineReader.__init__" s_LineReader____init__ fd) (T : TY K mg) (D_words_of : Df P w K mg base "words_of" 1 p_words_of spWordsOf) : FnOk P w K mg base CX0 2 (He.fAd K ("LineReader", some "__init__")) fd p_LineReader____init__ (spInit K) := by
  refine okP F sc_LineReader____init__ (fun vs H Q E h => by obtain ⟨r, dx, n, x, rfl, _⟩ := h; rfl) (fun A outer s H vs Q E hr h => ?_)
  obtain ⟨r, dx, n, x, rfl, hr0, hx, k⟩ := h
  refine ⟨_, (pss_cons (ps_fld (pv 0) (pv 1) rfl)
      (pss_cons (ps_fld (pv 0) (pe_fn D_words_of hr (by decide) rfl (pa_cons (pv 2) pa_nil)) rfl)
      (pss_one (ps_fld (pv 0) pe_int rfl)))), ?_⟩
  refine ⟨_, rfl, _, rfl, r, LR K, dx, _, rfl, hr0, T.cl, T.nN, by show 0 < 1000; decide, ?_⟩
  have m0 := Mu.ins hr0
  have g1 : GrM [r] H (upd H r (.ins (LR K) dx (putF "number" (.int n) []))) := (GrM.refl _ _).upd (by simp) m0
  refine ⟨_, rfl, x, rfl, hx, fun wl ws H2 g2 hwl s2 ha hlen => ?_⟩
  have hwr : H wl = none := g1.free (fun z => by rw [List.mem_singleton] at z; subst z; rw [upd_same] at hwl; cases hwl) hwl
  have nr : wl ≠ r := fun z => by subst z; rw [hr0] at hwr; cases hwr
  have s1 : H2 r = some (.ins (LR K) dx (putF "number" (.int n) [])) := g2.keep upd_same (fun _ z => by cases z)
  refine ⟨_, rfl, r, LR K, dx, _, rfl, s1, T.cl, T.nW, by show 1 < 1000; decide, ?_⟩
  have g3 : GrM [r] H (upd H2 r (.ins (LR K) dx (putF "words" (.ref wl) (putF "number" (.int n) [])))) := (g1.trans g2.m).upd (by simp) m0
  refine ⟨_, rfl, r, LR K, dx, _, rfl, upd_same, T.cl, T.nA, by rw [flds_two]; show 2 < 1000; decide, ?_⟩
  refine k wl _ (g3.upd (by simp) m0) hwr ⟨dx, ws, _, 0, ?_, ?_, ha.m (S := [r]) (((GrM.refl _ _).upd (by simp) (Mu.ins s1)).upd (by simp) (Mu.ins s1)), rfl, ?_⟩
  · rw [upd_same]
    exact congrArg (fun l => some (HO.ins (LR K) dx l)) (flds_mk n wl)
  · rw [upd_ne nr, upd_ne nr]
    exact s2
  · omega
theorem drop_at {W rest : WC} {i : Nat} {p : Nat × Str} (h : W.drop i = p :: rest) : W[i]? = some p := by
  have q := congrArg (fun l => l[0]?) h
  simp only [List.getElem?_drop, Nat.add_zero] at q
  exact q
theorem ok_ahead {fd : FuncData} (F : FmP K "ahead" "LineReader.ahead" s_LineReader__ahead fd) (T : TY K mg) : FnOk P w K mg base CX0 1 (He.fAd K ("LineReader", some "ahead")) fd p_LineReader__ahead (spAhead K) := by
  refine okP F sc_LineReader__ahead (fun vs H Q E h => by obtain ⟨r, wl, n, c, x, rest, rfl, _⟩ := h; rfl) (fun A outer s H vs Q E hr h => ?_)
  obtain ⟨r, wl, n, c, x, rest, rfl, ⟨⟨dx, ws, W, i, h1, h2, h3, h4, h5⟩⟩, k⟩ := h
  refine ⟨_, (pss_one (ps_ret (pe_ix (u_ix (K := K) rfl) (pe_ix (u_ix (K := K) rfl) (pe_fld (pv 0) rfl) (pe_fld (pv 0) rfl) (fun _ _ => rfl)) pe_int (fun _ _ => rfl)))), ?_⟩
  obtain ⟨t, e1, e2⟩ := h3.2 i c x (drop_at h4)
  refine ⟨_, rfl, r, LR K, dx, _, _, rfl, h1, T.cl, T.nW, flds_words _ _ _, _, rfl, r, LR K, dx, _, _, rfl, h1, T.cl, T.nA, flds_at _ _ _, x_l (SqL.of h2) (atI_nat e1) (x_t (SqT.of e2) (atI_nat (j := 1) rfl) k)⟩
theorem ok_take {fd : FuncData} (F : FmP K "take" "LineReader.take" s_LineReader__take fd) (T : TY K mg) (D_LineReader__ahead : Mf P w K mg base (LR K) "ahead" 1 p_LineReader__ahead (spAhead K)) : FnOk P w K mg base CX0 2 (He.fAd K ("LineReader", some "take")) fd p_LineReader__take (spTake K) := by
  refine okP F sc_LineReader__take (fun vs H Q E h => by obtain ⟨r, wl, n, c, x, rest, rfl, _⟩ := h; rfl) (fun A outer s H vs Q E hr h => ?_)
  obtain ⟨r, wl, n, c, x, rest, rfl, hd, k⟩ := h
  refine ⟨_, (pss_cons (ps_set (i := 1) sc_LineReader__take.nd rfl (by first | exact Or.inl rfl | exact Or.inr rfl) (pe_mt0 T.cl D_LineReader__ahead hr (by decide) (pv 0)))
      (pss_cons (ps_fldaug (pv 0) pe_int in_add)
      (pss_one (ps_ret (pv 1))))), ?_⟩
  obtain ⟨dx, ws, W, i, h1, h2, h3, h4, h5⟩ := hd.ex
  refine ⟨_, rfl, r, dx, _, rfl, h1, flds_no _ _ _ (by decide +kernel) (by decide +kernel) (by decide +kernel), r, wl, n, c, x, rest, rfl, hd, ?_⟩
  refine ⟨_, rfl, r, LR K, dx, _, _, rfl, h1, T.cl, T.nA, flds_at _ _ _, _, _, rfl, rfl, dx, _, h1, by show 3 < 1000; decide, ?_⟩
  have nr := hd.ne
  refine ⟨_, rfl, k _ ((GrM.refl _ _).upd (by simp) hd.mu) ⟨dx, ws, W, i + 1, ?_, ?_, h3.m (S := [r]) ((GrM.refl _ _).upd (by simp) hd.mu), ?_, h5⟩⟩
  · rw [upd_same]
    exact congrArg (fun l => some (HO.ins (LR K) dx l)) (flds_put n wl i (i + 1))
  · rw [upd_ne nr]
    exact h2
  · rw [← List.drop_drop, h4]; rfl
theorem ok_refuse {fd : FuncData} (F : FmP K "refuse" "LineReader.refuse" s_LineReader__refuse fd) (T : TY K mg) (D_SyntaxProblem : DfI P w K mg base "SyntaxProblem" (CS K) 1 p_SyntaxProblem____init__ (spSI K)) : FnOk P w K mg base (L2.CX P w) 3 (He.fAd K ("LineReader", some "refuse")) fd p_LineReader__refuse (spRefuse K) := by
  refine okPX F sc_LineReader__refuse (fun vs H Q E h => by obtain ⟨r, wl, n, c, x, rest, rfl, _⟩ := h; rfl) (fun A outer s H vs Q E hr h => ?_)
  obtain ⟨r, wl, n, c, x, rest, rfl, ⟨⟨dx, ws, W, i, h1, h2, h3, h4, h5⟩⟩, k⟩ := h
  refine ⟨_, (pss_one (ps_raiseI rfl (takes_of rfl rfl rfl rfl) D_SyntaxProblem hr (by decide) rfl (pa_cons (pe_fld (pv 0) rfl) (pa_cons (pe_ix (u_ix (K := K) rfl) (pe_ix (u_ix (K := K) rfl) (pe_fld (pv 0) rfl) (pe_fld (pv 0) rfl) (fun _ _ => rfl)) pe_int (fun _ _ => rfl)) pa_nil)))), ?_⟩
  obtain ⟨t, e1, e2⟩ := h3.2 i c x (drop_at h4)
  refine ⟨_, rfl, r, LR K, dx, _, _, rfl, h1, T.cl, T.nN, flds_num _ _ _, _, rfl, r, LR K, dx, _, _, rfl, h1, T.cl, T.nW, flds_words _ _ _, _, rfl, r, LR K, dx, _, _, rfl, h1, T.cl, T.nA, flds_at _ _ _, x_l (SqL.of h2) (atI_nat e1) (x_t (SqT.of e2) (atI_nat (j := 0) rfl) ⟨by show 2 ≤ 1000; decide, fun a ha => ?_⟩)⟩
  refine ⟨a, .int n, .int ((c + 1 : Nat)), rfl, upd_same, fun d H' hd hk ea ed => ⟨rfl, d, _, ea, ed, ?_, k d _ ?_ upd_same⟩⟩
  · by_cases z : d = a
    · rw [z]; exact ha
    · rw [upd_ne z] at hd
      exact hd
  · have dn : H d = none := by
      by_cases z : d = a
      · rw [z]; exact ha
      · rw [upd_ne z] at hd
        exact hd
    refine Gr.m fun b o e => .inl ?_
    have nb := ne_of_none e ha
    rw [upd_ne (ne_of_none e dn), del_ne nb]
    exact hk b o nb (by rw [upd_ne nb]; exact e)
theorem ok_need {fd : FuncData} (F : FmP K "need" "LineReader.need" s_LineReader__need fd) (T : TY K mg) (D_LineReader__refuse : Mx P w K mg base (LR K) "refuse" 3 p_LineReader__refuse (spRefuse K)) : FnOk P w K mg base (L2.CX P w) 4 (He.fAd K ("LineReader", some "need")) fd p_LineReader__need (spNeed K) := by
  refine okPX F sc_LineReader__need (fun vs H Q E h => by obtain ⟨r, wl, n, c, x, rest, b, rfl, _⟩ := h; rfl) (fun A outer s H vs Q E hr h => ?_)
  obtain ⟨r, wl, n, c, x, rest, b, rfl, hd, k1, k2⟩ := h
  refine ⟨_, (pss_one (ps_if (pt_not (k_truth (K := K) rfl (pv 1) (by intro _; rfl)))
      (pss_one (ps_expr (pe_mtX0 (takes_of rfl rfl rfl rfl) T.cl D_LineReader__refuse hr (by decide) (pv 0))))
      pss_nil)), ?_⟩
  refine ⟨_, rfl, b, rfl, ?_⟩
  cases b with
  | true => exact iteF (k1 rfl)
  | false =>
    obtain ⟨dx, ws, W, i, h1, _⟩ := hd.ex
    exact iteT ⟨_, rfl, r, dx, _, rfl, h1, flds_no _ _ _ (by decide +kernel) (by decide +kernel) (by decide +kernel), r, wl, n, c, x, rest, rfl, hd, k2 rfl⟩
theorem ok_only {fd : FuncData} (F : FmP K "take_only" "LineReader.take_only" s_LineReader__take_only fd) (T : TY K mg) (D_LineReader__ahead : Mf P w K mg base (LR K) "ahead" 1 p_LineReader__ahead (spAhead K))
    (D_LineReader__need : Mx P w K mg base (LR K) "need" 4 p_LineReader__need (spNeed K)) (D_LineReader__take : Mf P w K mg base (LR K) "take" 2 p_LineReader__take (spTake K)) : FnOk P w K mg base (L2.CX P w) 5 (He.fAd K ("LineReader", some "take_only")) fd p_LineReader__take_only (spOnly K) := by
  refine okPX F sc_LineReader__take_only (fun vs H Q E h => by obtain ⟨r, wl, n, c, x, y, rest, rfl, _⟩ := h; rfl) (fun A outer s H vs Q E hr h => ?_)
  obtain ⟨r, wl, n, c, x, y, rest, rfl, hd, k1, k2⟩ := h
  refine ⟨_, (pss_cons (ps_expr (pe_mtX (takes_of rfl rfl rfl rfl) T.cl D_LineReader__need hr (by decide) (pv 0) (pa_cons (pe_cmpR (u_eq (K := K) rfl hr.units) (pe_mt0 T.cl D_LineReader__ahead hr (by decide) (pv 0)) (pv 1) (nomark _)) pa_nil)))
      (pss_one (ps_expr (pe_mt0 T.cl D_LineReader__take hr (by decide) (pv 0))))), ?_⟩
  obtain ⟨dx, ws, W, i, h1, h2, h3, h4, h5⟩ := hd.ex
  have no : ∀ {m : Str}, (m == ("number" : Str)) = false → (m == ("words" : Str)) = false → (m == ("at" : Str)) = false → (flds n wl i).lookup m = none := fun a b c => flds_no _ _ _ a b c
  refine ⟨_, rfl, r, dx, _, rfl, h1, no (by decide +kernel) (by decide +kernel) (by decide +kernel), _, rfl, r, dx, _, rfl, h1, no (by decide +kernel) (by decide +kernel) (by decide +kernel), r, wl, n, c, x, rest, rfl, hd, _, rfl, e_flat rfl ?_⟩
  rw [dvs]
  refine ⟨r, wl, n, c, x, rest, _, rfl, hd, fun e => ?_, fun e => k2 (of_decide_eq_false e)⟩
  have e := of_decide_eq_true e
  exact ⟨_, rfl, r, dx, _, rfl, h1, no (by decide +kernel) (by decide +kernel) (by decide +kernel), r, wl, n, c, x, rest, rfl, hd, fun H' g hd' => k1 e H' g hd'⟩
end
end Vf
end
section
set_option Elab.async false
set_option linter.all false
set_option maxRecDepth 100000
set_option maxHeartbeats 4000000
namespace Vf
open PySem PySem.Spec PyProof.Rows L2 GxR GenW RZ
theorem eqvAll_strs : ∀ xs ys : List Str, PyData.eqvAll (xs.map PyData.str) (ys.map PyData.str) = decide (xs = ys)
  | [], [] => rfl
  | [], _ :: _ => rfl
  | _ :: _, [] => rfl
  | x :: xs, y :: ys => by
    show (PyData.eqv (.str x) (.str y) && PyData.eqvAll (xs.map PyData.str) (ys.map PyData.str)) = _
    rw [eqvAll_strs xs ys]
    show ((x == y) && _) = _
    rw [Bool.eq_iff_iff]
    simp
def fa (f : List Str) (i : Nat) : Str := f.getD i ""
structure FOk (f : List Str) : Prop where
  len : f.length = 9
  nm : isNm (fa f 0) = true
  np : fa f 0 ≠ "plain"
  sg : ∀ i, 1 ≤ i → i < 9 → fa f i ≠ "" → isSg (fa f i) = true
  df : ∀ i j, 1 ≤ i → i < j → j < 9 → fa f i ≠ "" → fa f i ≠ fa f j
  l6 : fa f 5 = "" ↔ fa f 6 = ""
  l7 : fa f 5 = "" ↔ fa f 7 = ""
  es : fa f 8 = "" ↔ ∀ i, 1 ≤ i → i < 8 → fa f i = ""
  lay : ∀ t ∈ f, PyData.canLay0 (.str t) = true
  pc : ∀ t ∈ f, 37 ∉ cp t
theorem isSg_one {x : Str} (h : isSg x = true) : ∃ c, x = ⟨#[c]⟩ ∧ sgnC c = true := by
  unfold isSg at h
  split at h
  · rename_i c e
    exact ⟨c, cp_inj e, h⟩
  · cases h
theorem sgn_len {x : Str} (h : isSg x = true) : x.length = 1 := by
  obtain ⟨c, rfl, _⟩ := isSg_one h
  rfl
theorem nm_len {x : Str} (h : isNm x = true) : x.length ≤ 8 := by
  unfold isNm at h
  rw [Bool.and_eq_true] at h
  exact (of_decide_eq_true h.1).2
theorem nm_sg {x y : Str} (h : isNm x = true) (k : isSg y = true) : x ≠ y := fun z => by
  subst z
  obtain ⟨c, rfl, hc⟩ := isSg_one k
  unfold isNm at h
  rw [Bool.and_eq_true, Bool.and_eq_true] at h
  have h1 : c ∈ azs := of_decide_eq_true h.2.1
  unfold sgnC at hc
  rw [Bool.and_eq_true, Bool.and_eq_true] at hc
  have h2 : c ∉ letters := by simpa using hc.2.2
  have sub : ∀ d ∈ azs, d ∈ letters := by decide +kernel
  exact h2 (sub c h1)
theorem FOk.small {f : List Str} (h : FOk f) {i : Nat} (hi : i < 9) : (fa f i).length ≤ 8 := by
  by_cases z : i = 0
  · subst z
    exact nm_len h.nm
  · by_cases e : fa f i = ""
    · rw [e]; decide
    · rw [sgn_len (h.sg i (by omega) hi e)]; decide
theorem fa_at {f : List Str} {i : Nat} (hi : i < f.length) : f[i]? = some (fa f i) := by
  unfold fa
  rw [List.getD_eq_getElem?_getD, List.getElem?_eq_getElem hi]; rfl
/-- the form as far as it is read -/
def upTo (f : List Str) (m : Nat) : List Str := f.take m ++ List.replicate (9 - m) ("" : Str)
theorem upTo_len {f : List Str} (h : f.length = 9) {m : Nat} (hm : m ≤ 9) : (upTo f m).length = 9 := by
  unfold upTo
  rw [List.length_append, List.length_take, List.length_replicate, h]; omega
theorem upTo_set {f : List Str} (h : f.length = 9) {m : Nat} (hm : m < 9) : (upTo f m).set m (fa f m) = upTo f (m + 1) := by
  unfold upTo
  have hl : (f.take m).length = m := by rw [List.length_take]; omega
  rw [List.set_append_right _ _ (by omega), hl, Nat.sub_self]
  have e : 9 - m = (9 - (m + 1)) + 1 := by omega
  rw [e, List.replicate_succ, List.set_cons_zero, List.take_succ, fa_at (by omega), List.append_assoc]; rfl
theorem upTo_skip {f : List Str} (h : f.length = 9) {m : Nat} (hm : m < 9) (e : fa f m = "") : upTo f m = upTo f (m + 1) := by
  rw [← upTo_set h hm, e]
  refine (List.ext_getElem? fun i => ?_)
  by_cases hi : i = m
  · subst hi
    have hl : (upTo f i).length = 9 := upTo_len h (by omega)
    rw [List.getElem?_set_self (by omega)]
    unfold upTo
    have hl2 : (f.take i).length = i := by rw [List.length_take]; omega
    rw [List.getElem?_append_right (by omega), hl2, Nat.sub_self]
    have e2 : 9 - i = (9 - (i + 1)) + 1 := by omega
    rw [e2, List.replicate_succ]; rfl
  · rw [List.getElem?_set_ne (Ne.symm hi)]
theorem upTo_all {f : List Str} (h : f.length = 9) : upTo f 9 = f := by
  unfold upTo
  rw [List.take_of_length_le (by omega)]
  exact List.append_nil _
theorem upTo_one {f : List Str} (h : f.length = 9) : upTo f 1 = [fa f 0] ++ List.replicate 8 ("" : Str) := by
  unfold upTo
  rw [List.take_succ, fa_at (by omega)]; rfl
theorem upTo_at {f : List Str} (h : f.length = 9) {m i : Nat} (hm : i < m) (h9 : m ≤ 9) : fa (upTo f m) i = fa f i := by
  unfold fa upTo
  rw [List.getD_eq_getElem?_getD, List.getD_eq_getElem?_getD, List.getElem?_append_left (by rw [List.length_take]; omega), List.getElem?_take_of_lt hm]
theorem upTo_mem {f : List Str} (h : f.length = 9) {m : Nat} {x : Str} (hx : x ∈ upTo f m) : x = "" ∨ ∃ i, i < m ∧ i < 9 ∧ x = fa f i := by
  unfold upTo at hx
  rcases List.mem_append.mp hx with z | z
  · obtain ⟨i, hi, e⟩ := List.getElem_of_mem z
    rw [List.length_take] at hi
    refine .inr ⟨i, by omega, by omega, ?_⟩
    rw [List.getElem_take] at e
    rw [← e]
    unfold fa
    rw [List.getD_eq_getElem?_getD, List.getElem?_eq_getElem (by omega)]; rfl
  · exact .inl (List.eq_of_mem_replicate z)
def cnts : List Nat := [1, 2, 3, 4, 5, 8, 9]
def cnt (k : Nat) : Nat := cnts.getD k 9
theorem parts_facts : ∀ k : Nat, k < 6 → ∃ w ps, parts[k]? = some (w, ps) ∧ cnt (k + 1) = cnt k + ps.length ∧ 1 ≤ cnt k ∧ cnt (k + 1) ≤ 9 ∧ 1 ≤ ps.length ∧ (∀ i, i < ps.length → ps[i]? = some (cnt k + i)) ∧ w.length ≤ 6 := by
  intro k hk
  match k, hk with
  | 0, _ => exact ⟨_, _, rfl, by decide, by decide, by decide, by decide, by decide, by decide⟩
  | 1, _ => exact ⟨_, _, rfl, by decide, by decide, by decide, by decide, by decide, by decide⟩
  | 2, _ => exact ⟨_, _, rfl, by decide, by decide, by decide, by decide, by decide, by decide⟩
  | 3, _ => exact ⟨_, _, rfl, by decide, by decide, by decide, by decide, by decide, by decide⟩
  | 4, _ => exact ⟨_, _, rfl, by decide, by decide, by decide, by decide, by decide, by decide⟩
  | 5, _ => exact ⟨_, _, rfl, by decide, by decide, by decide, by decide, by decide, by decide⟩
theorem parts_lt {k : Nat} {p : Str × List Nat} (h : parts[k]? = some p) : k < 6 := (List.getElem?_eq_some_iff.mp h).1
def partW (f : List Str) (p : Str × List Nat) : List Str := if fa f (p.2.headD 0) = "" then [] else p.1 :: p.2.map (fa f)
def fwords (f : List Str) : List Str := "form" :: fa f 0 :: parts.flatMap (partW f)
/-- the first word of what is still ahead is one of the later words, or the end -/
theorem head_parts (f : List Str) : ∀ ps : List (Str × List Nat), ∃ x r, ps.flatMap (partW f) ++ ([""] : List Str) = x :: r ∧ (x = "" ∨ x ∈ ps.map (·.1))
  | [] => ⟨"", [], rfl, .inl rfl⟩
  | p :: ps => by
    obtain ⟨x, r, e, h⟩ := head_parts f ps
    by_cases c : fa f (p.2.headD 0) = ""
    · refine ⟨x, r, ?_, h.imp id (List.mem_cons_of_mem _)⟩
      rw [List.flatMap_cons]
      unfold partW
      rw [if_pos c]
      exact e
    · refine ⟨p.1, p.2.map (fa f) ++ (ps.flatMap (partW f) ++ ([""] : List Str)), ?_, .inr List.mem_cons_self⟩
      rw [List.flatMap_cons]
      conv => lhs; unfold partW
      rw [if_neg c, List.append_assoc]; rfl
theorem parts_words : (parts.map (·.1)).Nodup ∧ ("" : Str) ∉ parts.map (·.1) := by decide +kernel
/-- a part that is missing is not the next word -/
theorem skip_word {f : List Str} {k : Nat} {p : Str × List Nat} {x : Str} {r : List Str} (hp : parts[k]? = some p) (e : (parts.drop (k + 1)).flatMap (partW f) ++ ([""] : List Str) = x :: r) : x ≠ p.1 := by
  obtain ⟨y, s, e2, h⟩ := head_parts f (parts.drop (k + 1))
  rw [e] at e2
  cases e2
  have hk := parts_lt hp
  intro z
  rcases h with h | h
  · have q := parts_words.2
    rw [h] at z
    exact q (z ▸ List.mem_map.mpr ⟨p, List.mem_of_getElem? hp, rfl⟩)
  · rw [z] at h
    have nd := parts_words.1
    obtain ⟨q, hq, e3⟩ := List.mem_map.mp h
    obtain ⟨j, hj, e4⟩ := List.getElem_of_mem hq
    rw [List.getElem_drop] at e4
    rw [List.length_drop] at hj
    have hl : parts.length = 6 := rfl
    have q2 := List.pairwise_iff_getElem.mp nd k (k + 1 + j) (by rw [List.length_map]; exact hk) (by rw [List.length_map]; omega) (by omega)
    rw [List.getElem_map, List.getElem_map, e4, e3, (List.getElem?_eq_some_iff.mp hp).2] at q2
    exact q2 rfl
theorem drop_parts {f : List Str} {k : Nat} {p : Str × List Nat} (hp : parts[k]? = some p) : (parts.drop k).flatMap (partW f) = partW f p ++ (parts.drop (k + 1)).flatMap (partW f) := by
  have hk := (List.getElem?_eq_some_iff.mp hp)
  rw [List.drop_eq_getElem_cons hk.1, List.flatMap_cons, hk.2]
end Vf
end
section
set_option Elab.async false
set_option linter.all false
set_option maxRecDepth 100000
set_option maxHeartbeats 4000000
namespace Vf
open PySem PySem.Spec PyProof.Rows L2 GxR GenW RZ
abbrev s_read_part : Stmt := top 32
abbrev n_read_part : List Str := ["reader", "form", "places", "place", "sign"]
abbrev p_read_part : List Str := ["reader", "form", "places"]
theorem sc_read_part : FnScope n_read_part p_read_part (defScope s_read_part) := ⟨rfl, rfl, rfl, by decide +kernel, rfl, by decide +kernel, by decide +kernel⟩

def okM (m : Str) : Bool := !(m == ("number" : Str)) && (!(m == ("words" : Str)) && !(m == ("at" : Str)))
theorem Rd.go {K : PySem.W.Frag} {H : Hp} {r wl : Addr} {n : Int} {rest : WC} {m : Str} {G : Prop} (h : Rd K H r wl n rest) (hm : okM m = true) (g : G) : ∃ a dx fs, V.ref r = V.ref a ∧ H a = some (.ins (LR K) dx fs) ∧ fs.lookup m = none ∧ G := by
  obtain ⟨dx, ws, W, i, h1, _⟩ := h.ex
  unfold okM at hm
  rw [Bool.and_eq_true, Bool.and_eq_true] at hm
  exact ⟨r, dx, _, rfl, h1, flds_no _ _ _ (by simpa using hm.1) (by simpa using hm.2.1) (by simpa using hm.2.2), g⟩
theorem okM4 : okM "ahead" = true ∧ okM "take" = true ∧ okM "need" = true ∧ okM "take_only" = true := by decide +kernel
theorem esc_eq : ∀ (k : Nat) (w : Str) (ps : List Nat), parts[k]? = some (w, ps) → PyData.eqv (.tuple (ps.map fun n => PyData.int (n : Nat))) (.tuple [.int 8]) = decide (k = 5) := by
  intro k w ps h
  match k, parts_lt h, h with
  | 0, _, h => cases h; rfl
  | 1, _, h => cases h; rfl
  | 2, _, h => cases h; rfl
  | 3, _, h => cases h; rfl
  | 4, _, h => cases h; rfl
  | 5, _, h => cases h; rfl
theorem cut_one (l : List Str) : cutV (strV l) (some 1) none = strV (l.drop 1) := by
  unfold cutV
  have e1 : HT.sIx (strV l).length 0 (some ((1 : Nat) : Int)) = min 1 (strV l).length := HT.sIx_nat _ _ 1
  have e2 : HT.sIx (strV l).length (strV l).length none = (strV l).length := HT.sIx_none _ _
  have e1' : HT.sIx (strV l).length 0 (some 1) = min 1 (strV l).length := e1
  rw [e1', e2]
  have hl : (strV l).length = l.length := List.length_map _
  rw [List.take_of_length_le (by rw [List.length_drop]; omega)]
  unfold strV
  rw [List.map_drop]
  by_cases h : 1 ≤ l.length
  · rw [Nat.min_eq_left (by rw [List.length_map]; exact h)]
  · have : l = [] := List.eq_nil_of_length_eq_zero (by omega)
    subst this; rfl
def emp8 : List Str := List.replicate 8 ("" : Str)
theorem rep_emp : (List.replicate (Int.toNat (9 - 1)) [V.str ""]).flatten = strV emp8 := rfl
theorem shp_strsL {ts : List Str} (h : ∀ t ∈ ts, PyData.canLay0 (.str t) = true) : SeqAt.shaped (.list (ts.map PyData.str)) = true := shp_list (lay_strs ts h) (Nat.le_trans (dep_strs ts) (by decide))
theorem strV_flat (l : List Str) : (strV l).all flatV = true := by
  unfold strV
  rw [List.all_map, List.all_eq_true]
  intro x _; rfl
theorem ints_dp {K : PySem.W.Frag} {H : Hp} : ∀ ns : List Nat, DpAll K H (ns.map fun n => V.int (n : Nat)) (ns.map fun n => PyData.int (n : Nat))
  | [] => .nil
  | n :: ns => .cons (.int _) (ints_dp ns)
theorem shp_esc : ∀ (k : Nat) (w : Str) (ps : List Nat), parts[k]? = some (w, ps) → SeqAt.shaped (.tuple (ps.map fun n => PyData.int (n : Nat))) = true := by
  intro k w ps h
  match k, parts_lt h, h with
  | 0, _, h => cases h; rfl
  | 1, _, h => cases h; rfl
  | 2, _, h => cases h; rfl
  | 3, _, h => cases h; rfl
  | 4, _, h => cases h; rfl
  | 5, _, h => cases h; rfl
/-- what a reading comes to: something, or an error at a column -/
def Ends {α : Type} (K : PySem.W.Frag) (E : XK) (S : List Addr) (n : Int) (H : Hp) (res : Except Nat α) (ok : α → Prop) : Prop := match res with
  | .ok a => ok a
  | .error e => Er K E S n e H
theorem Ends.go {α : Type} {K : PySem.W.Frag} {E : XK} {S S' : List Addr} {n : Int} {H H1 : Hp} {res : Except Nat α} {ok ok' : α → Prop} (h : Ends K E S n H res ok) (g : GrM S H H1) (hs : ∀ b ∈ S', b ∈ S) (f : ∀ a, ok a → ok' a) : Ends K E S' n H1 res ok' := by
  cases res with
  | ok a => exact f a h
  | error e => exact Er.go h g hs
theorem Ends.gen {α : Type} {K : PySem.W.Frag} {E : XK} {S S' : List Addr} {n : Int} {H H1 : Hp} {res : Except Nat α} {ok ok' : α → Prop} (h : Ends K E S n H res ok) (g : ∀ H', GrM S' H1 H' → GrM S H H') (f : ∀ a, res = .ok a → ok a → ok' a) : Ends K E S' n H1 res ok' := by
  cases res with
  | ok a => exact f a rfl h
  | error e => exact fun d H' g' he => h d H' (g H' g') he
theorem Ends.imp {α : Type} {K : PySem.W.Frag} {E : XK} {S : List Addr} {n : Int} {H : Hp} {res : Except Nat α} {ok ok' : α → Prop} (h : Ends K E S n H res ok) (f : ∀ a, res = .ok a → ok a → ok' a) : Ends K E S n H res ok' := h.gen (fun _ g => g) f
def bnd {α β : Type} (res : Except Nat α) (f : α → Except Nat β) : Except Nat β := match res with
  | .ok a => f a
  | .error e => .error e
theorem bnd_bnd {α β γ : Type} (res : Except Nat α) (f : α → Except Nat β) (g : β → Except Nat γ) : bnd (bnd res f) g = bnd res fun a => bnd (f a) g := by
  cases res <;> rfl
theorem Ends.bnd {α β : Type} {K : PySem.W.Frag} {E : XK} {S : List Addr} {n : Int} {H : Hp} {res : Except Nat α} {f : α → Except Nat β} {ok : β → Prop} (h : Ends K E S n H (Vf.bnd res f) ok) : Ends K E S n H res fun a => Ends K E S n H (f a) ok := by
  cases res with
  | ok a => exact h
  | error e => exact h
theorem Ends.er {α : Type} {K : PySem.W.Frag} {E : XK} {S S' : List Addr} {n : Int} {H H1 : Hp} {e : Nat} {ok : α → Prop} (h : Ends K E S n H (.error e : Except Nat α) ok) (g : GrM S H H1) (hs : ∀ b ∈ S', b ∈ S) : Er K E S' n e H1 := Er.go h g hs
/-- the signs so far -/
def pad (nm : Str) (acc : List Str) : List Str := nm :: (acc ++ List.replicate (8 - acc.length) ("" : Str))
theorem pad_len {nm : Str} {acc : List Str} (h : acc.length ≤ 8) : (pad nm acc).length = 9 := by
  unfold pad
  rw [List.length_cons, List.length_append, List.length_replicate]; omega
theorem pad_set {nm w : Str} {acc : List Str} (h : acc.length < 8) : (pad nm acc).set (acc.length + 1) w = pad nm (acc ++ [w]) := by
  unfold pad
  rw [List.set_cons_succ, List.set_append_right _ _ (Nat.le_refl _), Nat.sub_self]
  have e : 8 - acc.length = (8 - (acc ++ [w]).length) + 1 := by rw [List.length_append, List.length_singleton]; omega
  rw [e, List.replicate_succ, List.set_cons_zero, List.append_assoc]; rfl
theorem pad_mem {nm x : Str} {acc : List Str} (h : x ∈ pad nm acc) : x = nm ∨ x ∈ acc ∨ x = "" := by
  unfold pad at h
  rcases List.mem_cons.mp h with z | z
  · exact .inl z
  · rcases List.mem_append.mp z with z | z
    · exact .inr (.inl z)
    · exact .inr (.inr (List.eq_of_mem_replicate z))
def em (acc : List Str) : Bool := acc.all fun x => decide (x = "")
theorem em_iff {acc : List Str} : em acc = true ↔ ∀ x ∈ acc, x = "" := by
  unfold em
  rw [List.all_eq_true]
  exact ⟨fun h x hx => of_decide_eq_true (h x hx), fun h x hx => decide_eq_true (h x hx)⟩
theorem rep_iff {l : List Str} : ∀ {n : Nat}, l.length = n → (l = List.replicate n ("" : Str) ↔ ∀ x ∈ l, x = "") := fun {n} hl =>
  ⟨fun h x hx => by rw [h] at hx; exact List.eq_of_mem_replicate hx, fun h => List.eq_replicate_iff.mpr ⟨hl, h⟩⟩
theorem pad_em {nm : Str} {acc : List Str} (h : acc.length ≤ 8) : PyData.eqv (.list (((pad nm acc).drop 1).map PyData.str)) (.list (emp8.map PyData.str)) = em acc := by
  show PyData.eqvAll _ _ = _
  rw [eqvAll_strs, Bool.eq_iff_iff, em_iff, decide_eq_true_eq]
  have hl : ((pad nm acc).drop 1).length = 8 := by rw [List.length_drop, pad_len h]
  show (pad nm acc).drop 1 = List.replicate 8 ("" : Str) ↔ _
  rw [rep_iff hl]
  unfold pad
  rw [List.drop_one, List.tail_cons]
  exact ⟨fun q x hx => q x (List.mem_append_left _ hx), fun q x hx => by
    rcases List.mem_append.mp hx with z | z
    · exact q x z
    · exact List.eq_of_mem_replicate z⟩
def AccOk (acc : List Str) : Prop := ∀ x ∈ acc, x = "" ∨ isSg x = true
theorem AccOk.snoc {acc : List Str} {w : Str} (h : AccOk acc) (hw : isSg w = true) : AccOk (acc ++ [w]) := fun x hx => by
  rcases List.mem_append.mp hx with z | z
  · exact h x z
  · rw [List.mem_singleton.mp z]; exact .inr hw
theorem lay_low {x : Str} (h : ∀ c ∈ cp x, c < 1000) : PyData.canLay0 (.str x) = true := by
  simp only [PyData.canLay0, PyData.strOk]
  rw [← Array.all_toList, List.all_eq_true]
  intro c hc
  have q : c < 1000 := h c hc
  exact decide_eq_true (by omega)
theorem sg_lay {x : Str} (h : isSg x = true) : PyData.canLay0 (.str x) = true := by
  obtain ⟨c, rfl, hc⟩ := isSg_one h
  unfold sgnC at hc
  rw [Bool.and_eq_true, Bool.and_eq_true] at hc
  have h2 := of_decide_eq_true hc.2.1
  refine lay_low fun d hd => ?_
  rw [List.mem_singleton.mp (show d ∈ [c] from hd)]
  omega
theorem words_low : ∀ c ∈ wordsC, c < 1000 := by decide +kernel
theorem nm_lay {x : Str} (h : isNm x = true) : PyData.canLay0 (.str x) = true := by
  unfold isNm at h
  rw [Bool.and_eq_true, Bool.and_eq_true, List.all_eq_true] at h
  exact lay_low fun c hc => words_low c (of_decide_eq_true (h.2.2 c hc))
theorem ws_lay {x : Str} (h : isWs x = true) : PyData.canLay0 (.str x) = true := by
  unfold isWs at h
  rw [Bool.and_eq_true, List.all_eq_true] at h
  exact lay_low fun c hc => words_low c (of_decide_eq_true (h.2 c hc))
theorem AccOk.lay {acc : List Str} (h : AccOk acc) : ∀ t ∈ acc, PyData.canLay0 (.str t) = true := fun t ht => by
  rcases h t ht with z | z
  · rw [z]; decide +kernel
  · exact sg_lay z
theorem pad_lay {nm : Str} {acc : List Str} (hn : isNm nm = true) (h : AccOk acc) : ∀ t ∈ pad nm acc, PyData.canLay0 (.str t) = true := fun t ht => by
  rcases pad_mem ht with z | z | z
  · rw [z]; exact nm_lay hn
  · exact h.lay t z
  · rw [z]; decide +kernel
/-- signs, as many as are asked -/
def rdPl : Nat → List Str → WC → Except Nat (List Str × WC)
  | 0, acc, r => .ok (acc, r)
  | _ + 1, _, [] => .error 0
  | m + 1, acc, (c, w) :: r => if isSg w = true ∧ w ∉ acc then rdPl m (acc ++ [w]) r else .error c
theorem sg_ne {w : Str} (h : isSg w = true) : w ≠ "" := fun z => by
  rw [z] at h
  exact absurd h (by decide +kernel)
theorem rdPl_ok : ∀ {m : Nat} {acc acc' : List Str} {r r' : WC}, rdPl m acc r = .ok (acc', r') → AccOk acc → WL r → AccOk acc' ∧ WL r' ∧ acc'.length = acc.length + m
  | 0, acc, acc', r, r', e, h1, h2 => by
    cases e
    exact ⟨h1, h2, rfl⟩
  | m + 1, acc, acc', [], r', e, h1, h2 => by cases e
  | m + 1, acc, acc', (c, w) :: r, r', e, h1, h2 => by
    unfold rdPl at e
    split at e
    · rename_i h
      obtain ⟨a, b, d⟩ := rdPl_ok e (h1.snoc h.1) (h2.nx (sg_ne h.1))
      exact ⟨a, b, by rw [d, List.length_append, List.length_singleton]; omega⟩
    · cases e
def rdPart (k m : Nat) (acc : List Str) (c : Nat) (rest : WC) : Except Nat (List Str × WC) := if k = 5 ∧ em acc = true then .error c else rdPl m acc rest
def spPart (K : PySem.W.Frag) : Sp := fun vs H Q E => ∃ (r F pl wl : Addr) (n : Int) (nm : Str) (acc : List Str) (k : Nat) (w : Str) (ps : List Nat) (c : Nat) (rest : WC), vs = [.ref r, .ref F, .ref pl] ∧ isNm nm = true ∧ parts[k]? = some (w, ps) ∧ acc.length + 1 = cnt k ∧ AccOk acc ∧ WL rest ∧
  Rd K H r wl n ((c, w) :: rest) ∧ H F = some (.lst (strV (pad nm acc))) ∧ F ≠ wl ∧ (∀ H, SqT K H pl (ps.map fun n => V.int (n : Nat))) ∧
  Ends K E [r, F] n H (rdPart k ps.length acc c rest) fun q => ∀ H', GrM [r, F] H H' → Rd K H' r wl n q.2 → H' F = some (.lst (strV (pad nm q.1))) → Q .non H'
section
variable {P : Program} {w : World} {K : PySem.W.Frag} {mg : Str → Option Value} {base : Heap}
theorem ok_part {fd : FuncData} (F : FnP K "read_part" s_read_part fd) (T : TY K mg) (D_is_sign : Df P w K mg base "is_sign" 1 p_is_sign spIsSign) (D_LineReader__ahead : Mf P w K mg base (LR K) "ahead" 1 p_LineReader__ahead (spAhead K))
    (D_LineReader__need : Mx P w K mg base (LR K) "need" 4 p_LineReader__need (spNeed K)) (D_LineReader__take : Mf P w K mg base (LR K) "take" 2 p_LineReader__take (spTake K)) : FnOk P w K mg base (L2.CX P w) 5 (He.fAd K ("read_part", none)) fd p_read_part (spPart K) := by
  refine okPX F sc_read_part (fun vs H Q E h => by obtain ⟨r, F, pl, wl, n, nm, acc, k, w, ps, c, rest, rfl, _⟩ := h; rfl) (fun A outer s H vs Q E hr h => ?_)
  obtain ⟨r, F, pl, wl, n, nm, acc, k, w, ps, c, rest, rfl, hnm, hp, hk, ha, hW, hd, hF, nF, hpl, kk⟩ := h
  obtain ⟨okA, okT, okN, _⟩ := okM4
  have k6 := parts_lt hp
  obtain ⟨w', ps', hp', f1, f2, f3, f4, f5, _⟩ := parts_facts k k6
  rw [hp] at hp'
  cases hp'
  have nrF : F ≠ r := fun z => by
    subst z
    obtain ⟨dx, ws, W, i, h1, _⟩ := hd.ex
    rw [hF] at h1; cases h1
  refine ⟨_, (C8.pss_cut (ps_expr (pe_mtX (takes_of rfl rfl rfl rfl) T.cl D_LineReader__need hr (by decide) (pv 0) (pa_cons (pe_or (pe_cmpR (u_ne (K := K) rfl hr.units) (pv 2) (pe_tup (pa_cons (pe_gl T.c_ESCAPE rfl) pa_nil)) (nomark _)) (pe_one (pe_cmpR (u_ne (K := K) rfl hr.units) (pe_slice (u_sl (K := K) rfl) (pv 1) (po_some pe_int) po_none) (pe_op (u_mul (K := K) rfl) (pe_lst (pa_cons pe_str pa_nil)) (pe_op u_sub (pe_gl T.c_FORM_STRINGS rfl) pe_int)) (nomark _)))) pa_nil)))
      (pss_cons (ps_expr (pe_mt0 T.cl D_LineReader__take hr (by decide) (pv 0)))
      (pss_one (ps_for (passes_of rfl) rfl (k_tup (K := K) rfl (pv 2)) (pg_name (i := 3) sc_read_part.nd rfl (by first | exact Or.inl rfl | exact Or.inr rfl))
      (pss_cons (ps_set (i := 4) sc_read_part.nd rfl (by first | exact Or.inl rfl | exact Or.inr rfl) (pe_mt0 T.cl D_LineReader__ahead hr (by decide) (pv 0)))
      (pss_cons (ps_expr (pe_mtX (takes_of rfl rfl rfl rfl) T.cl D_LineReader__need hr (by decide) (pv 0) (pa_cons (pe_and (pe_fn D_is_sign hr (by decide) rfl (pa_cons (pv 4) pa_nil)) (pe_one (pe_cmpR (u_ni (K := K) rfl) (pv 4) (pv 1) (by first | exact nomark _ | rfl)))) pa_nil)))
      (pss_one (ps_asg (pe_mt0 T.cl D_LineReader__take hr (by decide) (pv 0)) (pg_sub (pv 1) (pv 3) set_list))))))))), ?_⟩
  refine ⟨fun σ H' => σ = [some (.ref r), some (.ref F), some (.ref pl), none, none] ∧ Gr H H' ∧ ¬ (k = 5 ∧ em acc = true), ?_, ?_⟩
  · refine ⟨_, rfl, hd.go okN ?_⟩
    refine ⟨_, rfl, by show 1 ≤ sizeLine; rw [sizeLine_eq]; decide, fun t1 ht1 => ?_⟩
    refine newH ht1 fun H1 g1 s1 => ?_
    refine n_data (Dp.tup (hpl H1) (ints_dp ps)) (Dp.tup (SqT.of s1) (.cons (.int 8) .nil)) (shp_esc k w ps hp) rfl ?_
    rw [esc_eq k w ps hp]
    refine ⟨_, rfl, ite2 (fun h1 => ?_) (fun h1 => ?_)⟩
    · have h1 : ¬ k = 5 := by simpa using h1
      exact ⟨r, wl, n, c, w, rest, true, rfl, hd.gr g1, fun _ => ⟨rfl, g1, fun z => h1 z.1⟩, fun z => by cases z⟩
    have k5 : k = 5 := by simpa using h1
    refine ⟨_, rfl, _, rfl, sl_l (SqL.of (g1.lst hF)) fun l2 hl2 => ?_⟩
    refine newH hl2 fun H2 g2 s2 => ?_
    refine ⟨by show 1 ≤ sizeLine; rw [sizeLine_eq]; decide, fun l3 hl3 => ?_⟩
    refine newH hl3 fun H3 g3 s3 => ?_
    refine sb_ii (m_ll s3 (by decide) (by decide) (by show 1 * 8 ≤ sizeLine; rw [sizeLine_eq]; decide) fun l4 hl4 => ?_)
    refine newH hl4 fun H4 g4 s4 => ?_
    rw [cut_one] at s2
    rw [rep_emp] at s4
    refine n_data (Dp.lst (SqL.of ((g3.trans g4).lst s2)) (dp_strs _)) (Dp.lst (SqL.of s4) (dp_strs _)) (shp_strsL fun t ht => pad_lay hnm ha t (List.mem_of_mem_drop ht)) (shp_strsL (by decide +kernel)) ?_
    rw [pad_em (by omega)]
    have g := ((g1.trans g2).trans g3).trans g4
    refine ⟨r, wl, n, c, w, rest, _, rfl, hd.gr g, fun z => ⟨rfl, g, fun y => ?_⟩, fun z => ?_⟩
    · rw [y.2] at z; cases z
    · have z : em acc = true := by simpa using z
      unfold rdPart at kk
      rw [if_pos ⟨k5, z⟩] at kk
      exact Ends.er kk g.m (by simp)
  · rintro σ H0 ⟨rfl, g0, no⟩
    unfold rdPart at kk
    rw [if_neg no] at kk
    have hd0 := hd.gr g0
    have hF0 := g0.lst hF
    refine ⟨_, rfl, hd0.go okT ⟨r, wl, n, c, w, _, rfl, hd0, fun H1 g1 hd1 => ?_⟩⟩
    have hF1 := g1.keep (by simpa using nrF) hF0 (fun _ z => by cases z)
    have g01 : GrM [r, F] H H1 := (g0.m).trans (g1.mono (by simp))
    refine ⟨_, rfl, pl, rfl, ⟨_, hpl H1⟩, ?_⟩
    refine for_tup (K := K) (a := pl) (xs := ps.map fun n => V.int (n : Nat)) (fun i σ H' => ∃ o3 o4 acc rest, σ = [some (.ref r), some (.ref F), some (.ref pl), o3, o4] ∧ GrM [r, F] H1 H' ∧ AccOk acc ∧ WL rest ∧ acc.length + 1 = cnt k + i ∧ Rd K H' r wl n rest ∧ H' F = some (.lst (strV (pad nm acc))) ∧
        Ends K E [r, F] n H' (rdPl (ps.length - i) acc rest) fun q => ∀ H'', GrM [r, F] H' H'' → Rd K H'' r wl n q.2 → H'' F = some (.lst (strV (pad nm q.1))) → Q .non H'')
      ⟨none, none, acc, rest, rfl, GrM.refl _ _, ha, hW, hk, hd1, hF1, kk.go g01 (by simp) fun q f H'' g => f H'' (g01.trans g)⟩ ?_ ?_ ?_
    · rintro i σ H' _ _
      exact hpl H'
    · rintro i x σ H' hx ⟨o3, o4, acc, rest, rfl, g, ha, hW, hk, hdi, hFi, ki⟩
      rw [List.getElem?_map] at hx
      have il : i < ps.length := by
        cases e : ps[i]? with
        | none => rw [e] at hx; cases hx
        | some n => exact (List.getElem?_eq_some_iff.mp e).1
      have hpi := f5 i il
      rw [hpi] at hx
      cases hx
      have c9 : cnt k + i < 9 := by omega
      obtain ⟨c', w', rest, rfl, hgo⟩ := hW.go
      have wl9 := hW.len
      refine ⟨_, rfl, hdi.go okA ⟨r, wl, n, c', w', rest, rfl, hdi, ?_⟩⟩
      refine ⟨_, rfl, hdi.go okN ?_⟩
      rw [show ps.length - i = (ps.length - (i + 1)) + 1 by omega] at ki
      unfold rdPl at ki
      refine ⟨_, rfl, w', rfl, by rw [sizeLine_eq]; omega, _, rfl, ?_⟩
      by_cases sg : isSg w' = true
      · rw [sg]
        refine iteT ⟨_, rfl, _, rfl, ni_seq (.inl (SqL.of hFi)) rfl (strV_flat _) ?_⟩
        have ein : inV (.str w') (strV (pad nm acc)) = decide (w' ∈ acc) := by
          rw [Bool.eq_iff_iff, inV_str, decide_eq_true_eq]
          refine ⟨fun z => ?_, fun z => ?_⟩
          · rcases pad_mem z with z | z | z
            · exact absurd z.symm (nm_sg hnm sg)
            · exact z
            · exact absurd z (sg_ne sg)
          · unfold pad
            exact List.mem_cons_of_mem _ (List.mem_append_left _ z)
        rw [ein]
        refine ⟨r, wl, n, c', w', rest, _, rfl, hdi, fun z => ?_, fun z => ?_⟩
        · have ni : w' ∉ acc := by simpa using z
          rw [if_pos ⟨sg, ni⟩] at ki
          refine ⟨_, rfl, hdi.go okT ⟨r, wl, n, c', w', rest, rfl, hdi, fun H2 g2 hd2 => ?_⟩⟩
          have hF2 := g2.keep (by simpa using nrF) hFi (fun _ z => by cases z)
          have ln : (strV (pad nm acc)).length = 9 := by
            unfold strV
            rw [List.length_map]
            exact pad_len (by omega)
          refine ⟨_, rfl, _, rfl, F, _, _, _, rfl, rfl, hF2, by rw [ln]; exact ixN_nat c9, ?_⟩
          have gF : GrM [F] H2 (upd H2 F (.lst ((strV (pad nm acc)).set (cnt k + i) (.str w')))) := (GrM.refl _ _).upd (by simp) (Mu.lst hF2)
          have g2' : GrM [r, F] H' (upd H2 F (.lst ((strV (pad nm acc)).set (cnt k + i) (.str w')))) := (g2.mono (by simp)).trans (gF.mono (by simp))
          refine ⟨_, _, acc ++ [w'], rest, rfl, g.trans g2', ha.snoc sg, (hgo (sg_ne sg)).1, by rw [List.length_append, List.length_singleton]; omega, ?_, ?_, ?_⟩
          · exact hd2.m (S := [F]) gF (by simpa using Ne.symm nrF) (by simpa using Ne.symm nF)
          · rw [upd_same, ← hk, ← pad_set (by omega)]
            unfold strV
            rw [List.map_set]
          · exact ki.go g2' (by simp) fun q f H'' g => f H'' (g2'.trans g)
        · have ni : w' ∈ acc := by simpa using z
          rw [if_neg fun y => y.2 ni] at ki
          exact Ends.er ki (GrM.refl _ _) (by simp)
      · rw [if_neg fun y => sg y.1] at ki
        have sg : isSg w' = false := by simpa using sg
        rw [sg]
        exact iteF ⟨r, wl, n, c', w', rest, _, rfl, hdi, fun (z : false = true) => (by cases z), fun _ => Ends.er ki (GrM.refl _ _) (by simp)⟩
    · rintro σ H' ⟨o3, o4, acc, rest, rfl, g, ha, hW, hk, hde, hFe, ke⟩
      rw [List.length_map, Nat.sub_self] at ke
      exact ke H' (GrM.refl _ _) hde hFe
end
end Vf
end
section
set_option Elab.async false
set_option linter.all false
set_option maxRecDepth 100000
set_option maxHeartbeats 4000000
namespace Vf
open PySem PySem.Spec PyProof.Rows L2 GxR GenW RZ
abbrev s_read_form : Stmt := top 31
abbrev n_read_form : List Str := ["reader", "forms", "name", "form", "word", "places"]
abbrev p_read_form : List Str := ["reader", "forms"]
theorem sc_read_form : FnScope n_read_form p_read_form (defScope s_read_form) := ⟨rfl, rfl, rfl, by decide +kernel, rfl, by decide +kernel, by decide +kernel⟩

def rdPs : Nat → List (Str × List Nat) → List Str → WC → Except Nat (List Str × WC)
  | _, [], acc, r => .ok (acc, r)
  | _, _ :: _, _, [] => .error 0
  | k, p :: ps, acc, (c, w) :: r => if w = p.1 then bnd (rdPart k p.2.length acc c r) fun q => rdPs (k + 1) ps q.1 q.2 else rdPs (k + 1) ps (acc ++ List.replicate p.2.length ("" : Str)) ((c, w) :: r)
def rdEnd (nm : Str) (acc : List Str) : WC → Except Nat (List Str × WC)
  | [] => .error 0
  | (c, w) :: r => if acc.getD 7 "" ≠ "" ∨ em acc = true then .ok (nm :: acc, (c, w) :: r) else .error c
/-- a form's line, behind its first word -/
def rdForm (taken : List Str) : WC → Except Nat (List Str × WC)
  | [] => .error 0
  | (c, w) :: r => if isNm w = true ∧ w ≠ "plain" ∧ w ∉ taken then bnd (rdPs 0 parts [] r) fun q => rdEnd w q.1 q.2 else .error c
theorem rdForm_cons (taken : List Str) (c : Nat) (w : Str) (r : WC) : rdForm taken ((c, w) :: r) = if isNm w = true ∧ w ≠ "plain" ∧ w ∉ taken then bnd (rdPs 0 parts [] r) fun q => rdEnd w q.1 q.2 else .error c := rfl
theorem rdPs_cons (k : Nat) (p : Str × List Nat) (ps : List (Str × List Nat)) (acc : List Str) (c : Nat) (w : Str) (r : WC) : rdPs k (p :: ps) acc ((c, w) :: r) = if w = p.1 then bnd (rdPart k p.2.length acc c r) fun q => rdPs (k + 1) ps q.1 q.2 else rdPs (k + 1) ps (acc ++ List.replicate p.2.length ("" : Str)) ((c, w) :: r) := rfl
theorem rdEnd_cons (nm : Str) (acc : List Str) (c : Nat) (w : Str) (r : WC) : rdEnd nm acc ((c, w) :: r) = if acc.getD 7 "" ≠ "" ∨ em acc = true then .ok (nm :: acc, (c, w) :: r) else .error c := rfl
theorem rdPart_ok {k m c : Nat} {acc : List Str} {r : WC} {q : List Str × WC} (e : rdPart k m acc c r = .ok q) (h1 : AccOk acc) (h2 : WL r) : AccOk q.1 ∧ WL q.2 ∧ q.1.length = acc.length + m := by
  unfold rdPart at e
  split at e
  · cases e
  · exact rdPl_ok (acc' := q.1) (r' := q.2) e h1 h2
theorem AccOk.more {acc : List Str} (h : AccOk acc) (m : Nat) : AccOk (acc ++ List.replicate m ("" : Str)) := fun x hx => by
  rcases List.mem_append.mp hx with z | z
  · exact h x z
  · exact .inl (List.eq_of_mem_replicate z)
theorem rdPs_ok : ∀ {ps : List (Str × List Nat)} {k : Nat} {acc : List Str} {r : WC} {q : List Str × WC}, (∀ p ∈ ps, p.1 ≠ "") → rdPs k ps acc r = .ok q → AccOk acc → WL r → AccOk q.1 ∧ WL q.2 ∧ q.1.length = acc.length + (ps.map fun p => p.2.length).sum
  | [], k, acc, r, q, _, e, h1, h2 => by
    cases r <;> (cases e; exact ⟨h1, h2, rfl⟩)
  | p :: ps, k, acc, [], q, _, e, h1, h2 => by cases e
  | p :: ps, k, acc, (c, w) :: r, q, hp, e, h1, h2 => by
    unfold rdPs at e
    have hp' : ∀ p ∈ ps, p.1 ≠ "" := fun y hy => hp y (List.mem_cons_of_mem _ hy)
    split at e
    · rename_i hw
      have nw : w ≠ "" := hw ▸ hp p List.mem_cons_self
      cases e1 : rdPart k p.2.length acc c r with
      | error x => rw [e1] at e; cases e
      | ok q1 =>
        rw [e1] at e
        obtain ⟨a, b, d⟩ := rdPart_ok e1 h1 (h2.nx nw)
        obtain ⟨a2, b2, d2⟩ := rdPs_ok hp' e a b
        refine ⟨a2, b2, ?_⟩
        rw [d2, d, List.map_cons, List.sum_cons]; omega
    · obtain ⟨a2, b2, d2⟩ := rdPs_ok hp' e (h1.more _) h2
      refine ⟨a2, b2, ?_⟩
      rw [d2, List.length_append, List.length_replicate, List.map_cons, List.sum_cons]; omega
theorem parts_ne : ∀ p ∈ parts, p.1 ≠ "" := by decide +kernel
theorem parts_sum : (parts.map fun p => p.2.length).sum = 8 := by decide
theorem pad_more {nm : Str} {acc : List Str} {m : Nat} (h : acc.length + m ≤ 8) : pad nm (acc ++ List.replicate m ("" : Str)) = pad nm acc := by
  unfold pad
  rw [List.append_assoc, List.replicate_append_replicate, List.length_append, List.length_replicate, show m + (8 - (acc.length + m)) = 8 - acc.length by omega]
theorem pad_eight {nm : Str} {acc : List Str} (h : acc.length = 8) : pad nm acc = nm :: acc := by
  unfold pad
  rw [h]
  exact congrArg _ (List.append_nil _)
def spForm (K : PySem.W.Frag) : Sp := fun vs H Q E => ∃ (r fdc wl : Addr) (n : Int) (c : Nat) (rest : WC) (kvs : List (Key × V)) (taken : List Str), vs = [.ref r, .ref fdc] ∧ WL rest ∧ Rd K H r wl n ((c, "form") :: rest) ∧ H fdc = some (.dK kvs) ∧ (∀ x : Str, valV kvs (Sum.inr x : Key) = none ↔ x ∉ taken) ∧ TabG H (tb K "is_form_name") ∧
  Ends K E [r] n H (rdForm taken rest) fun q => ∀ t H', GrM [r] H H' → Rd K H' r wl n q.2 → H' t = some (.tup (strV q.1)) → Q (.ref t) H'
section
variable {P : Program} {w : World} {K : PySem.W.Frag} {mg : Str → Option Value} {base : Heap}
theorem ok_form {fd : FuncData} (F : FnP K "read_form" s_read_form fd) (T : TY K mg) (D_is_form_name : Df P w K mg base "is_form_name" 2 p_is_form_name (spName K)) (D_read_part : Dx P w K mg base "read_part" 5 p_read_part (spPart K))
    (D_LineReader__ahead : Mf P w K mg base (LR K) "ahead" 1 p_LineReader__ahead (spAhead K)) (D_LineReader__need : Mx P w K mg base (LR K) "need" 4 p_LineReader__need (spNeed K)) (D_LineReader__take : Mf P w K mg base (LR K) "take" 2 p_LineReader__take (spTake K))
    (D_LineReader__take_only : Mx P w K mg base (LR K) "take_only" 5 p_LineReader__take_only (spOnly K)) : FnOk P w K mg base (L2.CX P w) 6 (He.fAd K ("read_form", none)) fd p_read_form (spForm K) := by
  refine okPX F sc_read_form (fun vs H Q E h => by obtain ⟨r, fdc, wl, n, c, rest, kvs, taken, rfl, _⟩ := h; rfl) (fun A outer s H vs Q E hr h => ?_)
  obtain ⟨r, fdc, wl, n, c, rest, kvs, taken, rfl, hW, hd, hF, hv, hT, kk⟩ := h
  obtain ⟨okA, okT, okN, okO⟩ := okM4
  obtain ⟨aP, m_PLAIN, sP⟩ := T.c_PLAIN
  obtain ⟨aR, tR, pR, m_PARTS, hR⟩ := T.c_PARTS
  have nfr : fdc ≠ r := fun z => by
    subst z
    obtain ⟨dx, ws, W, i, h1, _⟩ := hd.ex
    rw [hF] at h1; cases h1
  refine ⟨_, (pss_cons (ps_expr (pe_mtX (takes_of rfl rfl rfl rfl) T.cl D_LineReader__take_only hr (by decide) (pv 0) (pa_cons pe_str pa_nil)))
      (pss_cons (ps_set (i := 2) sc_read_form.nd rfl (by first | exact Or.inl rfl | exact Or.inr rfl) (pe_mt0 T.cl D_LineReader__ahead hr (by decide) (pv 0)))
      (pss_cons (ps_expr (pe_mtX (takes_of rfl rfl rfl rfl) T.cl D_LineReader__need hr (by decide) (pv 0) (pa_cons (pe_and (pe_fn D_is_form_name hr (by decide) rfl (pa_cons (pv 2) pa_nil)) (pe_and (pe_cmpR (u_ne (K := K) rfl hr.units) (pv 2) (pe_ix (u_ix (K := K) rfl) (pe_ref rfl m_PLAIN) pe_int (fun _ _ => rfl)) (nomark _)) (pe_one (pe_cmp (pc_dnotin (hu_of hr) (pv 2) (pv 1)) rfl)))) pa_nil)))
      (pss_cons (ps_set (i := 3) sc_read_form.nd rfl (by first | exact Or.inl rfl | exact Or.inr rfl) (pe_op (u_add (K := K) rfl) (pe_lst (pa_cons (pe_mt0 T.cl D_LineReader__take hr (by decide) (pv 0)) pa_nil)) (pe_op (u_mul (K := K) rfl) (pe_lst (pa_cons pe_str pa_nil)) (pe_op u_sub (pe_gl T.c_FORM_STRINGS rfl) pe_int))))
      (pss_cons (ps_for (passes_of rfl) rfl (k_tup (K := K) rfl (pe_ref rfl m_PARTS)) (kg_tup 2 (K := K) rfl rfl (pgs_cons (pg_name (i := 4) sc_read_form.nd rfl (by first | exact Or.inl rfl | exact Or.inr rfl)) (pgs_cons (pg_name (i := 5) sc_read_form.nd rfl (by first | exact Or.inl rfl | exact Or.inr rfl)) pgs_nil)))
      (pss_one (ps_if (pt_cmpR (u_eq (K := K) rfl hr.units) (pe_mt0 T.cl D_LineReader__ahead hr (by decide) (pv 0)) (pv 4) (nomark _))
      (pss_one (ps_expr (pe_fnX (takes_of rfl rfl rfl rfl) D_read_part hr (by decide) rfl (pa_cons (pv 0) (pa_cons (pv 3) (pa_cons (pv 5) pa_nil))))))
      pss_nil)))
      (pss_cons (ps_expr (pe_mtX (takes_of rfl rfl rfl rfl) T.cl D_LineReader__need hr (by decide) (pv 0) (pa_cons (pe_or (pe_cmpR (u_ne (K := K) rfl hr.units) (pe_ix (u_ix (K := K) rfl) (pv 3) (pe_gl T.c_ESCAPE rfl) (fun _ _ => rfl)) pe_str (nomark _)) (pe_one (pe_cmpR (u_eq (K := K) rfl hr.units) (pe_slice (u_sl (K := K) rfl) (pv 3) (po_some pe_int) po_none) (pe_op (u_mul (K := K) rfl) (pe_lst (pa_cons pe_str pa_nil)) (pe_op u_sub (pe_gl T.c_FORM_STRINGS rfl) pe_int)) (nomark _)))) pa_nil)))
      (pss_one (ps_ret (k_tuple (K := K) rfl rfl T.b_tuple (pv 3)))))))))), ?_⟩
  -- the word form
  refine ⟨_, rfl, hd.go okO ⟨r, wl, n, c, "form", "form", rest, rfl, hd, fun _ H1 g1 hd1 => ?_, fun z => absurd rfl z⟩⟩
  -- its name
  obtain ⟨c1, nm, rest, rfl, hgo⟩ := hW.go
  have ln := hW.len
  refine ⟨_, rfl, hd1.go okA ⟨r, wl, n, c1, nm, rest, rfl, hd1, ?_⟩⟩
  have hF1 := g1.keep (by simpa using nfr) hF (fun _ z => by cases z)
  refine ⟨_, rfl, hd1.go okN ?_⟩
  rw [rdForm_cons] at kk
  have bad : ¬ (isNm nm = true ∧ nm ≠ "plain" ∧ nm ∉ taken) → ∀ H2, Gr H1 H2 → Er K E [] n c1 H2 := fun no H2 g2 => by
    rw [if_neg no] at kk
    exact Ends.er kk (g1.trans g2.m) (by simp)
  refine ⟨_, rfl, nm, rfl, by rw [sizeLine_eq]; omega, g1.tabG hT, fun H2 g2 => ⟨_, rfl, ?_⟩⟩
  have hd2 := hd1.gr g2
  by_cases i1 : isNm nm = true
  rotate_left
  · have e1 : isNm nm = false := by simpa using i1
    rw [e1]
    exact iteF ⟨r, wl, n, c1, nm, rest, _, rfl, hd2, fun (z : false = true) => (by cases z), fun _ => bad (fun z => i1 z.1) _ g2⟩
  rw [i1]
  refine iteT ⟨_, rfl, x_t (sP H2) (atI_nat (j := 0) rfl) (n_flat rfl ⟨_, rfl, ?_⟩)⟩
  rw [dvs]
  by_cases i2 : nm = "plain"
  · rw [decide_eq_true i2]
    exact iteF ⟨r, wl, n, c1, nm, rest, _, rfl, hd2, fun (z : (!true) = true) => (by cases z), fun _ => bad (fun z => z.2.1 i2) _ g2⟩
  rw [decide_eq_false i2]
  refine iteT ⟨_, rfl, _, rfl, fdc, _, rfl, DGet.k (k := Sum.inr nm) (g2.keep hF1 (fun _ z => by cases z)), ?_⟩
  refine ⟨r, wl, n, c1, nm, rest, _, rfl, hd2, fun z => ?_, fun z => bad (fun y => ?_) _ g2⟩
  rotate_left
  · rw [(hv nm).mpr y.2.2] at z
    cases z
  have i3 : nm ∉ taken := (hv nm).mp (by
    cases e : valV kvs (Sum.inr nm : Key) with
    | none => rfl
    | some x => rw [e] at z; cases z)
  rw [if_pos ⟨i1, i2, i3⟩] at kk
  obtain ⟨hWr, _⟩ := hgo (fun z => by rw [z] at i1; exact absurd i1 (by decide +kernel))
  -- the list
  refine ⟨_, rfl, hd2.go okT ⟨r, wl, n, c1, nm, rest, rfl, hd2, fun H3 g3 hd3 => ?_⟩⟩
  refine ⟨by show 1 ≤ sizeLine; rw [sizeLine_eq]; decide, fun l4 hl4 => ?_⟩
  refine newH hl4 fun H4 g4 s4 => ?_
  refine ⟨by show 1 ≤ sizeLine; rw [sizeLine_eq]; decide, fun l5 hl5 => ?_⟩
  refine newH hl5 fun H5 g5 s5 => ?_
  refine sb_ii (m_ll s5 (by decide) (by decide) (by show 1 * 8 ≤ sizeLine; rw [sizeLine_eq]; decide) fun l6 hl6 => ?_)
  refine newH hl6 fun H6 g6 s6 => ?_
  rw [rep_emp] at s6
  refine a_ll ((g5.trans g6).lst s4) s6 (by rw [sizeLine_eq]; show 1 + 8 ≤ 16777216; decide) fun FF hFF => ?_
  have g36 := (g4.trans g5).trans g6
  have hd6 := hd3.gr g36
  have nFr : FF ≠ r := fun z => by
    subst z
    obtain ⟨dx, ws, W, i, h1, _⟩ := hd6.ex
    rw [hFF] at h1; cases h1
  have nFw : FF ≠ wl := fun z => by
    subst z
    obtain ⟨dx, ws, W, i, _, h1, _⟩ := hd6.ex
    rw [hFF] at h1; cases h1
  have fF0 : H FF = none := g1.free (by simpa using nFr) (g2.free (g3.free (by simpa using nFr) (g36.free hFF)))
  refine newH hFF fun H7 g7 s7 => ?_
  have hd7 := hd6.gr g7
  have s7 : H7 FF = some (.lst (strV (pad nm []))) := s7
  have gm7 : GrM [r, FF] H H7 := (((g1.mono (by simp)).trans g2.m).trans (g3.mono (by simp))).trans ((g36.trans g7).m)
  have drp : ∀ {H'}, GrM [r, FF] H7 H' → GrM [r] H H' := fun g => (gm7.trans g).drop fun b hb => by
    rcases List.mem_cons.mp hb with z | z
    · exact .inl (by simp [z])
    · rw [List.mem_singleton] at z
      rw [z]
      exact .inr fF0
  have k7 : Ends K E [r, FF] n H7 (bnd (rdPs 0 parts [] rest) fun q => rdEnd nm q.1 q.2) fun q => ∀ t H', GrM [r, FF] H7 H' → Rd K H' r wl n q.2 → H' t = some (.tup (strV q.1)) → Q (.ref t) H' :=
    kk.gen (fun H' g => drp g) fun q _ f t H' g => f t H' (drp g)
  -- the parts
  refine ⟨aR, rfl, ⟨_, hR.top H7⟩, ?_⟩
  refine for_tup (K := K) (a := aR) (xs := (List.range 6).map fun i => V.ref (tR i)) (fun i σ H' => ∃ o4 o5 acc rest, σ = [some (.ref r), some (.ref fdc), some (.str nm), some (.ref FF), o4, o5] ∧ GrM [r, FF] H7 H' ∧ AccOk acc ∧ WL rest ∧ acc.length + 1 = cnt i ∧ Rd K H' r wl n rest ∧ H' FF = some (.lst (strV (pad nm acc))) ∧
      Ends K E [r, FF] n H' (bnd (rdPs i (parts.drop i) acc rest) fun q => rdEnd nm q.1 q.2) fun q => ∀ t H'', GrM [r, FF] H' H'' → Rd K H'' r wl n q.2 → H'' t = some (.tup (strV q.1)) → Q (.ref t) H'')
    ⟨none, none, [], rest, rfl, GrM.refl _ _, (fun x hx => by cases hx), hWr, rfl, hd7, s7, k7⟩ ?_ ?_ ?_
  · rintro i σ H' _ _
    exact hR.top H'
  · rintro i x σ H' hx ⟨o4, o5, acc, rest, rfl, g, ha, hW, hk, hdi, hFi, ki⟩
    rw [List.getElem?_map] at hx
    have i6 : i < 6 := by
      cases e : (List.range 6)[i]? with
      | none => rw [e] at hx; cases hx
      | some n => exact (by simpa using (List.getElem?_eq_some_iff.mp e).1)
    rw [List.getElem?_range i6] at hx
    cases hx
    obtain ⟨w, ps, hp, f1, f2, f3, f4, f5, f6⟩ := parts_facts i i6
    have ed : parts.drop i = (w, ps) :: parts.drop (i + 1) := by
      have hk := List.getElem?_eq_some_iff.mp hp
      rw [List.drop_eq_getElem_cons hk.1, hk.2]
    rw [ed] at ki
    obtain ⟨c', w', rest, rfl, hgo⟩ := hW.go
    rw [rdPs_cons] at ki
    refine ⟨tR i, _, rfl, hR.row H' i w ps hp, rfl, _, _, rfl, _, _, rfl, rfl, ?_⟩
    refine ⟨_, rfl, hdi.go okA ⟨r, wl, n, c', w', rest, rfl, hdi, _, rfl, e_flat rfl ⟨_, rfl, ?_⟩⟩⟩
    rw [dvs]
    by_cases hw : w' = w
    · subst hw
      have wne : w' ≠ "" := parts_ne _ (List.mem_of_getElem? hp)
      rw [if_pos rfl, bnd_bnd] at ki
      rw [decide_eq_true rfl]
      refine iteT ⟨_, rfl, _, rfl, _, rfl, r, FF, pR i, wl, n, nm, acc, i, w', ps, c', rest, rfl, i1, hp, hk, ha, (hgo wne).1, hdi, hFi, nFw, fun H => hR.pl H i w' ps hp, ?_⟩
      refine ki.bnd.imp fun q eq kq H8 g8 hd8 hF8 => ?_
      obtain ⟨a, b, d⟩ := rdPart_ok eq ha (hgo wne).1
      have d : q.1.length = acc.length + ps.length := d
      exact ⟨_, _, q.1, q.2, rfl, g.trans g8, a, b, by omega, hd8, hF8, kq.go g8 (by simp) fun q f t H'' g9 => f t H'' (g8.trans g9)⟩
    · rw [if_neg hw] at ki
      rw [decide_eq_false hw]
      refine iteF ⟨_, _, acc ++ List.replicate ps.length ("" : Str), (c', w') :: rest, rfl, g, ha.more _, hW, by rw [List.length_append, List.length_replicate]; omega, hdi, ?_, ki⟩
      rw [pad_more (by omega)]
      exact hFi
  · rintro σ H8 ⟨o4, o5, acc, rest, rfl, g8, ha, hW, hk, hd8, hF8, k8⟩
    have l6 : ((List.range 6).map fun i => V.ref (tR i)).length = 6 := by simp
    rw [l6] at hk k8
    have h8 : acc.length = 8 := by
      have : cnt 6 = 9 := rfl
      omega
    obtain ⟨c', w', rest, rfl, hgo⟩ := hW.go
    have k8 : Ends K E [r, FF] n H8 (rdEnd nm acc ((c', w') :: rest)) fun q => ∀ t H'', GrM [r, FF] H8 H'' → Rd K H'' r wl n q.2 → H'' t = some (.tup (strV q.1)) → Q (.ref t) H'' := by
      have e : parts.drop 6 = [] := rfl
      rw [e] at k8
      exact k8
    rw [rdEnd_cons] at k8
    have at8 : (strV (pad nm acc))[8]? = some (.str (acc.getD 7 "")) := by
      rw [pad_eight h8]
      unfold strV
      rw [List.getElem?_map]
      show Option.map V.str (acc[7]?) = _
      rw [List.getD_eq_getElem?_getD, List.getElem?_eq_getElem (by omega)]; rfl
    have fin : (acc.getD 7 "" ≠ "" ∨ em acc = true) → ∀ (H9 : Hp), Gr H8 H9 → ∀ t, H9 t = none → Q (.ref t) (upd H9 t (.tup (strV (pad nm acc)))) := fun hc H9 g9 t ht => by
      rw [if_pos hc] at k8
      refine newH ht fun H10 g10 s10 => ?_
      have g := g9.trans g10
      rw [pad_eight h8] at s10
      exact k8 t H10 g.m (hd8.gr g) s10
    refine ⟨_, rfl, hd8.go okN ?_⟩
    refine ⟨_, rfl, x_l (SqL.of hF8) (atI_nat at8) (n_flat rfl ⟨_, rfl, ?_⟩)⟩
    rw [dvs]
    by_cases e8 : acc.getD 7 "" = ""
    · rw [decide_eq_true e8]
      refine iteF ⟨_, rfl, _, rfl, sl_l (SqL.of hF8) fun l2 hl2 => ?_⟩
      refine newH hl2 fun H9 g9 s9 => ?_
      refine ⟨by show 1 ≤ sizeLine; rw [sizeLine_eq]; decide, fun l3 hl3 => ?_⟩
      refine newH hl3 fun Ha ga sa => ?_
      refine sb_ii (m_ll sa (by decide) (by decide) (by show 1 * 8 ≤ sizeLine; rw [sizeLine_eq]; decide) fun l4 hl4 => ?_)
      refine newH hl4 fun Hb gb sb => ?_
      rw [cut_one] at s9
      rw [rep_emp] at sb
      refine e_data (Dp.lst (SqL.of ((ga.trans gb).lst s9)) (dp_strs _)) (Dp.lst (SqL.of sb) (dp_strs _)) (shp_strsL fun t ht => pad_lay i1 ha t (List.mem_of_mem_drop ht)) (shp_strsL (by decide +kernel)) ?_
      rw [pad_em (by omega)]
      have gz := (g9.trans ga).trans gb
      refine ⟨r, wl, n, c', w', rest, _, rfl, hd8.gr gz, fun z => ?_, fun z => ?_⟩
      · exact ⟨_, rfl, ⟨.inl ⟨FF, _, rfl, SqL.of (gz.lst hF8), fun t ht => fin (.inr z) Hb gz t ht⟩⟩⟩
      · rw [if_neg (fun y => by
          rcases y with y | y
          · exact y e8
          · rw [z] at y; cases y)] at k8
        exact Ends.er k8 gz.m (by simp)
    · rw [decide_eq_false e8]
      exact iteT ⟨r, wl, n, c', w', rest, true, rfl, hd8, fun _ => ⟨_, rfl, ⟨.inl ⟨FF, _, rfl, SqL.of hF8, fun t ht => fin (.inl e8) H8 (Gr.refl _) t ht⟩⟩⟩, fun (z : true = false) => (by cases z)⟩
end
end Vf
end
section
set_option Elab.async false
set_option linter.all false
set_option maxRecDepth 100000
set_option maxHeartbeats 4000000
namespace Vf
open PySem PySem.Spec PyProof.Rows L2 GxR GenW RZ
abbrev s_read_maker : Stmt := top 33
abbrev n_read_maker : List Str := ["reader", "makers", "names", "name", "source", "target"]
abbrev p_read_maker : List Str := ["reader", "makers", "names"]
theorem sc_read_maker : FnScope n_read_maker p_read_maker (defScope s_read_maker) := ⟨rfl, rfl, rfl, by decide +kernel, rfl, by decide +kernel, by decide +kernel⟩

abbrev s_is_cost : Stmt := top 34
abbrev n_is_cost : List Str := ["word", "character"]
abbrev p_is_cost : List Str := ["word"]
theorem sc_is_cost : FnScope n_is_cost p_is_cost (defScope s_is_cost) := ⟨rfl, rfl, rfl, by decide +kernel, rfl, by decide +kernel, by decide +kernel⟩

def costs : List Nat := [0, 1, 7, 10, 999, 1000]
abbrev iS (c : Nat) : Str := (toString ((c : Nat) : Int))
def digs : List Nat := ("0123456789" : Str).cps.toList
theorem cost_facts : ∀ c ∈ costs, 1 ≤ (iS c).length ∧ (iS c).length ≤ 4 ∧ (∀ d ∈ cp (iS c), d ∈ digs) ∧ PySem.intText? (iS c) = some ((c : Nat) : Int) ∧ c ≤ 1000 ∧ iS c ≠ "" := by decide +kernel
theorem len1000 : (iS 1000).length = 4 := by decide +kernel
/-! ### a cost as a text -/
def cv (x : Str) : Nat := NumText.digitsVal (cp x)
def plainN (cs : List Nat) : Bool := decide (cs.length = 1) || decide (cs.head? ≠ some 48)
def canT (cs : List Nat) : Bool := decide (1000 < NumText.digitsVal cs) || (decide (cp (iS (NumText.digitsVal cs)) = cs) == plainN cs)
theorem can1 : (digs.all fun a => canT [a]) = true := by decide +kernel
theorem can2 : (digs.all fun a => digs.all fun b => canT [a, b]) = true := by decide +kernel
theorem can3 : (digs.all fun a => digs.all fun b => digs.all fun c => canT [a, b, c]) = true := by decide +kernel
theorem can4 : (digs.all fun b => digs.all fun c => digs.all fun d => canT [48, b, c, d]) = true := by decide +kernel
theorem can5 : (digs.all fun b => digs.all fun c => digs.all fun d => decide (b = 48 ∧ c = 48 ∧ d = 48) || decide (1000 < NumText.digitsVal [49, b, c, d])) = true := by decide +kernel
theorem can6 : canT [49, 48, 48, 48] = true := by decide +kernel
theorem can7 : (digs.all fun a => decide (a < 50) || digs.all fun b => digs.all fun c => digs.all fun d => decide (1000 < NumText.digitsVal [a, b, c, d])) = true := by decide +kernel
theorem digs_num : ∀ d ∈ digs, 48 ≤ d ∧ d ≤ 57 := by decide +kernel
theorem can_all : ∀ cs : List Nat, (∀ d ∈ cs, d ∈ digs) → 1 ≤ cs.length → cs.length ≤ 4 → canT cs = true := fun cs h h1 h4 => by
  have al : ∀ {p : Nat → Bool}, digs.all p = true → ∀ d ∈ digs, p d = true := fun q => List.all_eq_true.mp q
  match cs, h, h1, h4 with
  | [a], h, _, _ => exact al can1 a (h a (by simp))
  | [a, b], h, _, _ => exact al (al can2 a (h a (by simp))) b (h b (by simp))
  | [a, b, c], h, _, _ => exact al (al (al can3 a (h a (by simp))) b (h b (by simp))) c (h c (by simp))
  | [a, b, c, d], h, _, _ =>
    have ha := h a (by simp)
    have hb := h b (by simp)
    have hc := h c (by simp)
    have hd := h d (by simp)
    have n := digs_num a ha
    have big : 1000 < NumText.digitsVal [a, b, c, d] → canT [a, b, c, d] = true := fun z => by
      unfold canT
      rw [decide_eq_true z]; rfl
    by_cases a0 : a = 48
    · subst a0
      exact al (al (al can4 b hb) c hc) d hd
    · by_cases a1 : a = 49
      · subst a1
        have q := al (al (al can5 b hb) c hc) d hd
        rw [Bool.or_eq_true] at q
        rcases q with q | q
        · obtain ⟨rfl, rfl, rfl⟩ := of_decide_eq_true q
          exact can6
        · exact big (of_decide_eq_true q)
      · have q := al can7 a ha
        rw [Bool.or_eq_true] at q
        rcases q with q | q
        · have := of_decide_eq_true q
          omega
        · exact big (of_decide_eq_true (al (al (al q b hb) c hc) d hd))
  | _ :: _ :: _ :: _ :: _ :: _, _, _, h4 => simp only [List.length_cons] at h4; omega
def isCo (x : Str) : Bool := decide (1 ≤ x.length ∧ x.length ≤ 4) && (((cp x).all fun c => decide (c ∈ digs)) && (plainN (cp x) && decide (cv x ≤ 1000)))
theorem co_read {x : Str} (h1 : 1 ≤ x.length) (h4 : x.length ≤ 4) (hd : ∀ c ∈ cp x, c ∈ digs) : PySem.intText? x = some ((cv x : Nat) : Int) ∧ cv x < 10000 ∧ (cv x ≤ 1000 → decide (iS (cv x) = x) = plainN (cp x)) := by
  have l := cp_len x
  refine ⟨intText_digits (fun c hc => digs_num c (hd c hc)) (fun z => ?_) (by omega), ?_, fun z => ?_⟩
  · rw [show cp x = [] from z] at l
    simp at l
    omega
  · unfold cv
    generalize cp x = cs at hd l
    have v : ∀ d ∈ cs, 48 ≤ d ∧ d ≤ 57 := fun d h => digs_num d (hd d h)
    have l4 : cs.length ≤ 4 := by omega
    match cs, v, l4 with
    | [], _, _ => decide
    | [a], v, _ =>
      have := v a (by simp)
      simp only [NumText.digitsVal, List.foldl]; omega
    | [a, b], v, _ =>
      have := v a (by simp)
      have := v b (by simp)
      simp only [NumText.digitsVal, List.foldl]; omega
    | [a, b, c], v, _ =>
      have := v a (by simp)
      have := v b (by simp)
      have := v c (by simp)
      simp only [NumText.digitsVal, List.foldl]; omega
    | [a, b, c, d], v, _ =>
      have := v a (by simp)
      have := v b (by simp)
      have := v c (by simp)
      have := v d (by simp)
      simp only [NumText.digitsVal, List.foldl]; omega
    | _ :: _ :: _ :: _ :: _ :: _, _, h => simp only [List.length_cons] at h; omega
  · have q := can_all (cp x) hd (by omega) (by omega)
    unfold canT at q
    rw [Bool.or_eq_true] at q
    rcases q with q | q
    · have := of_decide_eq_true q
      unfold cv at z
      omega
    · have q := eq_of_beq q
      rw [← q, decide_eq_decide]
      exact ⟨fun e => congrArg cp e, fun e => cp_inj e⟩
theorem co_facts {x : Str} (h : isCo x = true) : 1 ≤ x.length ∧ x.length ≤ 4 ∧ (∀ c ∈ cp x, c ∈ digs) ∧ cv x ≤ 1000 := by
  unfold isCo at h
  rw [Bool.and_eq_true, Bool.and_eq_true, Bool.and_eq_true, List.all_eq_true] at h
  have q := of_decide_eq_true h.1
  exact ⟨q.1, q.2, fun c hc => of_decide_eq_true (h.2.1 c hc), of_decide_eq_true h.2.2.2⟩
/-- a maker -/
structure Mak where
  n : Str
  s : Str
  t : Str
  c : Nat
def mwords (m : Mak) : List Str := ["maker", m.n, "from", m.s, "to", m.t, "cost", iS m.c]
def makV (m : Mak) : List V := [.str m.n, .str m.s, .str m.t, .int (m.c : Nat)]
def ck {α : Type} (b : Bool) (c : Nat) (k : Except Nat α) : Except Nat α := if b = true then k else .error c
theorem Ends.yes {α : Type} {K : PySem.W.Frag} {E : XK} {S : List Addr} {n : Int} {H : Hp} {b : Bool} {c : Nat} {k : Except Nat α} {ok : α → Prop} (h : Ends K E S n H (ck b c k) ok) (hb : b = true) : Ends K E S n H k ok := by
  unfold ck at h
  rw [if_pos hb] at h
  exact h
theorem Ends.no {α : Type} {K : PySem.W.Frag} {E : XK} {S : List Addr} {n : Int} {H : Hp} {b : Bool} {c : Nat} {k : Except Nat α} {ok : α → Prop} (h : Ends K E S n H (ck b c k) ok) (hb : b = false) : Er K E S n c H := by
  unfold ck at h
  rw [if_neg (by rw [hb]; decide)] at h
  exact h
def wa (W : WC) (i : Nat) : Str := (W.getD i (0, "")).2
def ca (W : WC) (i : Nat) : Nat := (W.getD i (0, "")).1
/-- a maker's line, behind its first word -/
def rdMaker (taken names : List Str) (W : WC) : Except Nat (Mak × WC) :=
  ck (isWs (wa W 0) && decide (wa W 0 ∉ taken)) (ca W 0) (ck (decide (wa W 1 = "from")) (ca W 1) (ck (decide (wa W 2 ∈ names)) (ca W 2) (ck (decide (wa W 3 = "to")) (ca W 3)
    (ck (decide (wa W 4 ∈ names) && decide (wa W 4 ≠ wa W 2)) (ca W 4) (ck (decide (wa W 5 = "cost")) (ca W 5) (ck (isCo (wa W 6)) (ca W 6) (.ok (⟨wa W 0, wa W 2, wa W 4, cv (wa W 6)⟩, W.drop 7))))))))
def spCost (K : PySem.W.Frag) : Sp := fun vs H Q _ => ∃ x : Str, vs = [.str x] ∧ x.length ≤ 900000 ∧ TabG H (tb K "is_cost") ∧ ∀ H', Gr H H' → Q (.bl (isCo x)) H'
def spMaker (K : PySem.W.Frag) : Sp := fun vs H Q E => ∃ (r md nl wl : Addr) (n : Int) (c : Nat) (rest : WC) (kvs : List (Key × V)) (taken names : List Str), vs = [.ref r, .ref md, .ref nl] ∧ WL rest ∧ Rd K H r wl n ((c, "maker") :: rest) ∧ H md = some (.dK kvs) ∧ (∀ x : Str, valV kvs (Sum.inr x : Key) = none ↔ x ∉ taken) ∧
  H nl = some (.lst (strV names)) ∧ ("" : Str) ∉ names ∧ TabG H (tb K "is_word") ∧ TabG H (tb K "is_cost") ∧
  Ends K E [r] n H (rdMaker taken names rest) fun q => ∀ t H', GrM [r] H H' → Rd K H' r wl n q.2 → H' t = some (.tup (makV q.1)) → Q (.ref t) H'
section
variable {P : Program} {w : World} {K : PySem.W.Frag} {mg : Str → Option Value} {base : Heap}
theorem lg_nat {i : Nat} (hi : i < 10000) : ((i : Nat) : Int).natAbs.log2 < 1920 := by
  rw [Int.natAbs_natCast]
  refine Nat.lt_of_le_of_lt ?_ (show 14 < 1920 by decide)
  by_cases i0 : i = 0
  · subst i0; decide
  · exact Nat.le_of_lt_succ ((Nat.log2_lt i0).mpr (by omega))
theorem ok_cost {fd : FuncData} (F : FnP K "is_cost" s_is_cost fd) (T : TY K mg) (TB : TBx K mg base "is_cost") : FnOk P w K mg base CX0 2 (He.fAd K ("is_cost", none)) fd p_is_cost (spCost K) := by
  refine okP F sc_is_cost (fun vs H Q E h => by obtain ⟨x, rfl, _⟩ := h; rfl) (fun A outer s H vs Q E hr h => ?_)
  obtain ⟨x, rfl, hx, hT, k⟩ := h
  refine ⟨_, (pss_cons (ps_if (PW.pt (pw_or (pt_not (pt_chain u_le u_le pe_int (pe_callB (k_len (K := K) rfl) rfl T.b_len (by decide +kernel) (pa_cons (pv 0) pa_nil)) (pe_callB (k_len (K := K) rfl) rfl T.b_len (by decide +kernel) (pa_cons (pe_callTy call_str_int rfl T.b_str (by decide +kernel) (pa_cons (pe_gl T.c_MOST_COST rfl) pa_nil)) pa_nil)))) (pw_or1 (pt_not (pt_val (pe_allL (own := [1]) (j := 1) hr rfl T.b_all (by decide +kernel) TB rfl (gok_by (N := n_is_cost) (sc := defScope s_is_cost) (by decide +kernel)) sc_is_cost.nd rfl (by simp) (pi_str (pv 0)) (fun _ _ _ _ _ _ hr' => pts_nil) (fun _ _ _ _ _ _ hr' => (pe_cmpR (u_in (K := K) rfl) (pv 1) (pe_gl T.c_DIGITS rfl) (by first | exact nomark _ | rfl)))))))))
      (pss_one (ps_ret pe_bl))
      pss_nil)
      (pss_one (ps_ret (pe_and (pe_cmpR (u_eq (K := K) rfl hr.units) (pe_callTy call_str_int rfl T.b_str (by decide +kernel) (pa_cons (pe_callTy call_int_str rfl T.b_int (by decide +kernel) (pa_cons (pv 0) pa_nil)) pa_nil)) (pv 0) (nomark _)) (pe_one (pe_cmpR u_le (pe_callTy call_int_str rfl T.b_int (by decide +kernel) (pa_cons (pv 0) pa_nil)) (pe_gl T.c_MOST_COST rfl) (nomark _))))))), ?_⟩
  have fin : ∀ H', Gr H H' → ∀ b, isCo x = b → Q (.bl b) H' := fun H' g b e => e ▸ k H' g
  refine ⟨_, rfl, _, _, rfl, ⟨by rw [sizeLine_eq]; omega, rfl⟩, le_ii ⟨_, rfl, ite2 (fun h1 => ?_) (fun h1 => ⟨_, rfl, iteT (fin _ (Gr.refl H) false ?_)⟩)⟩⟩
  rotate_left
  · have h1 : ¬ 1 ≤ x.length := fun z => h1 (decide_eq_true (by omega))
    unfold isCo
    rw [decide_eq_false (by omega), Bool.false_and]
  have h1 : 1 ≤ x.length := by have := of_decide_eq_true h1; omega
  refine ⟨_, rfl, lg_nat (i := 1000) (by omega), _, _, rfl, ⟨by rw [sizeLine_eq]; decide +kernel, rfl⟩, le_ii ⟨_, rfl, ?_⟩⟩
  have l4 : (toString (1000 : Int) : Str).length = 4 := len1000
  rw [l4]
  by_cases h4 : x.length ≤ 4
  rotate_left
  · rw [decide_eq_false (show ¬ ((x.length : Nat) : Int) ≤ ((4 : Nat) : Int) by omega)]
    refine iteT (fin _ (Gr.refl H) false ?_)
    unfold isCo
    rw [decide_eq_false (by omega), Bool.false_and]
  rw [decide_eq_true (show ((x.length : Nat) : Int) ≤ ((4 : Nat) : Int) by omega)]
  have eN : isCo x = (((cp x).all fun c => decide (c ∈ digs)) && (plainN (cp x) && decide (cv x ≤ 1000))) := by
    unfold isCo
    rw [decide_eq_true ⟨h1, h4⟩, Bool.true_and]
  refine iteF ⟨_, rfl, _, rfl, hT, fun H2 hTb => ?_⟩
  have g := Gr.tabb hTb
  refine turns_S (fun i H' => H' = H2 ∧ ∀ c ∈ x.cps.toList.take i, c ∈ digs) ⟨rfl, by simp⟩ ?_ ?_
  · rintro i d H' hd ⟨rfl, ha⟩
    refine ⟨_, rfl, in_sign ⟨_, rfl, ite2 (fun h5 => ⟨rfl, ?_⟩) (fun h5 => ?_)⟩⟩
    · intro e he
      rw [List.take_succ, hd] at he
      rcases List.mem_append.mp he with he | he
      · exact ha e he
      · simp only [Option.toList_some, List.mem_singleton] at he
        subst he
        exact of_decide_eq_true h5
    · have h5 : d ∉ digs := fun z => h5 (decide_eq_true z)
      refine ⟨_, rfl, iteT (fin _ g false ?_)⟩
      have e : ((cp x).all fun c => decide (c ∈ digs)) = false := by
        rw [List.all_eq_false]
        exact ⟨d, List.mem_of_getElem? hd, by simp [h5]⟩
      rw [eN, e, Bool.false_and]
  · rintro H' ⟨rfl, ha⟩
    rw [List.take_length] at ha
    obtain ⟨c1, c2, c3⟩ := co_read h1 h4 ha
    have e : ((cp x).all fun c => decide (c ∈ digs)) = true := by
      rw [List.all_eq_true]
      exact fun c hc => decide_eq_true (ha c hc)
    rw [e, Bool.true_and] at eN
    refine ⟨_, rfl, iteF ⟨_, rfl, _, _, rfl, c1, by omega, _, rfl, lg_nat c2, _, rfl, e_flat rfl ⟨_, rfl, ?_⟩⟩⟩
    rw [dvs]
    by_cases z : cv x ≤ 1000
    · have e2 : decide ((toString ((cv x : Nat) : Int) : Str) = x) = plainN (cp x) := c3 z
      rw [e2]
      rw [decide_eq_true z, Bool.and_true] at eN
      cases e3 : plainN (cp x) with
      | false =>
        rw [e3] at eN
        exact iteF (fin _ g false eN)
      | true =>
        rw [e3] at eN
        refine iteT ⟨_, rfl, _, _, rfl, c1, by omega, le_ii ?_⟩
        rw [decide_eq_true (show ((cv x : Nat) : Int) ≤ 1000 by omega)]
        exact fin _ g true eN
    · rw [decide_eq_false z, Bool.and_false] at eN
      refine ite2 (fun _ => ?_) (fun h => fin _ g false eN)
      refine ⟨_, rfl, _, _, rfl, c1, by omega, le_ii ?_⟩
      rw [decide_eq_false (show ¬ ((cv x : Nat) : Int) ≤ 1000 by omega)]
      exact fin _ g false eN
end
end Vf
end
section
set_option Elab.async false
set_option linter.all false
set_option maxRecDepth 100000
set_option maxHeartbeats 4000000
namespace Vf
open PySem PySem.Spec PyProof.Rows L2 GxR GenW RZ
section
variable {P : Program} {w : World} {K : PySem.W.Frag} {mg : Str → Option Value} {base : Heap}
theorem ws_ne {x : Str} (h : isWs x = true) : x ≠ "" := fun z => by
  rw [z] at h
  exact absurd h (by decide +kernel)
theorem co_ne {x : Str} (h : isCo x = true) : x ≠ "" := fun z => by
  rw [z] at h
  exact absurd h (by decide +kernel)
theorem kw_ne : ("from" : Str) ≠ "" ∧ ("to" : Str) ≠ "" ∧ ("cost" : Str) ≠ "" ∧ ("maker" : Str) ≠ "" ∧ ("form" : Str) ≠ "" := by decide +kernel
theorem ok_maker {fd : FuncData} (F : FnP K "read_maker" s_read_maker fd) (T : TY K mg) (D_is_word : Df P w K mg base "is_word" 2 p_is_word (spWord K)) (D_is_cost : Df P w K mg base "is_cost" 2 p_is_cost (spCost K))
    (D_LineReader__ahead : Mf P w K mg base (LR K) "ahead" 1 p_LineReader__ahead (spAhead K)) (D_LineReader__need : Mx P w K mg base (LR K) "need" 4 p_LineReader__need (spNeed K)) (D_LineReader__take : Mf P w K mg base (LR K) "take" 2 p_LineReader__take (spTake K))
    (D_LineReader__take_only : Mx P w K mg base (LR K) "take_only" 5 p_LineReader__take_only (spOnly K)) : FnOk P w K mg base (L2.CX P w) 6 (He.fAd K ("read_maker", none)) fd p_read_maker (spMaker K) := by
  refine okPX F sc_read_maker (fun vs H Q E h => by obtain ⟨r, md, nl, wl, n, c, rest, kvs, taken, names, rfl, _⟩ := h; rfl) (fun A outer s H vs Q E hr h => ?_)
  obtain ⟨r, md, nl, wl, n, c, W, kvs, taken, names, rfl, hW, hd, hM, hv, hN, hne, hT1, hT2, kk⟩ := h
  obtain ⟨okA, okT, okN, okO⟩ := okM4
  obtain ⟨kw1, kw2, kw3, _, _⟩ := kw_ne
  have nin : ∀ {a : Addr} {o : HO}, H a = some o → (∀ C dx fs, o ≠ .ins C dx fs) → a ∉ [r] := fun h1 h2 z => by
    rw [List.mem_singleton] at z
    subst z
    obtain ⟨dx, ws, W, i, h3, _⟩ := hd.ex
    rw [h1] at h3; cases h3
    exact h2 _ _ _ rfl
  have nm := nin hM (fun _ _ _ z => by cases z)
  have nn := nin hN (fun _ _ _ z => by cases z)
  have inN : ∀ {x : Str}, inV (.str x) (strV names) = decide (x ∈ names) := fun {x} => by
    rw [Bool.eq_iff_iff, inV_str, decide_eq_true_eq]
  refine ⟨_, (pss_cons (ps_expr (pe_mtX (takes_of rfl rfl rfl rfl) T.cl D_LineReader__take_only hr (by decide) (pv 0) (pa_cons pe_str pa_nil)))
      (pss_cons (ps_set (i := 3) sc_read_maker.nd rfl (by first | exact Or.inl rfl | exact Or.inr rfl) (pe_mt0 T.cl D_LineReader__ahead hr (by decide) (pv 0)))
      (pss_cons (ps_expr (pe_mtX (takes_of rfl rfl rfl rfl) T.cl D_LineReader__need hr (by decide) (pv 0) (pa_cons (pe_and (pe_fn D_is_word hr (by decide) rfl (pa_cons (pv 3) pa_nil)) (pe_one (pe_cmp (pc_dnotin (hu_of hr) (pv 3) (pv 1)) rfl))) pa_nil)))
      (pss_cons (ps_expr (pe_mt0 T.cl D_LineReader__take hr (by decide) (pv 0)))
      (pss_cons (ps_expr (pe_mtX (takes_of rfl rfl rfl rfl) T.cl D_LineReader__take_only hr (by decide) (pv 0) (pa_cons pe_str pa_nil)))
      (pss_cons (ps_expr (pe_mtX (takes_of rfl rfl rfl rfl) T.cl D_LineReader__need hr (by decide) (pv 0) (pa_cons (pe_cmpR (u_in (K := K) rfl) (pe_mt0 T.cl D_LineReader__ahead hr (by decide) (pv 0)) (pv 2) (by first | exact nomark _ | rfl)) pa_nil)))
      (pss_cons (ps_set (i := 4) sc_read_maker.nd rfl (by first | exact Or.inl rfl | exact Or.inr rfl) (pe_mt0 T.cl D_LineReader__take hr (by decide) (pv 0)))
      (pss_cons (ps_expr (pe_mtX (takes_of rfl rfl rfl rfl) T.cl D_LineReader__take_only hr (by decide) (pv 0) (pa_cons pe_str pa_nil)))
      (pss_cons (ps_expr (pe_mtX (takes_of rfl rfl rfl rfl) T.cl D_LineReader__need hr (by decide) (pv 0) (pa_cons (pe_and (pe_cmpR (u_in (K := K) rfl) (pe_mt0 T.cl D_LineReader__ahead hr (by decide) (pv 0)) (pv 2) (by first | exact nomark _ | rfl)) (pe_one (pe_cmpR (u_ne (K := K) rfl hr.units) (pe_mt0 T.cl D_LineReader__ahead hr (by decide) (pv 0)) (pv 4) (nomark _)))) pa_nil)))
      (pss_cons (ps_set (i := 5) sc_read_maker.nd rfl (by first | exact Or.inl rfl | exact Or.inr rfl) (pe_mt0 T.cl D_LineReader__take hr (by decide) (pv 0)))
      (pss_cons (ps_expr (pe_mtX (takes_of rfl rfl rfl rfl) T.cl D_LineReader__take_only hr (by decide) (pv 0) (pa_cons pe_str pa_nil)))
      (pss_cons (ps_expr (pe_mtX (takes_of rfl rfl rfl rfl) T.cl D_LineReader__need hr (by decide) (pv 0) (pa_cons (pe_fn D_is_cost hr (by decide) rfl (pa_cons (pe_mt0 T.cl D_LineReader__ahead hr (by decide) (pv 0)) pa_nil)) pa_nil)))
      (pss_one (ps_ret (pe_tup (pa_cons (pv 3) (pa_cons (pv 4) (pa_cons (pv 5) (pa_cons (pe_callTy call_int_str rfl T.b_int (by decide +kernel) (pa_cons (pe_mt0 T.cl D_LineReader__take hr (by decide) (pv 0)) pa_nil)) pa_nil))))))))))))))))))), ?_⟩
  refine ⟨_, rfl, hd.go okO ⟨r, wl, n, c, "maker", "maker", W, rfl, hd, fun _ H1 g1 hd1 => ?_, fun z => absurd rfl z⟩⟩
  -- the name
  obtain ⟨c1, w1, W1, rfl, go1⟩ := hW.go
  have l1 := hW.len
  refine ⟨_, rfl, hd1.go okA ⟨r, wl, n, c1, w1, W1, rfl, hd1, ?_⟩⟩
  refine ⟨_, rfl, hd1.go okN ?_⟩
  refine ⟨_, rfl, _, .str w1, rfl, .str _, (fun x e => by cases e; rw [sizeLine_eq]; omega), g1.tabG hT1, fun H2 g2 => ⟨_, rfl, ?_⟩⟩
  have G2 : GrM [r] H H2 := g1.trans g2.m
  have hd2 := hd1.gr g2
  have ew : isWd (.str w1) = isWs w1 := rfl
  rw [ew]
  by_cases i1 : isWs w1 = true
  rotate_left
  · have i1 : isWs w1 = false := by simpa using i1
    rw [i1]
    exact iteF ⟨r, wl, n, c1, w1, W1, _, rfl, hd2, fun (z : false = true) => (by cases z), fun _ => Er.go (Ends.no kk (by show (isWs w1 && _) = false; rw [i1]; rfl)) G2 (by simp)⟩
  rw [i1]
  refine iteT ⟨_, rfl, _, rfl, md, _, rfl, DGet.k (k := Sum.inr w1) (G2.keep nm hM (fun _ z => by cases z)), ?_⟩
  refine ⟨r, wl, n, c1, w1, W1, _, rfl, hd2, fun z => ?_, fun z => Er.go (Ends.no kk ?_) G2 (by simp)⟩
  rotate_left
  · show (isWs w1 && decide (w1 ∉ taken)) = false
    rw [i1, Bool.true_and]
    refine decide_eq_false fun y => ?_
    rw [(hv w1).mpr y] at z
    cases z
  have i2 : w1 ∉ taken := (hv w1).mp (by
    cases e : valV kvs (Sum.inr w1 : Key) with
    | none => rfl
    | some x => rw [e] at z; cases z)
  have kk := Ends.yes kk (by show (isWs w1 && decide (w1 ∉ taken)) = true; rw [i1, decide_eq_true i2]; rfl)
  obtain ⟨hW1, _⟩ := go1 (ws_ne i1)
  refine ⟨_, rfl, hd2.go okT ⟨r, wl, n, c1, w1, W1, rfl, hd2, fun H3 g3 hd3 => ?_⟩⟩
  have G3 := G2.trans g3
  -- from
  obtain ⟨c2, w2, W2, rfl, go2⟩ := hW1.go
  refine ⟨_, rfl, hd3.go okO ⟨r, wl, n, c2, w2, "from", W2, rfl, hd3, fun z H4 g4 hd4 => ?_, fun z => Er.go (Ends.no kk (decide_eq_false z)) G3 (by simp)⟩⟩
  have kk := Ends.yes kk (decide_eq_true z)
  obtain ⟨hW2, _⟩ := go2 (z ▸ kw1)
  have G4 := G3.trans g4
  have hN4 := G4.keep nn hN (fun _ z => by cases z)
  -- the source
  obtain ⟨c3, w3, W3, rfl, go3⟩ := hW2.go
  refine ⟨_, rfl, hd4.go okN ?_⟩
  refine ⟨_, rfl, hd4.go okA ⟨r, wl, n, c3, w3, W3, rfl, hd4, _, rfl, in_seq (.inl (SqL.of hN4)) rfl (strV_flat _) ?_⟩⟩
  rw [inN]
  refine ⟨r, wl, n, c3, w3, W3, _, rfl, hd4, fun z3 => ?_, fun z => Er.go (Ends.no kk z) G4 (by simp)⟩
  have kk := Ends.yes kk z3
  have i3 : w3 ∈ names := of_decide_eq_true z3
  obtain ⟨hW3, _⟩ := go3 (fun z => hne (z ▸ i3))
  refine ⟨_, rfl, hd4.go okT ⟨r, wl, n, c3, w3, W3, rfl, hd4, fun H5 g5 hd5 => ?_⟩⟩
  have G5 := G4.trans g5
  -- to
  obtain ⟨c4, w4, W4, rfl, go4⟩ := hW3.go
  refine ⟨_, rfl, hd5.go okO ⟨r, wl, n, c4, w4, "to", W4, rfl, hd5, fun z H6 g6 hd6 => ?_, fun z => Er.go (Ends.no kk (decide_eq_false z)) G5 (by simp)⟩⟩
  have kk := Ends.yes kk (decide_eq_true z)
  obtain ⟨hW4, _⟩ := go4 (z ▸ kw2)
  have G6 := G5.trans g6
  have hN6 := G6.keep nn hN (fun _ z => by cases z)
  -- the target
  obtain ⟨c5, w5, W5, rfl, go5⟩ := hW4.go
  refine ⟨_, rfl, hd6.go okN ?_⟩
  refine ⟨_, rfl, hd6.go okA ⟨r, wl, n, c5, w5, W5, rfl, hd6, _, rfl, in_seq (.inl (SqL.of hN6)) rfl (strV_flat _) ⟨_, rfl, ?_⟩⟩⟩
  rw [inN]
  by_cases i5 : w5 ∈ names
  rotate_left
  · rw [decide_eq_false i5]
    exact iteF ⟨r, wl, n, c5, w5, W5, _, rfl, hd6, fun (z : false = true) => (by cases z), fun _ => Er.go (Ends.no kk (by show (decide (w5 ∈ names) && _) = false; rw [decide_eq_false i5]; rfl)) G6 (by simp)⟩
  rw [decide_eq_true i5]
  refine iteT ⟨_, rfl, hd6.go okA ⟨r, wl, n, c5, w5, W5, rfl, hd6, _, rfl, n_flat rfl ?_⟩⟩
  rw [dvs]
  have e5 : (decide (w5 ∈ names) && decide (w5 ≠ w3)) = !decide (w5 = w3) := by
    rw [decide_eq_true i5, Bool.true_and]
    by_cases z : w5 = w3 <;> simp [z]
  refine ⟨r, wl, n, c5, w5, W5, _, rfl, hd6, fun z => ?_, fun z => Er.go (Ends.no kk (e5.trans z)) G6 (by simp)⟩
  have kk := Ends.yes kk (e5.trans z)
  obtain ⟨hW5, _⟩ := go5 (fun z => hne (z ▸ i5))
  refine ⟨_, rfl, hd6.go okT ⟨r, wl, n, c5, w5, W5, rfl, hd6, fun H7 g7 hd7 => ?_⟩⟩
  have G7 := G6.trans g7
  -- cost
  obtain ⟨c6, w6, W6, rfl, go6⟩ := hW5.go
  refine ⟨_, rfl, hd7.go okO ⟨r, wl, n, c6, w6, "cost", W6, rfl, hd7, fun z H8 g8 hd8 => ?_, fun z => Er.go (Ends.no kk (decide_eq_false z)) G7 (by simp)⟩⟩
  have kk := Ends.yes kk (decide_eq_true z)
  obtain ⟨hW6, _⟩ := go6 (z ▸ kw3)
  have G8 := G7.trans g8
  obtain ⟨c7, w7, W7, rfl, go7⟩ := hW6.go
  have l7 := hW6.len
  refine ⟨_, rfl, hd8.go okN ?_⟩
  refine ⟨_, rfl, hd8.go okA ⟨r, wl, n, c7, w7, W7, rfl, hd8, w7, rfl, l7, G8.tabG hT2, fun H9 g9 => ?_⟩⟩
  have hd9 := hd8.gr g9
  have G9 := G8.trans g9.m
  refine ⟨r, wl, n, c7, w7, W7, _, rfl, hd9, fun i7 => ?_, fun z => Er.go (Ends.no kk z) G9 (by simp)⟩
  have kk : ∀ t H', GrM [r] H H' → Rd K H' r wl n W7 → H' t = some (.tup (makV ⟨w1, w3, w5, cv w7⟩)) → Q (.ref t) H' := Ends.yes kk i7
  obtain ⟨f1, f4, fd7, f1000⟩ := co_facts i7
  obtain ⟨c4, _, _⟩ := co_read f1 f4 fd7
  refine ⟨_, rfl, _, rfl, _, rfl, _, rfl, hd9.go okT ⟨r, wl, n, c7, w7, W7, rfl, hd9, fun Ha ga hda => ?_⟩⟩
  refine ⟨_, _, rfl, c4, by omega, by show 4 ≤ sizeLine; rw [sizeLine_eq]; decide, fun t ht => ?_⟩
  refine newH ht fun Hb gb sb => ?_
  exact kk t Hb ((G9.trans ga).trans gb.m) (hda.gr gb) sb
end
end Vf
end
section
set_option Elab.async false
set_option linter.all false
set_option maxRecDepth 100000
set_option maxHeartbeats 4000000
namespace Vf
open PySem PySem.Spec PyProof.Rows L2 GxR GenW RZ
abbrev s_parse_program : Stmt := top 30
abbrev n_parse_program : List Str := ["text", "names", "forms", "makers", "lines", "at", "line", "reader", "word", "form", "maker"]
abbrev p_parse_program : List Str := ["text", "names"]
theorem sc_parse_program : FnScope n_parse_program p_parse_program (defScope s_parse_program) := ⟨rfl, rfl, rfl, by decide +kernel, rfl, by decide +kernel, by decide +kernel⟩

abbrev fnm (f : List Str) : Str := fa f 0
def tops (known : List Str) (F : List (List Str)) : List Str := ("plain" : Str) :: (known ++ F.map fnm)
def fD (f : List Str) : PyData := .tuple (f.map PyData.str)
def mD (m : Mak) : PyData := .tuple [.str m.n, .str m.s, .str m.t, .int (m.c : Nat)]
/-- a dict from keys to tuples -/
def KA {α : Type} (key : α → Str) (val : α → List V) (H : Hp) (kvs : List (Key × V)) (F : List α) : Prop := kvs.length = F.length ∧ ∀ (j : Nat) (a : α), F[j]? = some a → ∃ t : Addr, kvs[j]? = some ((Sum.inr (key a) : Key), V.ref t) ∧ H t = some (.tup (val a))
section
variable {α : Type} {key : α → Str} {val : α → List V} {H H' : Hp} {kvs : List (Key × V)} {F : List α}
theorem KA.nil : KA key val H [] [] := ⟨rfl, fun j a e => by simp at e⟩
theorem KA.m {S : List Addr} (h : KA key val H kvs F) (g : GrM S H H') : KA key val H' kvs F := ⟨h.1, fun j a e => by
  obtain ⟨t, h1, h2⟩ := h.2 j a e
  exact ⟨t, h1, g.tup h2⟩⟩
theorem KA.snoc {t : Addr} {a : α} (h : KA key val H kvs F) (ht : H t = some (.tup (val a))) : KA key val H (kvs ++ [((Sum.inr (key a) : Key), V.ref t)]) (F ++ [a]) := by
  refine ⟨by rw [List.length_append, List.length_append, h.1]; rfl, fun j y e => ?_⟩
  by_cases hj : j < F.length
  · rw [List.getElem?_append_left hj] at e
    obtain ⟨t', h1, h2⟩ := h.2 j y e
    exact ⟨t', by rw [List.getElem?_append_left (by rw [h.1]; exact hj)]; exact h1, h2⟩
  · rw [List.getElem?_append_right (by omega)] at e
    have e0 : j - F.length = 0 := by
      have := (List.getElem?_eq_some_iff.mp e).1
      simp at this
      omega
    rw [e0] at e
    cases e
    refine ⟨t, ?_, ht⟩
    rw [List.getElem?_append_right (by rw [h.1]; omega), h.1, e0]; rfl
theorem KA.keys (h : KA key val H kvs F) : (kvs.map fun kv => kV kv.1) = strV (F.map key) := by
  refine List.ext_getElem? fun j => ?_
  unfold strV
  rw [List.map_map, List.getElem?_map, List.getElem?_map]
  cases e : F[j]? with
  | none =>
    have : kvs[j]? = none := by
      rw [List.getElem?_eq_none_iff] at e ⊢
      rw [h.1]; exact e
    rw [this]; rfl
  | some a =>
    obtain ⟨t, h1, _⟩ := h.2 j a e
    rw [h1]; rfl
theorem KA.none {x : Str} (h : KA key val H kvs F) (hx : ∀ a ∈ F, key a ≠ x) : valV kvs (Sum.inr x : Key) = Option.none := by
  unfold valV
  rw [List.find?_eq_none.mpr]
  · rfl
  · intro kv hkv
    obtain ⟨j, hj, e⟩ := List.getElem_of_mem hkv
    have hj2 : j < F.length := by rw [← h.1]; exact hj
    obtain ⟨t, h1, _⟩ := h.2 j F[j] (List.getElem?_eq_getElem hj2)
    rw [List.getElem?_eq_getElem hj, e] at h1
    have h1 := Option.some.inj h1
    rw [h1]
    simp only [decide_eq_true_eq]
    intro z
    exact hx _ (List.getElem_mem hj2) (Sum.inr.inj z)
theorem KA.dat {K : PySem.W.Frag} {dat : α → PyData} (h : KA key val H kvs F) (hd : ∀ a ∈ F, ∀ t : Addr, H t = some (.tup (val a)) → Dd K H (.ref t) (dat a)) : DdAll K H (kvs.map (·.2)) (F.map dat) := by
  induction F generalizing kvs with
  | nil =>
    have : kvs = [] := List.eq_nil_of_length_eq_zero h.1
    rw [this]
    exact .nil
  | cons a r ih =>
    cases kvs with
    | nil => cases h.1
    | cons kv ks =>
      obtain ⟨t, h1, h2⟩ := h.2 0 a rfl
      cases h1
      refine .cons (hd a List.mem_cons_self t h2) (ih ⟨Nat.succ.inj h.1, fun j b e => ?_⟩ fun b hb => hd b (List.mem_cons_of_mem _ hb))
      exact h.2 (j + 1) b e
end
theorem fo_dd {K : PySem.W.Frag} {H : Hp} {f : List Str} {t : Addr} (h : H t = some (.tup (strV f))) : Dd K H (.ref t) (fD f) := .tup (SqT.of h) (dd_strs f)
theorem mk_dd {K : PySem.W.Frag} {H : Hp} {m : Mak} {t : Addr} (h : H t = some (.tup (makV m))) : Dd K H (.ref t) (mD m) := .tup (SqT.of h) (.cons (.str _) (.cons (.str _) (.cons (.str _) (.cons (.int _) .nil))))
structure Tb3 (K : PySem.W.Frag) (H : Hp) : Prop where
  n : TabG H (tb K "is_form_name")
  w : TabG H (tb K "is_word")
  c : TabG H (tb K "is_cost")
theorem Tb3.m {K : PySem.W.Frag} {S : List Addr} {H H' : Hp} (h : Tb3 K H) (g : GrM S H H') : Tb3 K H' := ⟨g.tabG h.n, g.tabG h.w, g.tabG h.c⟩
theorem split_piece {x p : Str} (c : Nat) (h : p ∈ Txt.split x ⟨#[c]⟩) : p.length ≤ x.length := by
  have key : ∀ (ps : List (List Nat)) (q : List Nat), q ∈ ps → q.length ≤ (ic c ps).length := fun ps => by
    induction ps with
    | nil => intro q hq; cases hq
    | cons a r ih =>
      intro q hq
      cases r with
      | nil =>
        rw [List.mem_singleton.mp hq]
        exact Nat.le_refl _
      | cons b s =>
        show q.length ≤ (a ++ c :: ic c (b :: s)).length
        rw [List.length_append, List.length_cons]
        rcases List.mem_cons.mp hq with z | z
        · rw [z]; omega
        · have := ih q z
          omega
  have e := congrArg cp (StrLaws.join_split x ⟨#[c]⟩)
  rw [cp_join] at e
  have q := key _ (cp p) (List.mem_map.mpr ⟨p, h, rfl⟩)
  rw [cp_len] at q
  refine Nat.le_trans q ?_
  rw [← cp_len x, ← e]
  exact Nat.le_refl _
theorem KA.some {α : Type} {key : α → Str} {val : α → List V} {H : Hp} {kvs : List (Key × V)} {F : List α} {x : Str} (h : KA key val H kvs F) (hx : x ∈ F.map key) : valV kvs (Sum.inr x : Key) ≠ Option.none := by
  obtain ⟨a, ha, rfl⟩ := List.mem_map.mp hx
  obtain ⟨j, hj, e⟩ := List.getElem_of_mem ha
  obtain ⟨t, h1, _⟩ := h.2 j a (by rw [List.getElem?_eq_getElem hj, e])
  intro z
  unfold valV at z
  rw [Option.map_eq_none_iff, List.find?_eq_none] at z
  exact z _ (List.mem_of_getElem? h1) (decide_eq_true rfl)
theorem KA.iff {α : Type} {key : α → Str} {val : α → List V} {H : Hp} {kvs : List (Key × V)} {F : List α} (h : KA key val H kvs F) : ∀ x : Str, valV kvs (Sum.inr x : Key) = Option.none ↔ x ∉ F.map key := fun x =>
  ⟨fun z y => h.some y z, fun z => h.none fun a ha e => z (List.mem_map.mpr ⟨a, ha, e⟩)⟩
/-! ### a program, line by line -/
def only {α : Type} (W : WC) (a : α) : Except Nat α := match W with
  | [] => .error 0
  | (c, w) :: _ => if w = "" then .ok a else .error c
theorem only_cons {α : Type} (c : Nat) (w : Str) (r : WC) (a : α) : only ((c, w) :: r) a = if w = "" then .ok a else .error c := rfl
abbrev FM := List (List Str) × List Mak
def lineS (known : List Str) (F : List (List Str)) (M : List Mak) (W : WC) : Except Nat FM := match W with
  | [] => .error 0
  | (c, w) :: r => if w = "form" then bnd (rdForm (F.map fnm) r) fun q => only q.2 (F ++ [q.1], M) else if w = "maker" then bnd (rdMaker (M.map fun m => m.n) (tops known F) r) fun q => only q.2 (F, M ++ [q.1]) else only ((c, w) :: r) (F, M)
theorem lineS_cons (known : List Str) (F : List (List Str)) (M : List Mak) (c : Nat) (w : Str) (r : WC) : lineS known F M ((c, w) :: r) = if w = "form" then bnd (rdForm (F.map fnm) r) fun q => only q.2 (F ++ [q.1], M) else if w = "maker" then bnd (rdMaker (M.map fun m => m.n) (tops known F) r) fun q => only q.2 (F, M ++ [q.1]) else only ((c, w) :: r) (F, M) := rfl
def toldS (known : List Str) : Nat → List (List Str) → List Mak → List Str → Except (Nat × Nat) FM
  | _, F, M, [] => .ok (F, M)
  | i, F, M, row :: rows => if i = 50 then .error (51, 0) else match lineS known F M (wc row) with
    | .ok q => toldS known (i + 1) q.1 q.2 rows
    | .error c => .error (i + 1, c)
def nxt (known : List Str) (i : Nat) (rows : List Str) (res : Except Nat FM) : Except (Nat × Nat) FM := match res with
  | .ok q => toldS known (i + 1) q.1 q.2 rows
  | .error c => .error (i + 1, c)
theorem toldS_cons (known : List Str) (i : Nat) (F : List (List Str)) (M : List Mak) (row : Str) (rows : List Str) : toldS known i F M (row :: rows) = if i = 50 then .error (51, 0) else nxt known i rows (lineS known F M (wc row)) := rfl
/-- what is known of what was read -/
structure FR (f : List Str) : Prop where
  len : f.length = 9
  nm : isNm (fa f 0) = true
  ok : AccOk (f.drop 1)
structure MR (m : Mak) : Prop where
  n : isWs m.n = true
  s : isNm m.s = true
  t : isNm m.t = true
  c : m.c ≤ 1000
structure StR (known : List Str) (F : List (List Str)) (M : List Mak) : Prop where
  f : ∀ f ∈ F, FR f
  m : ∀ m ∈ M, MR m
  k : ∀ x ∈ known, isNm x = true
theorem plain_nm : isNm "plain" = true := by decide +kernel
theorem StR.tops {known : List Str} {F : List (List Str)} {M : List Mak} (h : StR known F M) : ∀ x ∈ tops known F, isNm x = true := fun x hx => by
  rcases List.mem_cons.mp hx with z | z
  · rw [z]; exact plain_nm
  · rcases List.mem_append.mp z with z | z
    · exact h.k x z
    · obtain ⟨f, hf, rfl⟩ := List.mem_map.mp z
      exact (h.f f hf).nm
theorem nm_ne {x : Str} (h : isNm x = true) : x ≠ "" := fun z => by
  rw [z] at h
  exact absurd h (by decide +kernel)
theorem StR.ne {known : List Str} {F : List (List Str)} {M : List Mak} (h : StR known F M) : ("" : Str) ∉ Vf.tops known F := fun z => nm_ne (h.tops _ z) rfl
theorem rdForm_ok {taken : List Str} {W : WC} {q : List Str × WC} (e : rdForm taken W = .ok q) (hW : WL W) : FR q.1 ∧ WL q.2 ∧ fnm q.1 ∉ taken := by
  cases W with
  | nil => cases e
  | cons p r =>
    obtain ⟨c, w⟩ := p
    rw [rdForm_cons] at e
    split at e
    · rename_i h
      obtain ⟨h1, h2, h3⟩ := h
      cases e1 : rdPs 0 parts [] r with
      | error x => rw [e1] at e; cases e
      | ok q1 =>
        rw [e1] at e
        obtain ⟨a, b, d⟩ := rdPs_ok parts_ne e1 (fun x hx => by cases hx) (hW.nx (nm_ne h1))
        have e : rdEnd w q1.1 q1.2 = .ok q := e
        have d : q1.1.length = 8 := by rw [d, parts_sum]; rfl
        obtain ⟨acc, r2⟩ := q1
        cases r2 with
        | nil => cases e
        | cons p2 r2 =>
          obtain ⟨c2, w2⟩ := p2
          rw [rdEnd_cons] at e
          split at e
          · cases e
            exact ⟨⟨by show acc.length + 1 = 9; have : acc.length = 8 := d; omega, h1, a⟩, b, h3⟩
          · cases e
    · cases e
theorem ck_ok {α : Type} {b : Bool} {c : Nat} {k : Except Nat α} {a : α} (e : ck b c k = .ok a) : b = true ∧ k = .ok a := by
  unfold ck at e
  split at e
  · rename_i h
    exact ⟨h, e⟩
  · cases e
theorem wa_drop (W : WC) (i : Nat) : wa (W.drop i) 0 = wa W i := by
  unfold wa
  rw [List.getD_eq_getElem?_getD, List.getD_eq_getElem?_getD, List.getElem?_drop, Nat.add_zero]
theorem WL.step {W : WC} {i : Nat} (h : WL (W.drop i)) (n : wa W i ≠ "") : WL (W.drop (i + 1)) := by
  rw [← wa_drop] at n
  rw [← List.drop_drop]
  obtain ⟨c, w, r, e, k⟩ := h.go
  rw [e] at n ⊢
  exact (k n).1
theorem rdMaker_ok {known taken : List Str} {F : List (List Str)} {M : List Mak} {W : WC} {q : Mak × WC} (st : StR known F M) (hW : WL W) (e : rdMaker taken (tops known F) W = .ok q) : MR q.1 ∧ q.1.n ∉ taken ∧ WL q.2 := by
  obtain ⟨kw1, kw2, kw3, _, _⟩ := kw_ne
  unfold rdMaker at e
  obtain ⟨h0, e⟩ := ck_ok e
  obtain ⟨h1, e⟩ := ck_ok e
  obtain ⟨h2, e⟩ := ck_ok e
  obtain ⟨h3, e⟩ := ck_ok e
  obtain ⟨h4, e⟩ := ck_ok e
  obtain ⟨h5, e⟩ := ck_ok e
  obtain ⟨h6, e⟩ := ck_ok e
  cases e
  rw [Bool.and_eq_true] at h0 h4
  have s0 : WL (W.drop 0) := hW
  have s1 := s0.step (ws_ne h0.1)
  have s2 := s1.step (of_decide_eq_true h1 ▸ kw1)
  have s3 := s2.step (nm_ne (st.tops _ (of_decide_eq_true h2)))
  have s4 := s3.step (of_decide_eq_true h3 ▸ kw2)
  have s5 := s4.step (nm_ne (st.tops _ (of_decide_eq_true h4.1)))
  have s6 := s5.step (of_decide_eq_true h5 ▸ kw3)
  have s7 := s6.step (co_ne h6)
  exact ⟨⟨h0.1, st.tops _ (of_decide_eq_true h2), st.tops _ (of_decide_eq_true h4.1), (co_facts h6).2.2.2⟩, of_decide_eq_true h0.2, s7⟩
theorem only_ok {α : Type} {W : WC} {a b : α} (e : only W a = .ok b) : b = a := by
  cases W with
  | nil => cases e
  | cons p r =>
    rw [only_cons] at e
    split at e
    · cases e; rfl
    · cases e
theorem StR.form {known : List Str} {F : List (List Str)} {M : List Mak} {f : List Str} (h : StR known F M) (hf : FR f) : StR known (F ++ [f]) M := ⟨fun g hg => by
  rcases List.mem_append.mp hg with z | z
  · exact h.f g z
  · rw [List.mem_singleton.mp z]; exact hf, h.m, h.k⟩
theorem StR.mak {known : List Str} {F : List (List Str)} {M : List Mak} {m : Mak} (h : StR known F M) (hm : MR m) : StR known F (M ++ [m]) := ⟨h.f, fun g hg => by
  rcases List.mem_append.mp hg with z | z
  · exact h.m g z
  · rw [List.mem_singleton.mp z]; exact hm, h.k⟩
def pD (F : List (List Str)) (M : List Mak) : PyData := .tuple [.tuple (F.map fD), .tuple (M.map mD)]
/-- what the whole comes to -/
def Fin (K : PySem.W.Frag) (E : XK) (Q : VK) (S : List Addr) (H : Hp) (res : Except (Nat × Nat) FM) : Prop := match res with
  | .ok q => ∀ v H', GrM S H H' → Dd K H' v (pD q.1 q.2) → Q v H'
  | .error e => Er K E S ((e.1 : Nat) : Int) e.2 H
theorem Fin.line {α : Type} {K : PySem.W.Frag} {E : XK} {Q : VK} {S : List Addr} {H : Hp} {known : List Str} {i : Nat} {rows : List Str} {res : Except Nat α} {f : α → Except Nat FM} (h : Fin K E Q S H (nxt known i rows (bnd res f))) : Ends K E S ((i : Nat) + 1) H res fun a => Fin K E Q S H (nxt known i rows (f a)) := by
  cases res with
  | ok a => exact h
  | error e => exact h
theorem Fin.gen {K : PySem.W.Frag} {E : XK} {Q : VK} {S S' : List Addr} {H H1 : Hp} {res : Except (Nat × Nat) FM} (h : Fin K E Q S H res) (g : ∀ H', GrM S' H1 H' → GrM S H H') : Fin K E Q S' H1 res := by
  cases res with
  | ok q => exact fun v H' k d => h v H' (g H' k) d
  | error e => exact fun d H' k he => h d H' (g H' k) he
def spParse (K : PySem.W.Frag) : Sp := fun vs H Q E => ∃ (text : Str) (nl : Addr) (known : List Str), vs = [.str text, .ref nl] ∧ H nl = some (.lst (strV known)) ∧ text.length ≤ 800000 ∧ 37 ∉ cp text ∧ (∀ x ∈ known, isNm x = true) ∧ known.length ≤ 1000 ∧ Tb3 K H ∧
  Fin K E Q [] H (toldS known 0 [] [] (Txt.split text "\n"))
/-- between two lines -/
structure PI (K : PySem.W.Frag) (H0 : Hp) (known : List Str) (fdc mdc : Addr) (i : Nat) (F : List (List Str)) (M : List Mak) (H : Hp) : Prop where
  ex : ∃ (kF kM : List (Key × V)), H fdc = some (.dK kF) ∧ KA fnm strV H kF F ∧ H mdc = some (.dK kM) ∧ KA (fun m : Mak => m.n) makV H kM M
  st : StR known F M
  ln : F.length + M.length ≤ i
  g : GrM [fdc, mdc] H0 H
theorem PI.m {K : PySem.W.Frag} {H0 H H' : Hp} {known : List Str} {fdc mdc : Addr} {i : Nat} {S : List Addr} {F : List (List Str)} {M : List Mak} (h : PI K H0 known fdc mdc i F M H) (g : GrM S H H') (hf : fdc ∉ S) (hm : mdc ∉ S) (hs : ∀ b ∈ S, H0 b = none) : PI K H0 known fdc mdc i F M H' := by
  obtain ⟨kF, kM, h1, h2, h3, h4⟩ := h.ex
  refine ⟨⟨kF, kM, g.keep hf h1 (fun _ z => by cases z), h2.m g, g.keep hm h3 (fun _ z => by cases z), h4.m g⟩, h.st, h.ln, ?_⟩
  refine GrM.drop (S' := [fdc, mdc] ++ S) ((h.g.mono (by simp)).trans (g.mono fun b hb => List.mem_append_right _ hb)) fun b hb => ?_
  rcases List.mem_append.mp hb with z | z
  · exact .inl z
  · exact .inr (hs b z)
end Vf
end
section
set_option Elab.async false
set_option linter.all false
set_option maxRecDepth 100000
set_option maxHeartbeats 4000000
namespace Vf
open PySem PySem.Spec PyProof.Rows L2 GxR GenW RZ
theorem form_ne : decide (("form" : Str) = "maker") = false ∧ decide (("" : Str) = "form") = false ∧ decide (("" : Str) = "maker") = false ∧ decide (("maker" : Str) = "form") = false := by decide +kernel
section
variable {P : Program} {w : World} {K : PySem.W.Frag} {mg : Str → Option Value} {base : Heap}
theorem ok_parse {fd : FuncData} (F : FnP K "parse_program" s_parse_program fd) (T : TY K mg) (D_SyntaxProblem : DfI P w K mg base "SyntaxProblem" (CS K) 1 p_SyntaxProblem____init__ (spSI K)) (D_LineReader : Cf P w K mg base (LR K) "LineReader" 2 p_LineReader____init__ (spInit K))
    (D_read_form : Dx P w K mg base "read_form" 6 p_read_form (spForm K)) (D_read_maker : Dx P w K mg base "read_maker" 6 p_read_maker (spMaker K))
    (D_LineReader__ahead : Mf P w K mg base (LR K) "ahead" 1 p_LineReader__ahead (spAhead K)) (D_LineReader__take_only : Mx P w K mg base (LR K) "take_only" 5 p_LineReader__take_only (spOnly K)) : FnOk P w K mg base (L2.CX P w) 7 (He.fAd K ("parse_program", none)) fd p_parse_program (spParse K) := by
  refine okPX F sc_parse_program (fun vs H Q E h => by obtain ⟨text, nl, known, rfl, _⟩ := h; rfl) (fun A outer s H vs Q E hr h => ?_)
  obtain ⟨text, nl, known, rfl, hN, hl, h37, hkn, hk1, hT, kk⟩ := h
  obtain ⟨okA, okT, okN, okO⟩ := okM4
  obtain ⟨fn1, fn2, fn3, fn4⟩ := form_ne
  obtain ⟨aP, m_PLAIN, sP⟩ := T.c_PLAIN
  refine ⟨_, (pss_cons (ps_set (i := 2) sc_parse_program.nd rfl (by first | exact Or.inl rfl | exact Or.inr rfl) pe_dnewK)
      (pss_cons (ps_set (i := 3) sc_parse_program.nd rfl (by first | exact Or.inl rfl | exact Or.inr rfl) pe_dnewK)
      (pss_cons (ps_set (i := 4) sc_parse_program.nd rfl (by first | exact Or.inl rfl | exact Or.inr rfl) (pe_split (pv 0) pe_str))
      (pss_cons (ps_for (passes_of rfl) rfl (k_enum (K := K) rfl rfl T.b_enumerate (pa_cons (pv 4) pa_nil)) (kg_tup 2 (K := K) rfl rfl (pgs_cons (pg_name (i := 5) sc_parse_program.nd rfl (by first | exact Or.inl rfl | exact Or.inr rfl)) (pgs_cons (pg_name (i := 6) sc_parse_program.nd rfl (by first | exact Or.inl rfl | exact Or.inr rfl)) pgs_nil)))
      (pss_cons (ps_if (pt_cmpR (u_eq (K := K) rfl hr.units) (pv 5) (pe_gl T.c_MOST_PROGRAM_LINES rfl) (nomark _))
      (pss_one (ps_raiseI rfl (takes_of rfl rfl rfl rfl) D_SyntaxProblem hr (by decide) rfl (pa_cons (pe_op (u_add (K := K) rfl) (pv 5) pe_int) (pa_cons pe_int pa_nil))))
      pss_nil)
      (pss_cons (ps_set (i := 7) sc_parse_program.nd rfl (by first | exact Or.inl rfl | exact Or.inr rfl) (pe_mk D_LineReader hr (by decide) rfl (pa_cons (pe_op (u_add (K := K) rfl) (pv 5) pe_int) (pa_cons (pv 6) pa_nil))))
      (pss_cons (ps_set (i := 8) sc_parse_program.nd rfl (by first | exact Or.inl rfl | exact Or.inr rfl) (pe_mt0 T.cl D_LineReader__ahead hr (by decide) (pv 7)))
      (C8.pss_cut (ps_if (pt_cmpR (u_eq (K := K) rfl hr.units) (pv 8) pe_str (nomark _))
      (pss_cons (ps_set (i := 9) sc_parse_program.nd rfl (by first | exact Or.inl rfl | exact Or.inr rfl) (pe_fnX (takes_of rfl rfl rfl rfl) D_read_form hr (by decide) rfl (pa_cons (pv 7) (pa_cons (pv 2) pa_nil))))
      (pss_one (ps_dput (hu_of hr) (pv 2) (pe_ix (u_ix (K := K) rfl) (pv 9) pe_int (fun _ _ => rfl)) (pv 9) rfl)))
      (pss_one (ps_if (pt_cmpR (u_eq (K := K) rfl hr.units) (pv 8) pe_str (nomark _))
      (pss_cons (ps_set (i := 10) sc_parse_program.nd rfl (by first | exact Or.inl rfl | exact Or.inr rfl) (pe_fnX (takes_of rfl rfl rfl rfl) D_read_maker hr (by decide) rfl (pa_cons (pv 7) (pa_cons (pv 3) (pa_cons (pe_lst (pa_cons (pe_ix (u_ix (K := K) rfl) (pe_ref rfl m_PLAIN) pe_int (fun _ _ => rfl)) (pa_starD (K := K) rfl rfl (pv 1) (pa_starD (K := K) rfl rfl (pv 2) pa_nil)))) pa_nil)))))
      (pss_one (ps_dput (hu_of hr) (pv 3) (pe_ix (u_ix (K := K) rfl) (pv 10) pe_int (fun _ _ => rfl)) (pv 10) rfl)))
      pss_nil)))
      (pss_one (ps_expr (pe_mtX (takes_of rfl rfl rfl rfl) T.cl D_LineReader__take_only hr (by decide) (pv 7) (pa_cons pe_str pa_nil)))))))))
      (pss_one (ps_ret (pe_tup (pa_cons (pe_tupVals rfl rfl T.b_tuple (pv 2)) (pa_cons (pe_tupVals rfl rfl T.b_tuple (pv 3)) pa_nil))))))))), ?_⟩
  intro fdc hfd
  refine newH hfd fun H1 g1 s1 => ?_
  intro mdc hmd
  refine newH hmd fun H2 g2 s2 => ?_
  have nfm : fdc ≠ mdc := ne_of_none s1 hmd
  have rl : ∀ p ∈ Txt.split text "\n", p.length ≤ 800000 ∧ 37 ∉ cp p := fun p hp => ⟨Nat.le_trans (split_piece (x := text) 10 hp) hl, fun z => h37 (piece_sub (c := 10) hp _ z)⟩
  generalize hrows : Txt.split text "\n" = rows at *
  have s1b := g2.keep s1 (fun _ z => by cases z)
  refine ⟨_, rfl, ⟨_, rfl⟩, text, "\n", rfl, rfl, by decide +kernel, by rw [sizeLine_eq]; omega, fun L hL => ?_⟩
  rw [hrows]
  refine newH hL fun H3 g3 s3 => ?_
  have s1c := g3.keep s1b (fun _ z => by cases z)
  have s2c := g3.keep s2 (fun _ z => by cases z)
  have G3 : Gr H H3 := (g1.trans g2).trans g3
  have nLf : L ≠ fdc := Ne.symm (ne_of_none s1b hL)
  have nLm : L ≠ mdc := Ne.symm (ne_of_none s2 hL)
  have m0 := g1.free hmd
  have k0 : Fin K E Q [fdc, mdc] H3 (toldS known 0 [] [] rows) := kk.gen fun H' g => Gr.m (((G3.m).trans g).gr fun b hb => by
    rcases List.mem_cons.mp hb with z | z
    · rw [z]; exact hfd
    · rw [List.mem_singleton.mp z]; exact m0)
  refine ⟨_, rfl, _, _, rfl, SqL.of s3, ?_⟩
  refine for_enum (K := K) (a := L) (xs := strV rows) (fun i σ H' => ∃ o5 o6 o7 o8 o9 o10 FF M, σ = [some (.str text), some (.ref nl), some (.ref fdc), some (.ref mdc), some (.ref L), o5, o6, o7, o8, o9, o10] ∧ PI K H3 known fdc mdc i FF M H' ∧ i ≤ 50 ∧ Fin K E Q [fdc, mdc] H3 (toldS known i FF M (rows.drop i)))
    ⟨none, none, none, none, none, none, [], [], rfl, ⟨⟨[], [], s1c, KA.nil, s2c, KA.nil⟩, ⟨by simp, by simp, hkn⟩, Nat.le_refl _, GrM.refl _ _⟩, Nat.zero_le _, k0⟩ ?_ ?_ ?_
  · rintro i σ H' _ ⟨o5, o6, o7, o8, o9, o10, FF, M, rfl, pi, _⟩
    exact SqL.of (pi.g.keep (by simp [nLf, nLm]) s3 (fun _ z => by cases z))
  · rintro i y Tt σ H' hy ⟨o5, o6, o7, o8, o9, o10, FF, M, rfl, pi, i50, ki⟩ hTt
    obtain ⟨row, hrow, rfl⟩ := str_at hy
    have hrk := List.getElem?_eq_some_iff.mp hrow
    rw [List.drop_eq_getElem_cons hrk.1, hrk.2, toldS_cons] at ki
    refine newH hTt fun H4 g4 s4 => ?_
    have pi4 := pi.m (g4.m (S := [])) (by simp) (by simp) (by simp)
    refine ⟨_, _, rfl, SqT.of s4, rfl, _, _, rfl, _, _, rfl, rfl, ?_⟩
    refine ⟨_, rfl, e_flat rfl ⟨_, rfl, ?_⟩⟩
    rw [dvi]
    by_cases h5 : i = 50
    · subst h5
      rw [if_pos rfl] at ki
      rw [decide_eq_true (show ((50 : Nat) : Int) = 50 from rfl)]
      refine iteT ⟨_, rfl, a_ii ⟨by show 2 ≤ 1000; decide, fun a ha => ?_⟩⟩
      refine ⟨a, _, _, rfl, upd_same, fun d H' hd hk ea ed => ⟨rfl, d, _, ea, ed, ?_, ki d _ ?_ upd_same⟩⟩
      · by_cases z : d = a
        · rw [z]; exact ha
        · rw [upd_ne z] at hd
          exact hd
      · have dn : H4 d = none := by
          by_cases z : d = a
          · rw [z]; exact ha
          · rw [upd_ne z] at hd
            exact hd
        refine pi4.g.trans (Gr.m fun b o e => .inl ?_)
        have nb := ne_of_none e ha
        rw [upd_ne (ne_of_none e dn), del_ne nb]
        exact hk b o nb (by rw [upd_ne nb]; exact e)
    rw [if_neg h5] at ki
    rw [decide_eq_false (by omega)]
    refine iteF ?_
    refine ⟨_, rfl, a_ii ⟨_, rfl, fun x dx hx hdx hne => ?_⟩⟩
    obtain ⟨lr, r37⟩ := rl row (List.mem_of_getElem? hrow)
    refine ⟨x, dx, _, row, rfl, upd_same, by omega, fun wl H5 g5 hwl hd => ⟨rfl, ?_⟩⟩
    have g45 : Gr H4 H5 := ((((Gr.new hdx).upd' hx).m (S := [x])).trans g5).gr (by simpa using hx)
    have hwl4 : H4 wl = none := ((Gr.new hdx).upd' hx).free hwl
    have pi5 := pi4.m (g45.m (S := [])) (by simp) (by simp) (by simp)
    have new3 : ∀ b, H4 b = none → H3 b = none := fun b hb => by
      have q := g4.free hb
      obtain ⟨kF, kM, h1, _, h3, _⟩ := pi.ex
      refine pi.g.free (fun z => ?_) q
      rcases List.mem_cons.mp z with z | z
      · rw [z, h1] at q; cases q
      · rw [List.mem_singleton.mp z, h3] at q; cases q
    have x3 := new3 x hx
    have nfx : fdc ≠ x := fun z => by rw [← z, s1c] at x3; cases x3
    have nmx : mdc ≠ x := fun z => by rw [← z, s2c] at x3; cases x3
    have hN3 := G3.lst hN
    have nNf : nl ≠ fdc := fun z => by rw [z, hfd] at hN; cases hN
    have nNm : nl ≠ mdc := fun z => by rw [z] at hN; have := g1.lst hN; rw [hmd] at this; cases this
    have hN5 : H5 nl = some (.lst (strV known)) := pi5.g.keep (by simp [nNf, nNm]) hN3 (fun _ z => by cases z)
    have hT5 : Tb3 K H5 := (hT.m (G3.m (S := []))).m pi5.g
    have hW := wc_wl (x := row) (by omega) r37
    obtain ⟨kF, kM, h1, h2, h3, h4⟩ := pi5.ex
    have st := pi5.st
    have ln := pi5.ln
    have lF : kF.length ≤ 50 := by rw [h2.1]; omega
    have lM : kM.length ≤ 50 := by rw [h4.1]; omega
    -- from here on the reader may change too
    have drp : ∀ {Ha Hb : Hp}, GrM [fdc, mdc] H3 Ha → GrM [fdc, mdc, x] Ha Hb → GrM [fdc, mdc] H3 Hb := fun ga gb => GrM.drop (S' := [fdc, mdc, x]) ((ga.mono (by simp)).trans gb) fun b hb => by
      rcases List.mem_cons.mp hb with z | z
      · exact .inl (by simp [z])
      · rcases List.mem_cons.mp z with z | z
        · exact .inl (by simp [z])
        · rw [List.mem_singleton.mp z]; exact .inr x3
    have LAST : ∀ {F' M' W' H6}, PI K H3 known fdc mdc (i + 1) F' M' H6 → Rd K H6 x wl (((i : Nat) : Int) + 1) W' → WL W' → Fin K E Q [fdc, mdc] H3 (nxt known i (rows.drop (i + 1)) (only W' (F', M'))) →
        ∃ c w r, W' = (c, w) :: r ∧ Rd K H6 x wl (((i : Nat) : Int) + 1) ((c, w) :: r) ∧ (w = "" → ∀ H', GrM [x] H6 H' → Rd K H' x wl (((i : Nat) : Int) + 1) r → PI K H3 known fdc mdc (i + 1) F' M' H' ∧ i + 1 ≤ 50 ∧ Fin K E Q [fdc, mdc] H3 (toldS known (i + 1) F' M' (rows.drop (i + 1)))) ∧ (w ≠ "" → Er K E [] (((i : Nat) : Int) + 1) c H6) := fun {F' M' W' H6} p6 hd6 hW' k6 => by
      obtain ⟨c, w, r, rfl, _⟩ := hW'.go
      rw [only_cons] at k6
      refine ⟨c, w, r, rfl, hd6, fun e H' g _ => ?_, fun e => ?_⟩
      · rw [if_pos e] at k6
        exact ⟨p6.m g (by simpa using nfx) (by simpa using nmx) (by simpa using x3), by omega, k6⟩
      · rw [if_neg e] at k6
        exact Er.go (S := [fdc, mdc]) k6 p6.g (by simp)
    obtain ⟨c, w0, rest, eW, hgo⟩ := hW.go
    rw [eW] at hd ki hW
    rw [lineS_cons] at ki
    refine ⟨_, rfl, hd.go okA ⟨x, wl, _, c, w0, rest, rfl, hd, ?_⟩⟩
    refine ⟨fun σ H' => ∃ o8 o9 o10 F' M' W', σ = [some (.str text), some (.ref nl), some (.ref fdc), some (.ref mdc), some (.ref L), some (.int (i : Nat)), some (.str row), some (.ref x), o8, o9, o10] ∧ PI K H3 known fdc mdc (i + 1) F' M' H' ∧ Rd K H' x wl (((i : Nat) : Int) + 1) W' ∧ WL W' ∧ Fin K E Q [fdc, mdc] H3 (nxt known i (rows.drop (i + 1)) (only W' (F', M'))), ?_, ?_⟩
    rotate_left
    · rintro σ H6 ⟨o8, o9, o10, F', M', W', rfl, pi6, hd6, hW', k6⟩
      obtain ⟨c', w', r', rfl, hd6, ky, kn⟩ := LAST pi6 hd6 hW' k6
      exact ⟨_, rfl, hd6.go okO ⟨x, wl, _, c', w', "", r', rfl, hd6, fun e H7 g7 hd7 => by
        obtain ⟨a, b, d⟩ := ky e H7 g7 hd7
        exact ⟨_, _, _, _, _, _, F', M', rfl, a, b, d⟩, kn⟩⟩
    refine ⟨_, rfl, e_flat rfl ⟨_, rfl, ?_⟩⟩
    rw [dvs]
    by_cases hw1 : w0 = "form"
    · subst hw1
      rw [if_pos rfl] at ki
      rw [decide_eq_true rfl]
      refine iteT ⟨_, rfl, _, rfl, x, fdc, wl, _, c, rest, kF, FF.map fnm, rfl, (hgo kw_ne.2.2.2.2).1, hd, h1, h2.iff, hT5.n, ?_⟩
      refine ki.line.gen (fun H' g => drp pi5.g (g.mono (by simp))) fun q eq fk t H6 g6 hd6 ht => ?_
      obtain ⟨fr, wl6, nin⟩ := rdForm_ok eq (hgo kw_ne.2.2.2.2).1
      obtain ⟨f, W6⟩ := q
      have h16 := g6.keep (by simpa using nfx) h1 (fun _ z => by cases z)
      have hno := h2.iff (fnm f) |>.mpr nin
      refine ⟨_, rfl, _, rfl, _, rfl, x_t (SqT.of ht) (atI_nat (j := 0) (v := .str (fnm f)) ?_) ⟨fdc, _, rfl, DPut.k (k := Sum.inr (fnm f)) h16 (by rw [sizeLine_eq]; omega), ?_⟩⟩
      · unfold strV
        rw [List.getElem?_map]
        show Option.map V.str (f[0]?) = _
        rw [fa_at (f := f) (i := 0) (by have : f.length = 9 := fr.len; omega)]; rfl
      rw [putK_new hno]
      have gu : GrM [fdc] H6 (upd H6 fdc (.dK (kF ++ [((Sum.inr (fnm f) : Key), V.ref t)]))) := (GrM.refl _ _).upd (by simp) (Mu.dk h16)
      refine ⟨_, _, _, FF ++ [f], M, W6, rfl, ⟨⟨_, kM, upd_same, ((h2.m g6).snoc ht).m gu, ?_, (h4.m g6).m gu⟩, st.form fr, by rw [List.length_append, List.length_singleton]; omega, drp pi5.g ((g6.mono (by simp)).trans (gu.mono (by simp)))⟩, ?_, wl6, fk⟩
      · rw [upd_ne (Ne.symm nfm)]
        exact g6.keep (by simpa using nmx) h3 (fun _ z => by cases z)
      · refine hd6.m gu (by simpa using Ne.symm nfx) ?_
        intro z
        rw [List.mem_singleton] at z
        rw [z] at hwl4
        have := new3 _ hwl4
        rw [s1c] at this; cases this
    rw [if_neg hw1] at ki
    rw [decide_eq_false hw1]
    refine iteF ⟨_, rfl, e_flat rfl ⟨_, rfl, ?_⟩⟩
    rw [dvs]
    by_cases hw2 : w0 = "maker"
    · subst hw2
      rw [if_pos rfl] at ki
      rw [decide_eq_true rfl]
      have hWr := (hgo kw_ne.2.2.2.1).1
      refine iteT ⟨_, rfl, _, rfl, x_t (sP H5) (atI_nat (j := 0) rfl) ?_⟩
      refine ⟨_, rfl, _, _, rfl, ⟨.inr (.inl (SqL.of hN5))⟩, _, rfl, _, _, rfl, ⟨.inr (.inr ⟨kF, h1, rfl⟩)⟩, ?_⟩
      have lnn : (V.str "plain" :: (strV known ++ (kF.map (fun kv => kV kv.1) ++ []))) = strV (tops known FF) := by
        rw [h2.keys, List.append_nil]
        unfold tops strV
        rw [List.map_cons, List.map_append]
      refine ⟨?_, fun n2 hn2 => ?_⟩
      · show (V.str "plain" :: (strV known ++ (kF.map (fun kv => kV kv.1) ++ []))).length ≤ sizeLine
        rw [List.length_cons, List.length_append, List.length_append, List.length_map, sizeLine_eq]
        show (known.map V.str).length + (kF.length + 0) + 1 ≤ _
        rw [List.length_map]
        omega
      refine newH hn2 fun H6 g6 s6 => ?_
      have s6 : H6 n2 = some (.lst (strV (tops known FF))) := s6.trans (congrArg (fun l => some (HO.lst l)) lnn)
      have hd6 := hd.gr g6
      have h36 := g6.keep h3 (fun _ z => by cases z)
      have hT6 := hT5.m (g6.m (S := []))
      refine ⟨x, mdc, n2, wl, _, c, rest, kM, M.map fun m => m.n, tops known FF, rfl, hWr, hd6, h36, h4.iff, s6, st.ne, hT6.w, hT6.c, ?_⟩
      refine ki.line.gen (fun H' g => drp pi5.g ((g6.m).trans (g.mono (by simp)))) fun q eq fk t H7 g7 hd7 ht => ?_
      obtain ⟨mr, nin, wl7⟩ := rdMaker_ok st hWr eq
      obtain ⟨m, W7⟩ := q
      have h37 := g7.keep (by simpa using nmx) h36 (fun _ z => by cases z)
      have hno := h4.iff m.n |>.mpr nin
      refine ⟨_, rfl, _, rfl, _, rfl, x_t (SqT.of ht) (atI_nat (j := 0) (v := .str m.n) rfl) ⟨mdc, _, rfl, DPut.k (k := Sum.inr m.n) h37 (by rw [sizeLine_eq]; omega), ?_⟩⟩
      rw [putK_new hno]
      have gu : GrM [mdc] H7 (upd H7 mdc (.dK (kM ++ [((Sum.inr m.n : Key), V.ref t)]))) := (GrM.refl _ _).upd (by simp) (Mu.dk h37)
      have G57 : GrM [x] H5 H7 := g6.m.trans g7
      refine ⟨_, _, _, FF, M ++ [m], W7, rfl, ⟨⟨kF, _, ?_, (h2.m G57).m gu, upd_same, ((h4.m G57).snoc (key := fun m : Mak => m.n) ht).m gu⟩, st.mak mr, by rw [List.length_append, List.length_singleton]; omega, drp pi5.g ((G57.mono (by simp)).trans (gu.mono (by simp)))⟩, ?_, wl7, fk⟩
      · rw [upd_ne nfm]
        exact G57.keep (by simpa using nfx) h1 (fun _ z => by cases z)
      · refine hd7.m gu (by simpa using Ne.symm nmx) ?_
        intro z
        rw [List.mem_singleton] at z
        rw [z] at hwl4
        have := new3 _ hwl4
        rw [s2c] at this; cases this
    rw [if_neg hw2] at ki
    rw [decide_eq_false hw2]
    exact iteF ⟨_, _, _, FF, M, _, rfl, ⟨⟨kF, kM, h1, h2, h3, h4⟩, st, by omega, pi5.g⟩, hd, hW, ki⟩
  · rintro σ H' ⟨o5, o6, o7, o8, o9, o10, FF, M, rfl, pi, i50, ki⟩
    obtain ⟨kF, kM, h1, h2, h3, h4⟩ := pi.ex
    have lr : (strV rows).length = rows.length := List.length_map _
    rw [lr, List.drop_length] at ki
    have ki : ∀ v H', GrM [fdc, mdc] H3 H' → Dd K H' v (pD FF M) → Q v H' := ki
    refine ⟨_, rfl, fdc, kF, rfl, h1, fun t1 ht1 => ?_⟩
    refine newH ht1 fun H5 g5 s5 => ?_
    refine ⟨_, rfl, mdc, kM, rfl, g5.keep h3 (fun _ z => by cases z), fun t2 ht2 => ?_⟩
    refine newH ht2 fun H6 g6 s6 => ?_
    refine ⟨by show 2 ≤ sizeLine; rw [sizeLine_eq]; decide, fun t3 ht3 => ?_⟩
    refine newH ht3 fun H7 g7 s7 => ?_
    have g57 := (g5.trans g6).trans g7
    refine ki _ H7 (pi.g.trans g57.m) (.tup (SqT.of s7) (.cons (.tup (SqT.of ((g6.trans g7).tup s5)) ?_) (.cons (.tup (SqT.of (g7.tup s6)) ?_) .nil)))
    · exact (h2.m (g57.m (S := []))).dat fun f _ t ht => fo_dd ht
    · exact (h4.m (g57.m (S := []))).dat fun m _ t ht => mk_dd ht
end
end Vf
end
section
set_option Elab.async false
set_option linter.all false
set_option maxRecDepth 100000
set_option maxHeartbeats 4000000
namespace Vf
open PySem PySem.Spec PyProof.Rows L2 GxR GenW RZ
abbrev s__law_form_words : Stmt := top 53
abbrev n__law_form_words : List Str := ["form", "words", "rows", "part", "signs"]
abbrev p__law_form_words : List Str := ["form"]
theorem sc__law_form_words : FnScope n__law_form_words p__law_form_words (defScope s__law_form_words) := ⟨rfl, rfl, rfl, by decide +kernel, rfl, by decide +kernel, by decide +kernel⟩

abbrev s__law_maker_words : Stmt := top 54
abbrev n__law_maker_words : List Str := ["maker"]
abbrev p__law_maker_words : List Str := ["maker"]
theorem sc__law_maker_words : FnScope n__law_maker_words p__law_maker_words (defScope s__law_maker_words) := ⟨rfl, rfl, rfl, by decide +kernel, rfl, by decide +kernel, by decide +kernel⟩

/-- words as they may stand in a line -/
def Clean (w : Str) : Prop := 32 ∉ cp w ∧ 10 ∉ cp w ∧ cp w ≠ [] ∧ 37 ∉ cp w
def cleanB (w : Str) : Bool := !decide (32 ∈ cp w) && (!decide (10 ∈ cp w) && (!(cp w).isEmpty && !decide (37 ∈ cp w)))
theorem cleanB_ok {w : Str} (h : cleanB w = true) : Clean w := by
  unfold cleanB at h
  rw [Bool.and_eq_true, Bool.and_eq_true, Bool.and_eq_true] at h
  exact ⟨by simpa using h.1, by simpa using h.2.1, by simpa using h.2.2.1, by simpa using h.2.2.2⟩
theorem nm_clean {x : Str} (h : isNm x = true) : Clean x := by
  unfold isNm at h
  rw [Bool.and_eq_true, Bool.and_eq_true] at h
  obtain ⟨h1, h2, h3⟩ := h
  have h1 := of_decide_eq_true h1
  rw [List.all_eq_true] at h3
  have sub : 32 ∉ wordsC ∧ 10 ∉ wordsC ∧ 37 ∉ wordsC := by decide +kernel
  refine ⟨fun z => sub.1 (of_decide_eq_true (h3 _ z)), fun z => sub.2.1 (of_decide_eq_true (h3 _ z)), fun z => ?_, fun z => sub.2.2 (of_decide_eq_true (h3 _ z))⟩
  have := cp_len x
  rw [z] at this
  simp at this
  omega
theorem ws_clean {x : Str} (h : isWs x = true) : Clean x := by
  unfold isWs at h
  rw [Bool.and_eq_true] at h
  obtain ⟨h1, h3⟩ := h
  have h1 := of_decide_eq_true h1
  rw [List.all_eq_true] at h3
  have sub : 32 ∉ wordsC ∧ 10 ∉ wordsC ∧ 37 ∉ wordsC := by decide +kernel
  refine ⟨fun z => sub.1 (of_decide_eq_true (h3 _ z)), fun z => sub.2.1 (of_decide_eq_true (h3 _ z)), fun z => ?_, fun z => sub.2.2 (of_decide_eq_true (h3 _ z))⟩
  have := cp_len x
  rw [z] at this
  simp at this
  omega
theorem sg_clean {x : Str} (h : isSg x = true) (h7 : 37 ∉ cp x) : Clean x := by
  obtain ⟨c, rfl, hc⟩ := isSg_one h
  unfold sgnC at hc
  rw [Bool.and_eq_true, Bool.and_eq_true] at hc
  have h1 := of_decide_eq_true hc.1
  refine ⟨fun z => ?_, fun z => ?_, (fun z => by cases z), h7⟩
  · rw [List.mem_singleton.mp (show 32 ∈ [c] from z)] at h1
    omega
  · rw [← List.mem_singleton.mp (show 10 ∈ [c] from z)] at h1
    omega
theorem word_clean : ∀ p ∈ parts, Clean p.1 ∧ p.1.length ≤ 6 := by
  have h : (parts.all fun p => cleanB p.1 && decide (p.1.length ≤ 6)) = true := by decide +kernel
  intro p hp
  have q := List.all_eq_true.mp h p hp
  rw [Bool.and_eq_true] at q
  exact ⟨cleanB_ok q.1, of_decide_eq_true q.2⟩
theorem part_mem {f : List Str} (fo : FOk f) {k : Nat} {w : Str} {ps : List Nat} (hp : parts[k]? = some (w, ps)) (hne : fa f (ps.headD 0) ≠ "") : ∀ x ∈ ps.map (fa f), isSg x = true := by
  intro x hx
  obtain ⟨j, hj, rfl⟩ := List.mem_map.mp hx
  have one : ∀ i, ps = [i] → 1 ≤ i → i < 9 → isSg (fa f j) = true := fun i e h1 h2 => by
    subst e
    rw [List.mem_singleton.mp hj]
    exact fo.sg i h1 h2 hne
  match k, parts_lt hp, hp with
  | 0, _, hp => cases hp; exact one _ rfl (by decide) (by decide)
  | 1, _, hp => cases hp; exact one _ rfl (by decide) (by decide)
  | 2, _, hp => cases hp; exact one _ rfl (by decide) (by decide)
  | 3, _, hp => cases hp; exact one _ rfl (by decide) (by decide)
  | 4, _, hp =>
    cases hp
    have h5 : fa f 5 ≠ "" := hne
    have h6 : fa f 6 ≠ "" := fun z => h5 (fo.l6.mpr z)
    have h7 : fa f 7 ≠ "" := fun z => h5 (fo.l7.mpr z)
    rcases List.mem_cons.mp hj with z | z
    · rw [z]; exact fo.sg 5 (by decide) (by decide) h5
    · rcases List.mem_cons.mp z with z | z
      · rw [z]; exact fo.sg 6 (by decide) (by decide) h6
      · rw [List.mem_singleton.mp z]; exact fo.sg 7 (by decide) (by decide) h7
  | 5, _, hp => cases hp; exact one _ rfl (by decide) (by decide)
theorem fwords_mem {f : List Str} (fo : FOk f) : ∀ x ∈ fwords f, Clean x ∧ x.length ≤ 8 := by
  intro x hx
  rcases List.mem_cons.mp hx with z | z
  · rw [z]
    exact ⟨cleanB_ok (by decide +kernel), by decide +kernel⟩
  rcases List.mem_cons.mp z with z | z
  · rw [z]
    exact ⟨nm_clean fo.nm, nm_len fo.nm⟩
  obtain ⟨p, hp, hx⟩ := List.mem_flatMap.mp z
  unfold partW at hx
  split at hx
  · cases hx
  · rename_i hne
    rcases List.mem_cons.mp hx with z | z
    · rw [z]
      have := word_clean p hp
      exact ⟨this.1, by omega⟩
    · obtain ⟨k, hk⟩ := List.getElem?_of_mem hp
      have := part_mem fo (k := k) (w := p.1) (ps := p.2) hk hne x z
      obtain ⟨j, _, rfl⟩ := List.mem_map.mp z
      refine ⟨sg_clean this ?_, by rw [sgn_len this]; decide⟩
      by_cases hj : j < f.length
      · exact fo.pc _ (List.mem_of_getElem? (fa_at hj))
      · have e : fa f j = "" := by
          unfold fa
          rw [List.getD_eq_getElem?_getD, List.getElem?_eq_none (by omega)]; rfl
        rw [e]
        decide
theorem partW_len (f : List Str) : ∀ p ∈ parts, (partW f p).length ≤ p.2.length + 1 := by
  intro p _
  unfold partW
  split
  · exact Nat.zero_le _
  · rw [List.length_cons, List.length_map]; omega
theorem fwords_len (f : List Str) : (fwords f).length ≤ 16 := by
  have key : ∀ ps : List (Str × List Nat), (∀ p ∈ ps, p ∈ parts) → (ps.flatMap (partW f)).length ≤ (ps.map fun p => p.2.length + 1).sum := fun ps => by
    induction ps with
    | nil => intro _; exact Nat.le_refl _
    | cons p r ih =>
      intro h
      rw [List.flatMap_cons, List.length_append, List.map_cons, List.sum_cons]
      exact Nat.add_le_add (partW_len f p (h p List.mem_cons_self)) (ih fun q hq => h q (List.mem_cons_of_mem _ hq))
  have q := key parts fun p hp => hp
  show (parts.flatMap (partW f)).length + 1 + 1 ≤ 16
  have e : (parts.map fun p => p.2.length + 1).sum = 14 := by decide
  omega
structure MOk (m : Mak) : Prop where
  n : isWs m.n = true
  c : m.c ∈ costs
  s : Clean m.s ∧ m.s.length ≤ 12
  t : Clean m.t ∧ m.t.length ≤ 12
  lay : PyData.canLay0 (.str m.n) = true ∧ PyData.canLay0 (.str m.s) = true ∧ PyData.canLay0 (.str m.t) = true
theorem ws_len {x : Str} (h : isWs x = true) : x.length ≤ 12 := by
  unfold isWs at h
  rw [Bool.and_eq_true] at h
  exact (of_decide_eq_true h.1).2
theorem cost_clean : ∀ c ∈ costs, Clean (iS c) := by
  have h : (costs.all fun c => cleanB (iS c)) = true := by decide +kernel
  exact fun c hc => cleanB_ok (List.all_eq_true.mp h c hc)
theorem mwords_mem {m : Mak} (mo : MOk m) : ∀ x ∈ mwords m, Clean x ∧ x.length ≤ 12 := by
  have kw : ([("maker" : Str), "from", "to", "cost"].all fun w => cleanB w && decide (w.length ≤ 12)) = true := by decide +kernel
  have k1 : ∀ w ∈ [("maker" : Str), "from", "to", "cost"], Clean w ∧ w.length ≤ 12 := fun w hw => by
    have q := List.all_eq_true.mp kw w hw
    rw [Bool.and_eq_true] at q
    exact ⟨cleanB_ok q.1, of_decide_eq_true q.2⟩
  intro x hx
  unfold mwords at hx
  simp only [List.mem_cons, List.not_mem_nil, or_false] at hx
  rcases hx with z | z | z | z | z | z | z | z
  · exact z ▸ k1 _ (by simp)
  · exact z ▸ ⟨ws_clean mo.n, ws_len mo.n⟩
  · exact z ▸ k1 _ (by simp)
  · exact z ▸ mo.s
  · exact z ▸ k1 _ (by simp)
  · exact z ▸ mo.t
  · exact z ▸ k1 _ (by simp)
  · have := (cost_facts m.c mo.c).2.1
    exact z ▸ ⟨cost_clean m.c mo.c, by omega⟩
/-- a list of tuples -/
def TA {α : Type} (val : α → List V) (H : Hp) (xs : List V) (F : List α) : Prop := xs.length = F.length ∧ ∀ (j : Nat) (a : α), F[j]? = some a → ∃ t : Addr, xs[j]? = some (V.ref t) ∧ H t = some (.tup (val a))
section
variable {α : Type} {val : α → List V} {H H' : Hp} {xs : List V} {F : List α}
theorem TA.nil : TA val H [] [] := ⟨rfl, fun j a e => by simp at e⟩
theorem TA.m {S : List Addr} (h : TA val H xs F) (g : GrM S H H') : TA val H' xs F := ⟨h.1, fun j a e => by
  obtain ⟨t, h1, h2⟩ := h.2 j a e
  exact ⟨t, h1, g.tup h2⟩⟩
theorem TA.snoc {t : Addr} {a : α} (h : TA val H xs F) (ht : H t = some (.tup (val a))) : TA val H (xs ++ [V.ref t]) (F ++ [a]) := by
  refine ⟨by rw [List.length_append, List.length_append, h.1]; rfl, fun j y e => ?_⟩
  by_cases hj : j < F.length
  · rw [List.getElem?_append_left hj] at e
    obtain ⟨t', h1, h2⟩ := h.2 j y e
    exact ⟨t', by rw [List.getElem?_append_left (by rw [h.1]; exact hj)]; exact h1, h2⟩
  · rw [List.getElem?_append_right (by omega)] at e
    have e0 : j - F.length = 0 := by
      have := (List.getElem?_eq_some_iff.mp e).1
      simp at this
      omega
    rw [e0] at e
    cases e
    refine ⟨t, ?_, ht⟩
    rw [List.getElem?_append_right (by rw [h.1]; omega), h.1, e0]; rfl
theorem TA.at {i : Nat} {x : V} (h : TA val H xs F) (hx : xs[i]? = some x) : ∃ a t, F[i]? = some a ∧ x = .ref t ∧ H t = some (.tup (val a)) := by
  have hi : i < F.length := by rw [← h.1]; exact (List.getElem?_eq_some_iff.mp hx).1
  obtain ⟨t, h1, h2⟩ := h.2 i F[i] (List.getElem?_eq_getElem hi)
  rw [hx] at h1
  exact ⟨F[i], t, List.getElem?_eq_getElem hi, Option.some.inj h1, h2⟩
theorem TA.dat {K : PySem.W.Frag} {dat : α → PyData} (h : TA val H xs F) (hd : ∀ a ∈ F, ∀ t : Addr, H t = some (.tup (val a)) → Dd K H (.ref t) (dat a)) : DdAll K H xs (F.map dat) := by
  induction F generalizing xs with
  | nil =>
    have : xs = [] := List.eq_nil_of_length_eq_zero h.1
    rw [this]
    exact .nil
  | cons a r ih =>
    cases xs with
    | nil => cases h.1
    | cons kv ks =>
      obtain ⟨t, h1, h2⟩ := h.2 0 a rfl
      cases h1
      refine .cons (hd a List.mem_cons_self t h2) (ih ⟨Nat.succ.inj h.1, fun j b e => ?_⟩ fun b hb => hd b (List.mem_cons_of_mem _ hb))
      exact h.2 (j + 1) b e
end
def fline (f : List Str) : Str := Txt.join " " (fwords f)
def mline (m : Mak) : Str := Txt.join " " (mwords m)
def ptext (F : List (List Str)) (M : List Mak) : Str := Txt.join "\n" (F.map fline ++ M.map mline)
def spFW : Sp := fun vs H Q _ => ∃ (t : Addr) (f : List Str), vs = [.ref t] ∧ H t = some (.tup (strV f)) ∧ f.length = 9 ∧ ∀ l H', Gr H H' → H l = none → H' l = some (.lst (strV (fwords f))) → Q (.ref l) H'
def spMW : Sp := fun vs H Q _ => ∃ (t : Addr) (m : Mak), vs = [.ref t] ∧ H t = some (.tup (makV m)) ∧ m.c ≤ 1000 ∧ ∀ l H', Gr H H' → H l = none → H' l = some (.lst (strV (mwords m))) → Q (.ref l) H'
theorem sum_le {l : List Str} {b : Nat} (h : ∀ x ∈ l, x.length ≤ b) : (l.map (·.length)).sum ≤ l.length * b := StrLaws.sumLen_le l h
theorem join_len {sep : Str} {l : List Str} {b : Nat} (h : ∀ x ∈ l, x.length ≤ b) : (Txt.join sep l).length ≤ l.length * (b + sep.length) := by
  show (Builtin.Str.glued sep l).length ≤ _
  rw [StrLaws.glued_eq_join]
  refine Nat.le_trans (StrLaws.join_length_le sep l) ?_
  rw [Nat.mul_add]
  exact Nat.add_le_add_right (sum_le h) _
theorem fline_len {f : List Str} (fo : FOk f) : (fline f).length ≤ 144 := by
  refine Nat.le_trans (join_len fun x hx => (fwords_mem fo x hx).2) ?_
  exact Nat.le_trans (Nat.mul_le_mul_right _ (fwords_len f)) (by decide)
theorem mline_len {m : Mak} (mo : MOk m) : (mline m).length ≤ 104 := by
  refine Nat.le_trans (join_len fun x hx => (mwords_mem mo x hx).2) ?_
  exact Nat.le_refl _
section
variable {P : Program} {w : World} {K : PySem.W.Frag} {mg : Str → Option Value} {base : Heap}
theorem ok_maker_words {fd : FuncData} (F : FnP K "_law_maker_words" s__law_maker_words fd) (T : TY K mg) : FnOk P w K mg base CX0 1 (He.fAd K ("_law_maker_words", none)) fd p__law_maker_words spMW := by
  refine okP F sc__law_maker_words (fun vs H Q E h => by obtain ⟨t, m, rfl, _⟩ := h; rfl) (fun A outer s H vs Q E hr h => ?_)
  obtain ⟨t, m, rfl, ht, hc, k⟩ := h
  refine ⟨_, (pss_one (ps_ret (pe_lst (pa_cons pe_str (pa_cons (pe_ix (u_ix (K := K) rfl) (pv 0) pe_int (fun _ _ => rfl)) (pa_cons pe_str (pa_cons (pe_ix (u_ix (K := K) rfl) (pv 0) pe_int (fun _ _ => rfl)) (pa_cons pe_str (pa_cons (pe_ix (u_ix (K := K) rfl) (pv 0) pe_int (fun _ _ => rfl)) (pa_cons pe_str (pa_cons (pe_callTy call_str_int rfl T.b_str (by decide +kernel) (pa_cons (pe_ix (u_ix (K := K) rfl) (pv 0) pe_int (fun _ _ => rfl)) pa_nil)) pa_nil))))))))))), ?_⟩
  have lg : ((m.c : Nat) : Int).natAbs.log2 < 1920 := by
    rw [Int.natAbs_natCast]
    refine Nat.lt_of_le_of_lt ?_ (show 10 < 1920 by decide)
    by_cases i0 : m.c = 0
    · rw [i0]; decide
    · exact Nat.le_of_lt_succ ((Nat.log2_lt i0).mpr (by omega))
  refine ⟨_, rfl, x_t (SqT.of ht) (atI_nat (j := 0) rfl) ⟨_, rfl, x_t (SqT.of ht) (atI_nat (j := 1) rfl) ⟨_, rfl, x_t (SqT.of ht) (atI_nat (j := 2) rfl) ⟨_, rfl, x_t (SqT.of ht) (atI_nat (j := 3) rfl) ⟨_, rfl, lg, by show 8 ≤ sizeLine; rw [sizeLine_eq]; decide, fun l hl => ?_⟩⟩⟩⟩⟩
  refine newH hl fun H1 g1 s1 => ?_
  exact k l H1 g1 hl s1
end
end Vf
end
section
set_option Elab.async false
set_option linter.all false
set_option maxRecDepth 100000
set_option maxHeartbeats 4000000
namespace Vf
open PySem PySem.Spec PyProof.Rows L2 GxR GenW RZ
theorem sl_f {K : PySem.W.Frag} {H : Hp} {Q : VK} {a : Addr} {f ys : List Str} {lo hi : Option Int} (h : H a = some (.tup (strV f))) (e : cutV (strV f) lo hi = strV ys) (ne : HT.sIx (strV f).length 0 lo ≠ 0)
    (q : ∀ p H', Gr H H' → H' p = some (.tup (strV ys)) → Q (.ref p) H') : rSlU K (.ref a) lo hi H Q := by
  refine sl_t (SqT.of h) (fun z => absurd z.1 ne) (fun _ p hp => ?_)
  refine newH hp fun H1 g1 s1 => ?_
  rw [e] at s1
  exact q p H1 g1 s1
theorem nine {f : List Str} (h : f.length = 9) : ∃ a0 a1 a2 a3 a4 a5 a6 a7 a8, f = [a0, a1, a2, a3, a4, a5, a6, a7, a8] := by
  match f, h with
  | [a0, a1, a2, a3, a4, a5, a6, a7, a8], _ => exact ⟨_, _, _, _, _, _, _, _, _, rfl⟩
section
variable {P : Program} {w : World} {K : PySem.W.Frag} {mg : Str → Option Value} {base : Heap}
theorem ok_lform_words {fd : FuncData} (F : FnP K "_law_form_words" s__law_form_words fd) (T : TY K mg) : FnOk P w K mg base CX0 1 (He.fAd K ("_law_form_words", none)) fd p__law_form_words spFW := by
  refine okP F sc__law_form_words (fun vs H Q E h => by obtain ⟨t, f, rfl, _⟩ := h; rfl) (fun A outer s H vs Q E hr h => ?_)
  obtain ⟨t, f, rfl, ht, hl9, k⟩ := h
  refine ⟨_, (pss_cons (ps_set (i := 1) sc__law_form_words.nd rfl (by first | exact Or.inl rfl | exact Or.inr rfl) (pe_lst (pa_cons pe_str (pa_cons (pe_ix (u_ix (K := K) rfl) (pv 0) pe_int (fun _ _ => rfl)) pa_nil))))
      (pss_cons (ps_set (i := 2) sc__law_form_words.nd rfl (by first | exact Or.inl rfl | exact Or.inr rfl) (pe_lst (pa_cons (pe_tup (pa_cons pe_str (pa_cons (pe_slice (u_sl (K := K) rfl) (pv 0) (po_some pe_int) (po_some pe_int)) pa_nil))) (pa_cons (pe_tup (pa_cons pe_str (pa_cons (pe_slice (u_sl (K := K) rfl) (pv 0) (po_some pe_int) (po_some pe_int)) pa_nil))) (pa_cons (pe_tup (pa_cons pe_str (pa_cons (pe_slice (u_sl (K := K) rfl) (pv 0) (po_some pe_int) (po_some pe_int)) pa_nil))) (pa_cons (pe_tup (pa_cons pe_str (pa_cons (pe_slice (u_sl (K := K) rfl) (pv 0) (po_some pe_int) (po_some pe_int)) pa_nil))) pa_nil))))))
      (pss_cons (ps_for PassesOwn.never rfl (k_list (K := K) rfl (pe_op (u_add (K := K) rfl) (pv 2) (pe_lst (pa_cons (pe_tup (pa_cons pe_str (pa_cons (pe_slice (u_sl (K := K) rfl) (pv 0) (po_some pe_int) (po_some pe_int)) pa_nil))) (pa_cons (pe_tup (pa_cons pe_str (pa_cons (pe_slice (u_sl (K := K) rfl) (pv 0) (po_some pe_int) (po_some pe_int)) pa_nil))) pa_nil))))) (kg_tup 2 (K := K) rfl rfl (pgs_cons (pg_name (i := 3) sc__law_form_words.nd rfl (by first | exact Or.inl rfl | exact Or.inr rfl)) (pgs_cons (pg_name (i := 4) sc__law_form_words.nd rfl (by first | exact Or.inl rfl | exact Or.inr rfl)) pgs_nil)))
      (pss_one (ps_if (pt_cmpR (u_ne (K := K) rfl hr.units) (pe_ix (u_ix (K := K) rfl) (pv 4) pe_int (fun _ _ => rfl)) pe_str (nomark _))
      (pss_one (ps_set (i := 1) sc__law_form_words.nd rfl (by first | exact Or.inl rfl | exact Or.inr rfl) (pe_op (u_add (K := K) rfl) (pe_op (u_add (K := K) rfl) (pv 1) (pe_lst (pa_cons (pv 3) pa_nil))) (pe_callTy (call_listU (K := K) rfl rfl) rfl T.b_list (by decide +kernel) (pa_cons (pv 4) pa_nil)))))
      pss_nil)))
      (pss_one (ps_ret (pv 1)))))), ?_⟩
  have sl : ∀ {n : Nat}, n ≤ 16 → n ≤ sizeLine := fun h => by rw [sizeLine_eq]; omega
  have fat0 : (strV f)[0]? = some (V.str (fa f 0)) := by
    unfold strV
    rw [List.getElem?_map, fa_at (by omega)]; rfl
  have cutE : ∀ (a b : Nat) (ys : List Str), (f.drop a).take (b - a) = ys → a ≤ 9 → b ≤ 9 → cutV (strV f) (some (a : Int)) (some (b : Int)) = strV ys := fun a b ys e ha hb => by
    have hl : (strV f).length = 9 := by unfold strV; rw [List.length_map]; exact hl9
    unfold cutV
    have e1 : HT.sIx (strV f).length 0 (some ((a : Nat) : Int)) = min a (strV f).length := HT.sIx_nat _ _ a
    have e2 : HT.sIx (strV f).length (strV f).length (some ((b : Nat) : Int)) = min b (strV f).length := HT.sIx_nat _ _ b
    rw [e1, e2, hl, Nat.min_eq_left ha, Nat.min_eq_left hb, ← e]
    unfold strV
    rw [List.map_take, List.map_drop]
  have neE : ∀ (a : Nat), 1 ≤ a → a ≤ 9 → HT.sIx (strV f).length 0 (some (a : Int)) ≠ 0 := fun a h1 h2 => by
    have hl : (strV f).length = 9 := by unfold strV; rw [List.length_map]; exact hl9
    have e1 : HT.sIx (strV f).length 0 (some ((a : Nat) : Int)) = min a (strV f).length := HT.sIx_nat _ _ a
    rw [e1, hl]
    omega
  have pick : ∀ (i : Nat) (w : Str) (ps : List Nat), parts[i]? = some (w, ps) → (f.drop (cnt i)).take (cnt (i + 1) - cnt i) = ps.map (fa f) := by
    intro i w ps hp
    obtain ⟨a0, a1, a2, a3, a4, a5, a6, a7, a8, rfl⟩ := nine hl9
    match i, parts_lt hp, hp with
    | 0, _, hp => cases hp; rfl
    | 1, _, hp => cases hp; rfl
    | 2, _, hp => cases hp; rfl
    | 3, _, hp => cases hp; rfl
    | 4, _, hp => cases hp; rfl
    | 5, _, hp => cases hp; rfl
  refine ⟨_, rfl, x_t (SqT.of ht) (atI_nat fat0) ⟨by show 2 ≤ sizeLine; rw [sizeLine_eq]; decide, fun wl hwl => ?_⟩⟩
  refine newH hwl fun H1 g1 s1 => ?_
  -- the rows
  refine ⟨_, rfl, _, rfl, _, rfl, sl_f (g1.tup ht) (cutE 1 2 _ (pick 0 _ _ rfl) (by decide) (by decide)) (neE 1 (by decide) (by decide)) fun S0 Ha ga sa => ⟨sl (Nat.le_of_ble_eq_true rfl), fun T0 hT0 => ?_⟩⟩
  refine newH hT0 fun Ha2 ga2 sa2 => ?_
  have G0 := (g1.trans ga).trans ga2
  refine ⟨_, rfl, _, rfl, _, rfl, sl_f (G0.tup ht) (cutE 2 3 _ (pick 1 _ _ rfl) (by decide) (by decide)) (neE 2 (by decide) (by decide)) fun S1 Hb gb sb => ⟨sl (Nat.le_of_ble_eq_true rfl), fun T1 hT1 => ?_⟩⟩
  refine newH hT1 fun Hb2 gb2 sb2 => ?_
  have G1 := (G0.trans gb).trans gb2
  refine ⟨_, rfl, _, rfl, _, rfl, sl_f (G1.tup ht) (cutE 3 4 _ (pick 2 _ _ rfl) (by decide) (by decide)) (neE 3 (by decide) (by decide)) fun S2 Hc gc sc => ⟨sl (Nat.le_of_ble_eq_true rfl), fun T2 hT2 => ?_⟩⟩
  refine newH hT2 fun Hc2 gc2 sc2 => ?_
  have G2 := (G1.trans gc).trans gc2
  refine ⟨_, rfl, _, rfl, _, rfl, sl_f (G2.tup ht) (cutE 4 5 _ (pick 3 _ _ rfl) (by decide) (by decide)) (neE 4 (by decide) (by decide)) fun S3 Hd gd sd => ⟨sl (Nat.le_of_ble_eq_true rfl), fun T3 hT3 => ?_⟩⟩
  refine newH hT3 fun Hd2 gd2 sd2 => ?_
  have G3 := (G2.trans gd).trans gd2
  refine ⟨sl (Nat.le_of_ble_eq_true rfl), fun R hR => ?_⟩
  refine newH hR fun He ge se => ?_
  have G4 := G3.trans ge
  refine ⟨_, rfl, _, rfl, _, rfl, _, rfl, sl_f (G4.tup ht) (cutE 5 8 _ (pick 4 _ _ rfl) (by decide) (by decide)) (neE 5 (by decide) (by decide)) fun S4 Hf gf sf => ⟨sl (Nat.le_of_ble_eq_true rfl), fun T4 hT4 => ?_⟩⟩
  refine newH hT4 fun Hf2 gf2 sf2 => ?_
  have G5 := (G4.trans gf).trans gf2
  refine ⟨_, rfl, _, rfl, _, rfl, sl_f (G5.tup ht) (cutE 8 9 _ (pick 5 _ _ rfl) (by decide) (by decide)) (neE 8 (by decide) (by decide)) fun S5 Hg gg sg => ⟨sl (Nat.le_of_ble_eq_true rfl), fun T5 hT5 => ?_⟩⟩
  refine newH hT5 fun Hg2 gg2 sg2 => ?_
  have G6 := (G5.trans gg).trans gg2
  refine ⟨sl (Nat.le_of_ble_eq_true rfl), fun R2 hR2 => ?_⟩
  refine newH hR2 fun Hh gh sh => ?_
  have ef := (((gf.trans gf2).trans gg).trans gg2).trans gh
  refine a_ll (ef.lst se) sh (sl (Nat.le_of_ble_eq_true rfl)) fun L hL => ?_
  refine newH hL fun Hi gi si => ?_
  have si : Hi L = some (.lst [.ref T0, .ref T1, .ref T2, .ref T3, .ref T4, .ref T5]) := si
  have c5 := gg2.trans (gh.trans gi)
  have c4 := gf2.trans (gg.trans c5)
  have c3 := gd2.trans (ge.trans (gf.trans c4))
  have c2 := gc2.trans (gd.trans c3)
  have c1 := gb2.trans (gc.trans c2)
  have c0 := ga2.trans (gb.trans c1)
  have row : ∀ (i : Nat) (w : Str) (ps : List Nat), parts[i]? = some (w, ps) → ∃ Ti Si, ([V.ref T0, .ref T1, .ref T2, .ref T3, .ref T4, .ref T5] : List V)[i]? = some (.ref Ti) ∧ Hi Ti = some (.tup [.str w, .ref Si]) ∧ Hi Si = some (.tup (strV (ps.map (fa f)))) := by
    intro i w ps hp
    match i, parts_lt hp, hp with
    | 0, _, hp => cases hp; exact ⟨T0, S0, rfl, (gb.trans c1).tup sa2, c0.tup sa⟩
    | 1, _, hp => cases hp; exact ⟨T1, S1, rfl, (gc.trans c2).tup sb2, c1.tup sb⟩
    | 2, _, hp => cases hp; exact ⟨T2, S2, rfl, (gd.trans c3).tup sc2, c2.tup sc⟩
    | 3, _, hp => cases hp; exact ⟨T3, S3, rfl, (ge.trans (gf.trans c4)).tup sd2, c3.tup sd⟩
    | 4, _, hp => cases hp; exact ⟨T4, S4, rfl, (gg.trans c5).tup sf2, c4.tup sf⟩
    | 5, _, hp => cases hp; exact ⟨T5, S5, rfl, (gh.trans gi).tup sg2, c5.tup sg⟩
  have GI := (G6.trans gh).trans gi
  have s1i : Hi wl = some (.lst (strV (("form" : Str) :: fa f 0 :: (parts.take 0).flatMap (partW f)))) := (ga.trans c0).lst s1
  refine ⟨L, rfl, ⟨_, SqL.of si⟩, ?_⟩
  refine for_list (K := K) (a := L) (xs := [V.ref T0, .ref T1, .ref T2, .ref T3, .ref T4, .ref T5]) (fun i σ H' => ∃ W o3 o4, σ = [some (.ref t), some (.ref W), some (.ref R), o3, o4] ∧ Gr Hi H' ∧ H' W = some (.lst (strV (("form" : Str) :: fa f 0 :: (parts.take i).flatMap (partW f)))) ∧ H W = none)
    ⟨wl, none, none, rfl, Gr.refl _, s1i, hwl⟩ ?_ ?_ ?_
  · rintro i σ H' _ ⟨W, o3, o4, rfl, g, _⟩
    exact SqL.of (g.lst si)
  · rintro i x σ H' hx ⟨W, o3, o4, rfl, g, hW, _⟩
    have i6 : i < 6 := (List.getElem?_eq_some_iff.mp hx).1
    obtain ⟨w, ps, hp, f1, f2, f3, f4, f5, f6⟩ := parts_facts i i6
    obtain ⟨Ti, Si, r1, r2, r3⟩ := row i w ps hp
    rw [r1] at hx
    cases hx
    have tk : (parts.take (i + 1)).flatMap (partW f) = (parts.take i).flatMap (partW f) ++ partW f (w, ps) := by
      rw [List.take_succ, hp, List.flatMap_append]
      show _ ++ (partW f (w, ps) ++ []) = _
      rw [List.append_nil]
    have hd0 : ∃ r, ps = ps.headD 0 :: r := by
      cases ps with
      | nil => simp at f4
      | cons a r => exact ⟨r, rfl⟩
    obtain ⟨r0, hd0⟩ := hd0
    have p0 : (strV (ps.map (fa f)))[0]? = some (V.str (fa f (ps.headD 0))) := by
      conv => lhs; rw [hd0]
      rfl
    have wl0 : (("form" : Str) :: fa f 0 :: (parts.take i).flatMap (partW f)).length ≤ 16 := by
      refine Nat.le_trans ?_ (fwords_len f)
      show (("form" : Str) :: fa f 0 :: (parts.take i).flatMap (partW f)).length ≤ (("form" : Str) :: fa f 0 :: parts.flatMap (partW f)).length
      rw [List.length_cons, List.length_cons, List.length_cons, List.length_cons]
      have e2 : parts.flatMap (partW f) = (parts.take i).flatMap (partW f) ++ (parts.drop i).flatMap (partW f) := by
        rw [← List.flatMap_append, List.take_append_drop]
      rw [e2, List.length_append]
      omega
    refine ⟨Ti, _, rfl, SqT.of (g.tup r2), rfl, _, _, rfl, _, _, rfl, rfl, ?_⟩
    refine ⟨_, rfl, x_t (SqT.of (g.tup r3)) (atI_nat p0) (n_flat rfl ⟨_, rfl, ?_⟩)⟩
    rw [dvs]
    by_cases hne : fa f (ps.headD 0) = ""
    · have e0 : partW f (w, ps) = [] := by
        unfold partW
        rw [if_pos hne]
      rw [decide_eq_true hne]
      refine iteF ⟨W, _, _, rfl, g, ?_, by assumption⟩
      rw [tk, e0, List.append_nil]
      exact hW
    · have e0 : partW f (w, ps) = w :: ps.map (fa f) := by
        unfold partW
        rw [if_neg hne]
      rw [decide_eq_false hne]
      refine iteT ⟨_, rfl, _, rfl, sl (Nat.le_of_ble_eq_true rfl), fun l1 hl1 => ?_⟩
      refine newH hl1 fun Hj gj sj => ?_
      have lW : (strV (("form" : Str) :: fa f 0 :: (parts.take i).flatMap (partW f))).length ≤ 16 := by
        unfold strV
        rw [List.length_map]; exact wl0
      have lP : (strV (ps.map (fa f))).length ≤ 9 := by
        unfold strV
        rw [List.length_map, List.length_map]; omega
      refine a_ll (gj.lst hW) sj (by rw [sizeLine_eq]; show _ + 1 ≤ _; omega) fun l2 hl2 => ?_
      refine newH hl2 fun Hk gk sk => ?_
      refine ⟨_, rfl, lsU_q (.inr (SqT.of (((g.trans gj).trans gk).tup r3))) fun l3 hl3 => ?_⟩
      refine newH hl3 fun Hl gl sl3 => ?_
      refine a_ll (gl.lst sk) sl3 (by rw [sizeLine_eq, List.length_append]; show _ + 1 + _ ≤ _; omega) fun l4 hl4 => ?_
      refine newH hl4 fun Hm gm sm => ?_
      have GG := (((g.trans gj).trans gk).trans gl).trans gm
      refine ⟨l4, _, _, rfl, GG, ?_, (GI.trans (((g.trans gj).trans gk).trans gl)).free hl4⟩
      rw [sm, tk, e0]
      unfold strV
      rw [List.append_assoc]
      simp only [List.map_cons, List.map_append, List.cons_append, List.singleton_append, List.nil_append]
  · rintro σ H' ⟨W, o3, o4, rfl, g, hW, nW⟩
    exact ⟨_, rfl, k W H' (GI.trans g) nW hW⟩
end
end Vf
end
section
set_option Elab.async false
set_option linter.all false
set_option maxRecDepth 100000
set_option maxHeartbeats 4000000
namespace Vf
open PySem PySem.Spec PyProof.Rows L2 GxR GenW RZ
def names5 : List Str := ["f", "star", "tab1", "long1234", "x"]
theorem allS_facts : allS.Nodup ∧ (∀ x ∈ allS, isSg x = true ∧ PyData.canLay0 (.str x) = true) := by decide +kernel
theorem names5_facts : ∀ x ∈ names5, isNm x = true ∧ x ≠ "plain" ∧ PyData.canLay0 (.str x) = true := by decide +kernel
theorem allS_pc : ∀ x ∈ allS, 37 ∉ cp x := by decide +kernel
theorem names5_pc : ∀ x ∈ names5, 37 ∉ cp x := by decide +kernel
theorem there_eq : ∀ b1 b2 b3 b4 b5 : Bool, thereL (pickF [b1, b2, b3, b4, b5]) = [b1, b2, b4, b5, b3, b3, b3, (b1 || (b2 || (b3 || (b4 || b5))))] := by decide +kernel
theorem mask_ok {n : Str} {bs : List Bool} {ps rs : List Str} (hn : n ∈ names5) (hb : bs.length = 5) (hp : ps.length = 8) (hpm : (ps ++ rs).Perm allS) : FOk (n :: mask (pickF bs) ps) := by
  obtain ⟨b1, b2, b3, b4, b5, rfl⟩ : ∃ b1 b2 b3 b4 b5, bs = [b1, b2, b3, b4, b5] := match bs, hb with | [b1, b2, b3, b4, b5], _ => ⟨_, _, _, _, _, rfl⟩
  have nd : ps.Nodup := ((hpm.nodup_iff.mpr allS_facts.1).sublist (List.sublist_append_left ps rs))
  have sg : ∀ x ∈ ps, isSg x = true ∧ PyData.canLay0 (.str x) = true := fun x hx => allS_facts.2 x (hpm.mem_iff.mp (List.mem_append_left _ hx))
  have spc : ∀ x ∈ ps, 37 ∉ cp x := fun x hx => allS_pc x (hpm.mem_iff.mp (List.mem_append_left _ hx))
  have ne : ∀ x ∈ ps, x ≠ "" := fun x hx z => by
    have q := (sg x hx).1
    rw [z] at q
    exact absurd q (by decide +kernel)
  have n5 := names5_facts n hn
  have pw := List.pairwise_iff_getElem.mp nd
  obtain ⟨p1, p2, p3, p4, p5, p6, p7, p8, rfl⟩ : ∃ p1 p2 p3 p4 p5 p6 p7 p8, ps = [p1, p2, p3, p4, p5, p6, p7, p8] := match ps, hp with | [p1, p2, p3, p4, p5, p6, p7, p8], _ => ⟨_, _, _, _, _, _, _, _, rfl⟩
  have em : mask (pickF [b1, b2, b3, b4, b5]) [p1, p2, p3, p4, p5, p6, p7, p8] = [mkS (p1, b1), mkS (p2, b2), mkS (p3, b4), mkS (p4, b5), mkS (p5, b3), mkS (p6, b3), mkS (p7, b3), mkS (p8, (b1 || (b2 || (b3 || (b4 || b5)))))] := by
    unfold mask
    rw [there_eq]; rfl
  rw [em]
  have th : ∀ i, i < 8 → ∃ (p : Str) (b : Bool), ([p1, p2, p3, p4, p5, p6, p7, p8] : List Str)[i]? = some p ∧ fa (n :: [mkS (p1, b1), mkS (p2, b2), mkS (p3, b4), mkS (p4, b5), mkS (p5, b3), mkS (p6, b3), mkS (p7, b3), mkS (p8, (b1 || (b2 || (b3 || (b4 || b5)))))]) (i + 1) = mkS (p, b) := fun i hi => by
    match i, hi with
    | 0, _ => exact ⟨_, _, rfl, rfl⟩
    | 1, _ => exact ⟨_, _, rfl, rfl⟩
    | 2, _ => exact ⟨_, _, rfl, rfl⟩
    | 3, _ => exact ⟨_, _, rfl, rfl⟩
    | 4, _ => exact ⟨_, _, rfl, rfl⟩
    | 5, _ => exact ⟨_, _, rfl, rfl⟩
    | 6, _ => exact ⟨_, _, rfl, rfl⟩
    | 7, _ => exact ⟨_, _, rfl, rfl⟩
  have mk0 : ∀ (p : Str) (b : Bool), p ≠ "" → (mkS (p, b) = "" ↔ b = false) := fun p b hp => by
    cases b
    · exact ⟨fun _ => rfl, fun _ => rfl⟩
    · exact ⟨fun z => absurd z hp, fun z => by cases z⟩
  have m := fun (x : Str) (hx : x ∈ [p1, p2, p3, p4, p5, p6, p7, p8]) => ne x hx
  refine ⟨rfl, n5.1, n5.2.1, ?_, ?_, ?_, ?_, ?_, ?_, ?_⟩
  · intro i h1 h9 hne
    obtain ⟨j, rfl⟩ : ∃ j, i = j + 1 := ⟨i - 1, by omega⟩
    obtain ⟨p, b, e1, e2⟩ := th j (by omega)
    rw [e2] at hne ⊢
    cases b
    · exact absurd rfl hne
    · exact (sg p (List.mem_of_getElem? e1)).1
  · intro i j h1 hij h9 hne
    obtain ⟨i', rfl⟩ : ∃ k, i = k + 1 := ⟨i - 1, by omega⟩
    obtain ⟨j', rfl⟩ : ∃ k, j = k + 1 := ⟨j - 1, by omega⟩
    obtain ⟨p, b, e1, e2⟩ := th i' (by omega)
    obtain ⟨p', b', e1', e2'⟩ := th j' (by omega)
    rw [e2] at hne ⊢
    rw [e2']
    cases b
    · exact absurd rfl hne
    · have q := pw i' j' (List.getElem?_eq_some_iff.mp e1).1 (List.getElem?_eq_some_iff.mp e1').1 (by omega)
      rw [(List.getElem?_eq_some_iff.mp e1).2, (List.getElem?_eq_some_iff.mp e1').2] at q
      cases b'
      · exact hne
      · exact q
  · show mkS (p5, b3) = "" ↔ mkS (p6, b3) = ""
    rw [mk0 p5 b3 (m _ (by simp)), mk0 p6 b3 (m _ (by simp))]
  · show mkS (p5, b3) = "" ↔ mkS (p7, b3) = ""
    rw [mk0 p5 b3 (m _ (by simp)), mk0 p7 b3 (m _ (by simp))]
  · show mkS (p8, _) = "" ↔ _
    rw [mk0 p8 _ (m _ (by simp))]
    constructor
    · intro z i h1 h8
      have z1 : b1 = false ∧ b2 = false ∧ b3 = false ∧ b4 = false ∧ b5 = false := by
        revert z
        cases b1 <;> cases b2 <;> cases b3 <;> cases b4 <;> cases b5 <;> decide
      obtain ⟨rfl, rfl, rfl, rfl, rfl⟩ := z1
      match i, h1, h8 with
      | 1, _, _ => rfl
      | 2, _, _ => rfl
      | 3, _, _ => rfl
      | 4, _, _ => rfl
      | 5, _, _ => rfl
      | 6, _, _ => rfl
      | 7, _, _ => rfl
    · intro z
      have z1 := (mk0 p1 b1 (m _ (by simp))).mp (z 1 (by decide) (by decide))
      have z2 := (mk0 p2 b2 (m _ (by simp))).mp (z 2 (by decide) (by decide))
      have z3 := (mk0 p3 b4 (m _ (by simp))).mp (z 3 (by decide) (by decide))
      have z4 := (mk0 p4 b5 (m _ (by simp))).mp (z 4 (by decide) (by decide))
      have z5 := (mk0 p5 b3 (m _ (by simp))).mp (z 5 (by decide) (by decide))
      rw [z1, z2, z3, z4, z5]; rfl
  · intro t ht
    rcases List.mem_cons.mp ht with z | z
    · rw [z]; exact n5.2.2
    · have all : ∀ (p : Str) (b : Bool), p ∈ [p1, p2, p3, p4, p5, p6, p7, p8] → PyData.canLay0 (.str (mkS (p, b))) = true := fun p b hp => by
        cases b
        · show PyData.canLay0 (.str "") = true
          decide +kernel
        · exact (sg p hp).2
      simp only [List.mem_cons, List.not_mem_nil, or_false] at z
      rcases z with z | z | z | z | z | z | z | z
      · rw [z]; exact all _ _ (by simp)
      · rw [z]; exact all _ _ (by simp)
      · rw [z]; exact all _ _ (by simp)
      · rw [z]; exact all _ _ (by simp)
      · rw [z]; exact all _ _ (by simp)
      · rw [z]; exact all _ _ (by simp)
      · rw [z]; exact all _ _ (by simp)
      · rw [z]; exact all _ _ (by simp)
  · intro t ht
    rcases List.mem_cons.mp ht with z | z
    · rw [z]; exact names5_pc n hn
    · have all : ∀ (p : Str) (b : Bool), p ∈ [p1, p2, p3, p4, p5, p6, p7, p8] → 37 ∉ cp (mkS (p, b)) := fun p b hp => by
        cases b
        · show 37 ∉ cp ""
          decide
        · exact spc p hp
      simp only [List.mem_cons, List.not_mem_nil, or_false] at z
      rcases z with z | z | z | z | z | z | z | z
      · rw [z]; exact all _ _ (by simp)
      · rw [z]; exact all _ _ (by simp)
      · rw [z]; exact all _ _ (by simp)
      · rw [z]; exact all _ _ (by simp)
      · rw [z]; exact all _ _ (by simp)
      · rw [z]; exact all _ _ (by simp)
      · rw [z]; exact all _ _ (by simp)
      · rw [z]; exact all _ _ (by simp)
end Vf
end
section
set_option Elab.async false
set_option linter.all false
set_option maxRecDepth 100000
set_option maxHeartbeats 4000000
namespace Vf
open PySem PySem.Spec PyProof.Rows L2 GxR GenW RZ
abbrev s__law_some_program : Stmt := top 55
abbrev n__law_some_program : List Str := ["urn", "known", "forms", "makers", "name", "form", "names", "place", "source", "target"]
abbrev p__law_some_program : List Str := ["urn", "known"]
theorem sc__law_some_program : FnScope n__law_some_program p__law_some_program (defScope s__law_some_program) := ⟨rfl, rfl, rfl, by decide +kernel, rfl, by decide +kernel, by decide +kernel⟩

def knowns : List (List Str) := [[], [], ["own"], ["own", "f9"]]
def namesL (r : Nat) (kn : List Str) : List Str := ("plain" : Str) :: (names5.take r ++ kn)
def nameB (x : Str) : Bool := cleanB x && (decide (x.length ≤ 12) && PyData.canLay0 (.str x))
theorem names_facts : ∀ r, r < 5 → ∀ kn ∈ knowns, (namesL r kn).Nodup ∧ (namesL r kn).all nameB = true ∧ kn.length ≤ 2 := by decide +kernel
def mname (i : Nat) : Str := ("m" : Str) ++ iS i
theorem mname_facts : ∀ i, i < 7 → isWs (mname i) = true ∧ PyData.canLay0 (.str (mname i)) = true ∧ (iS i).length ≤ 4 := by decide +kernel
theorem mname_inj : ∀ i, i < 7 → ∀ j, j < 7 → mname i = mname j → i = j := by decide +kernel
structure PrOk (kn : List Str) (F : List (List Str)) (M : List Mak) : Prop where
  hk : kn ∈ knowns
  fo : ∀ f ∈ F, FOk f
  fn : F.map fnm = names5.take F.length
  fl : F.length ≤ 4
  mo : ∀ m ∈ M, MOk m
  mn : M.map (fun m => m.n) = (List.range M.length).map mname
  ml : M.length ≤ 6
  mt : ∀ m ∈ M, m.s ∈ tops kn F ∧ m.t ∈ tops kn F ∧ m.t ≠ m.s
def spProg (K : PySem.W.Frag) : Sp := fun vs H Q _ => ∃ (u c kl : Addr) (kn : List Str), vs = [.ref u, .ref kl] ∧ Urn c H u ∧ H kl = some (.lst (strV kn)) ∧ kl ≠ u ∧ kn ∈ knowns ∧
  ∀ (tp tf tm : Addr) (fv mv : List V) (F : List (List Str)) (M : List Mak) (H' : Hp), GrU u H H' → Urn c H' u → H' tp = some (.tup [.ref tf, .ref tm]) → H' tf = some (.tup fv) → TA strV H' fv F → H' tm = some (.tup mv) → TA makV H' mv M → PrOk kn F M → Q (.ref tp) H'
theorem GrM.gu {u : Addr} {H H' : Hp} (g : GrM [u] H H') : GrU u H H' := fun b o hb e => g b o (.inl (by simpa using hb)) e
theorem pickF_mem {bs : List Bool} {x : Str} (h : x ∈ pickF bs) : x ∈ F5 := by
  unfold pickF at h
  obtain ⟨p, hp, e⟩ := List.mem_filterMap.mp h
  split at e
  · cases e
    exact (List.of_mem_zip hp).1
  · cases e
theorem F5_lay : ∀ x ∈ F5, PyData.canLay0 (.str x) = true := by decide +kernel
theorem five_cut (r : Nat) (h : r < 5) : cutV (strV names5) none (some (r : Int)) = strV (names5.take r) ∧ HT.sIx (strV names5).length (strV names5).length (some (r : Int)) ≠ (strV names5).length := by
  have e2 : HT.sIx (strV names5).length (strV names5).length (some ((r : Nat) : Int)) = min r (strV names5).length := HT.sIx_nat _ _ r
  have hl : (strV names5).length = 5 := rfl
  refine ⟨?_, by rw [e2, hl]; omega⟩
  unfold cutV
  rw [HT.sIx_none, e2, hl, Nat.min_eq_left (by omega), List.drop_zero, Nat.sub_zero]
  unfold strV
  rw [List.map_take]
theorem other_name {l : List Str} {x : Str} (nd : l.Nodup) (h : 1 < l.length) : l.filter (fun y => !decide (V.str y = V.str x)) ≠ [] := by
  intro z
  have all : ∀ y ∈ l, y = x := fun y hy => by
    by_cases e : y = x
    · exact e
    · have : y ∈ l.filter (fun y => !decide (V.str y = V.str x)) := List.mem_filter.mpr ⟨hy, by rw [dvs, decide_eq_false e]; rfl⟩
      rw [z] at this
      cases this
  match l, h, nd, all with
  | a :: b :: r, _, nd, all =>
    have e1 := all a (by simp)
    have e2 := all b (by simp)
    rw [e1, e2] at nd
    simp at nd
theorem names_eq {F : List (List Str)} {kn : List Str} {n : Nat} (h : F.map fnm = names5.take n) (hl : F.length = n) : (V.str "plain" :: (strV (F.map fnm) ++ strV kn)) = strV (namesL n kn) := by
  unfold namesL strV
  rw [h, List.map_cons, List.map_append]
theorem namesL_tops {F : List (List Str)} {kn : List Str} {n : Nat} {x : Str} (h : F.map fnm = names5.take n) (hx : x ∈ namesL n kn) : x ∈ tops kn F := by
  unfold namesL at hx
  unfold tops
  rw [h]
  rcases List.mem_cons.mp hx with z | z
  · rw [z]; exact List.mem_cons_self
  · refine List.mem_cons_of_mem _ ?_
    rcases List.mem_append.mp z with z | z
    · exact List.mem_append_right _ z
    · exact List.mem_append_left _ z
section
variable {P : Program} {w : World} {K : PySem.W.Frag} {mg : Str → Option Value} {base : Heap}
theorem ok_prog {fd : FuncData} (F : FnP K "_law_some_program" s__law_some_program fd) (T : TY K mg) (D__law_upto : Df P w K mg base "_law_upto" 2 p__law_upto spUpto) (D__law_choice : Df P w K mg base "_law_choice" 3 p__law_choice (spChoice K))
    (D__law_some_set : Df P w K mg base "_law_some_set" 3 p__law_some_set (spSomeSet K)) (D__law_some_form : Df P w K mg base "_law_some_form" 3 p__law_some_form (spSomeForm K)) : FnOk P w K mg base CX0 4 (He.fAd K ("_law_some_program", none)) fd p__law_some_program (spProg K) := by
  refine okP F sc__law_some_program (fun vs H Q E h => by obtain ⟨u, c, kl, kn, rfl, _⟩ := h; rfl) (fun A outer s H vs Q E hr h => ?_)
  obtain ⟨u, c, kl, kn, rfl, hu, hk, nku, hkn, k⟩ := h
  refine ⟨_, (pss_cons (ps_par (i := 2) (j := 3) (by rfl) sc__law_some_program.nd rfl rfl (by decide) rfl rfl (pa_cons (pe_lst pa_nil) (pa_cons (pe_lst pa_nil) pa_nil)) (by rfl))
      (pss_cons (ps_for PassesOwn.never rfl (k_tup (K := K) rfl (pe_slice (u_sl (K := K) rfl) (pe_tup (pa_cons pe_str (pa_cons pe_str (pa_cons pe_str (pa_cons pe_str (pa_cons pe_str pa_nil)))))) po_none (po_some (pe_fn D__law_upto hr (by decide) rfl (pa_cons (pv 0) (pa_cons pe_int pa_nil)))))) (pg_name (i := 4) sc__law_some_program.nd rfl (by first | exact Or.inl rfl | exact Or.inr rfl))
      (pss_one (ps_expr (k_bm (K := K) rfl PySem.F.plainAttrs_list PySem.F.slot_list_append PySem.F.type_list_append mt_append (pv 2) (pa_cons (pe_fn D__law_some_form hr (by decide) rfl (pa_cons (pv 0) (pa_cons (pv 4) (pa_cons (pe_fn D__law_some_set hr (by decide) rfl (pa_cons (pv 0) pa_nil)) pa_nil)))) pa_nil)))))
      (pss_cons (ps_set (i := 6) sc__law_some_program.nd rfl (by first | exact Or.inl rfl | exact Or.inr rfl) (pe_op (u_add (K := K) rfl) (pe_op (u_add (K := K) rfl) (pe_lst (pa_cons pe_str pa_nil)) (pe_lc (own := [("form", 5)]) (g := gName 5) (tt := tYes) rfl sc__law_some_program.nd (k_list (K := K) rfl (pv 2)) (blkOk_by (own := [("form", 5)]) (N := n__law_some_program) (sc := defScope s__law_some_program) (by decide +kernel)) (fun _ _ _ _ _ => (pg_name (i := 5) sc__law_some_program.nd rfl (by first | exact Or.inl rfl | exact Or.inr rfl))) (fun _ _ _ _ _ => pts_nil) (fun _ _ _ _ _ => (pe_ix (u_ix (K := K) rfl) (pv 5) pe_int (fun _ _ => rfl))))) (pv 1)))
      (pss_cons (ps_for PassesOwn.never rfl (pi_range1 rfl T.b_range (pa_cons (pe_ifExp (pt_cmpR u_gt (pe_callB (k_len (K := K) rfl) rfl T.b_len (by decide +kernel) (pa_cons (pv 6) pa_nil)) pe_int (nomark _)) (pe_fn D__law_upto hr (by decide) rfl (pa_cons (pv 0) (pa_cons pe_int pa_nil))) pe_int) pa_nil)) (pg_name (i := 7) sc__law_some_program.nd rfl (by first | exact Or.inl rfl | exact Or.inr rfl))
      (pss_cons (ps_set (i := 8) sc__law_some_program.nd rfl (by first | exact Or.inl rfl | exact Or.inr rfl) (pe_fn D__law_choice hr (by decide) rfl (pa_cons (pv 0) (pa_cons (pv 6) pa_nil))))
      (pss_cons (ps_set (i := 9) sc__law_some_program.nd rfl (by first | exact Or.inl rfl | exact Or.inr rfl) (pe_fn D__law_choice hr (by decide) rfl (pa_cons (pv 0) (pa_cons (pe_lc (own := [("name", 4)]) (g := gName 4) rfl sc__law_some_program.nd (k_list (K := K) rfl (pv 6)) (blkOk_by (own := [("name", 4)]) (N := n__law_some_program) (sc := defScope s__law_some_program) (by decide +kernel)) (fun _ _ _ _ _ => (pg_name (i := 4) sc__law_some_program.nd rfl (by first | exact Or.inl rfl | exact Or.inr rfl))) (fun _ _ _ _ _ => (pts_one (pt_cmpR (u_ne (K := K) rfl hr.units) (pv 4) (pv 8) (nomark _)))) (fun _ _ _ _ _ => (pv 4))) pa_nil))))
      (pss_one (ps_expr (k_bm (K := K) rfl PySem.F.plainAttrs_list PySem.F.slot_list_append PySem.F.type_list_append mt_append (pv 3) (pa_cons (pe_tup (pa_cons (pe_op (u_add (K := K) rfl) pe_str (pe_callTy call_str_int rfl T.b_str (by decide +kernel) (pa_cons (pv 7) pa_nil))) (pa_cons (pv 8) (pa_cons (pv 9) (pa_cons (pe_fn D__law_choice hr (by decide) rfl (pa_cons (pv 0) (pa_cons (pe_lst (pa_cons pe_int (pa_cons pe_int (pa_cons pe_int (pa_cons pe_int (pa_cons pe_int (pa_cons pe_int pa_nil))))))) pa_nil))) pa_nil))))) pa_nil)))))))
      (pss_one (ps_ret (pe_tup (pa_cons (k_tuple (K := K) rfl rfl T.b_tuple (pv 2)) (pa_cons (k_tuple (K := K) rfl rfl T.b_tuple (pv 3)) pa_nil))))))))), ?_⟩
  have sl : ∀ {n : Nat}, n ≤ 1000 → n ≤ sizeLine := fun h => by rw [sizeLine_eq]; omega
  refine ⟨Nat.zero_le _, fun D1 nD1 => ?_⟩
  refine newH nD1 fun H1 g1 s1 => ?_
  refine ⟨Nat.zero_le _, fun D2 hD2 => ?_⟩
  have nD2 := g1.free hD2
  have n12 : D1 ≠ D2 := ne_of_none s1 hD2
  refine newH hD2 fun H2 g2 s2 => ?_
  have s1b := g2.lst s1
  have u1 := hu.ou nD1
  have u2 := hu.ou nD2
  have G2 := g1.trans g2
  have hu2 := hu.gr G2
  have km : kl ∉ [u, D1, D2] := by
    have a1 : kl ≠ D1 := ne_of_none hk nD1
    have a2 : kl ≠ D2 := ne_of_none hk nD2
    simp [nku, a1, a2]
  have um : ∀ {H' : Hp}, Urn c H' u → Mu H' u := fun h => by
    obtain ⟨ns, p, a, r, h1, _⟩ := h
    exact Mu.lst h1
  -- the forms
  refine ⟨_, _, rfl, sl (Nat.le_of_ble_eq_true rfl), fun t5 ht5 => ?_⟩
  refine newH ht5 fun H3 g3 s3 => ?_
  refine ⟨_, rfl, u, c, 5, rfl, hu2.gr g3, by decide, by decide, fun r H4 h0 h5 g4 hu4 => ?_⟩
  obtain ⟨r, rfl⟩ := Int.eq_ofNat_of_zero_le h0
  have r5 : r < 5 := by omega
  obtain ⟨cu1, cu2⟩ := five_cut r r5
  have G4 : GrM [u, D1, D2] H2 H4 := g3.m.trans ((g4.m (hu2.gr g3)).mono (by simp))
  have s34 : H4 t5 = some (.tup (strV names5)) := (g4.m (hu2.gr g3)).tup s3
  have s14 : H4 D1 = some (.lst []) := (g4.m (hu2.gr g3)).keep (by simpa using u1) (g3.lst s1b) (fun _ z => by cases z)
  have s24 : H4 D2 = some (.lst []) := (g4.m (hu2.gr g3)).keep (by simpa using u2) (g3.lst s2) (fun _ z => by cases z)
  refine ⟨_, rfl, sl_t (SqT.of s34) (fun z => absurd z.2 cu2) (fun _ p5 hp5 => ?_)⟩
  refine newH hp5 fun H5 g5 s5 => ?_
  rw [cu1] at s5
  refine ⟨p5, rfl, ⟨_, SqT.of s5⟩, ?_⟩
  have gH : GrM [u, D1, D2] H H5 := (G2.m.trans G4).trans g5.m
  refine for_tup (K := K) (a := p5) (xs := strV (names5.take r)) (fun i σ H' => ∃ o4 fv FF, σ = [some (.ref u), some (.ref kl), some (.ref D1), some (.ref D2), o4, none, none, none, none, none] ∧ GrM [u, D1, D2] H5 H' ∧ Urn c H' u ∧ H' D1 = some (.lst fv) ∧ TA strV H' fv FF ∧ FF.length = i ∧ FF.map fnm = names5.take i ∧ (∀ f ∈ FF, FOk f) ∧ H' D2 = some (.lst []))
    ⟨none, [], [], rfl, GrM.refl _ _, hu4.gr g5, g5.lst s14, TA.nil, rfl, rfl, by simp, g5.lst s24⟩ ?_ ?_ ?_
  · rintro i σ H' _ ⟨o4, fv, FF, rfl, g, _⟩
    exact SqT.of (g.tup s5)
  · rintro i x σ H' hx ⟨o4, fv, FF, rfl, g, hu', hD1, HF, hl, hn, hfo, hD2'⟩
    obtain ⟨n, hn2, rfl⟩ := str_at hx
    rw [List.getElem?_take] at hn2
    have ir : i < r := by
      by_cases z : i < r
      · exact z
      · rw [if_neg z] at hn2; cases hn2
    rw [if_pos ir] at hn2
    refine ⟨_, rfl, .inl ⟨rfl, _, SqL.of hD1⟩, _, rfl, _, rfl, _, rfl, u, c, rfl, hu', fun t bs H6 hb g6 hu6 ht htu st => ?_⟩
    have j6 := g6.m hu'
    refine ⟨u, c, t, n, pickF bs, rfl, hu6, SqT.of st, fun x hx => F5_lay x (pickF_mem hx), fun tf ps rs H7 hps hpm g7 hu7 htf hfu sf => ?_⟩
    have j7 := g7.m hu6
    have J := j6.trans j7
    have hD1' := J.keep (by simpa using u1) hD1 (fun _ z => by cases z)
    have hD2'' := J.keep (by simpa using u2) hD2' (fun _ z => by cases z)
    have lfv : fv.length = i := by rw [HF.1]; exact hl
    refine ⟨D1, fv, _, rfl, rfl, hD1', by rw [sizeLine_eq]; omega, ?_⟩
    have gu : GrM [D1] H7 (upd H7 D1 (.lst (fv ++ [V.ref tf]))) := (GrM.refl _ _).upd (by simp) (Mu.lst hD1')
    have hn5 : n ∈ names5 := List.mem_of_getElem? hn2
    refine ⟨_, fv ++ [.ref tf], FF ++ [n :: mask (pickF bs) ps], rfl, (g.trans (J.mono (by simp))).trans (gu.mono (by simp)), ?_, upd_same, ((HF.m J).snoc sf).m gu, by rw [List.length_append, hl]; rfl, ?_, ?_, ?_⟩
    · exact hu7.updD u1 (hu.oc nD1)
    · rw [List.map_append, hn, List.take_succ, hn2]; rfl
    · intro f hf
      rcases List.mem_append.mp hf with z | z
      · exact hfo f z
      · rw [List.mem_singleton.mp z]
        exact mask_ok hn5 hb hps hpm
    · rw [upd_ne (Ne.symm n12)]
      exact hD2''
  rintro σ H6 ⟨o4, fv, FF, rfl, g6, hu6, hD1, HF, hl, hn, hfo, hD2'⟩
  have lr : (strV (names5.take r)).length = r := by
    unfold strV
    rw [List.length_map, List.length_take]
    show min r 5 = r
    omega
  rw [lr] at hl hn
  have lfv : fv.length = r := by rw [HF.1]; exact hl
  -- the names
  refine ⟨sl (Nat.le_of_ble_eq_true rfl), fun l7 hl7 => ?_⟩
  refine newH hl7 fun H7 g7a s7 => ?_
  have hD1a := g7a.lst hD1
  refine ⟨_, rfl, D1, rfl, ⟨_, SqL.of hD1a⟩, fun Dn hDn => ?_⟩
  have nDn1 : D1 ≠ Dn := ne_of_none hD1a hDn
  refine lc_list (K := K) (a := D1) (xs := fv) (fun i H' => GrM [Dn] H7 H' ∧ H' Dn = some (.lst (strV ((FF.take i).map fnm)))) ⟨(GrM.refl _ _).new hDn, upd_same⟩ ?_ ?_ ?_
  · rintro i H' _ ⟨g, _⟩
    exact SqL.of (g.keep (by simpa using nDn1) hD1a (fun _ z => by cases z))
  · rintro i x H' hx ⟨g, hL⟩
    obtain ⟨f, t, hf, rfl, ht⟩ := ((HF.m (g7a.m (S := []))).m g).at hx
    have fo := hfo f (List.mem_of_getElem? hf)
    have il := (List.getElem?_eq_some_iff.mp hf).1
    have f0 : (strV f)[0]? = some (V.str (fnm f)) := by
      unfold strV
      rw [List.getElem?_map, fa_at (by have := fo.len; omega)]; rfl
    refine ⟨rfl, ?_⟩
    refine ⟨_, rfl, x_t (SqT.of ht) (atI_nat f0) ⟨_, hL, ?_, g.upd (by simp) (Mu.none hDn), ?_⟩⟩
    · show (List.map V.str _).length < _
      rw [List.length_map, List.length_map, List.length_take, sizeLine_eq]
      omega
    · rw [upd_same, List.take_succ, hf, List.map_append]
      unfold strV
      rw [List.map_append]; rfl
  rintro H8 ⟨g8, hL8⟩
  rw [HF.1, List.take_length] at hL8
  have g78 : Gr H6 H8 := g7a.trans (g8.gr (by simpa using hDn))
  have lnm : (strV (FF.map fnm)).length ≤ 10 := by
    unfold strV
    rw [List.length_map, List.length_map]; omega
  refine a_ll (g8.keep (by simp; exact Ne.symm (ne_of_none s7 hDn) |> Ne.symm) s7 (fun _ z => by cases z)) hL8 (by rw [sizeLine_eq]; show 1 + _ ≤ _; omega) fun l9 hl9 => ?_
  refine newH hl9 fun H8b g8b s8b => ?_
  have g68 := g78.trans g8b
  have hkl : H8b kl = some (.lst (strV kn)) := g68.lst (((gH.trans g6).keep km hk (fun _ z => by cases z)))
  have lkn : (strV kn).length ≤ 2 := by
    unfold strV
    rw [List.length_map]
    exact (names_facts r r5 kn hkn).2.2
  refine ⟨_, rfl, a_ll s8b hkl (by rw [sizeLine_eq, List.length_append]; show 1 + _ + _ ≤ _; omega) fun nl hnl => ?_⟩
  refine newH hnl fun H9 g9 s9 => ?_
  have g7 : GrM [u, D1, D2] H6 H9 := (g68.trans g9).m
  have g69 := g68.trans g9
  have s9 : H9 nl = some (.lst (strV (namesL r kn))) := s9.trans (by
    rw [← names_eq hn hl]; rfl)
  have hu9 := hu6.gr g69
  have hD19 := g69.lst hD1
  have hD29 := g69.lst hD2'
  have HF9 := HF.m (g69.m (S := []))
  have nlu : nl ≠ u := (hu6.gr g68).ou hnl
  have nl1 : nl ≠ D1 := Ne.symm (ne_of_none (g68.lst hD1) hnl)
  have nl2 : nl ≠ D2 := Ne.symm (ne_of_none (g68.lst hD2') hnl)
  obtain ⟨nd, nB, _⟩ := names_facts r r5 kn hkn
  have lN : (strV (namesL r kn)).length = (namesL r kn).length := List.length_map _
  have lN10 : (namesL r kn).length ≤ 20 := by
    have e := names_eq (kn := kn) hn hl
    have q := congrArg List.length e
    rw [lN] at q
    rw [← q, List.length_cons, List.length_append]
    omega
  have nmB : ∀ x ∈ namesL r kn, Clean x ∧ x.length ≤ 12 ∧ PyData.canLay0 (.str x) = true := fun x hx => by
    have q := List.all_eq_true.mp nB x hx
    unfold nameB at q
    rw [Bool.and_eq_true, Bool.and_eq_true] at q
    exact ⟨cleanB_ok q.1, of_decide_eq_true q.2.1, q.2.2⟩
  -- the makers
  refine ⟨_, rfl, _, _, rfl, .inl ⟨_, SqL.of s9, rfl⟩, gt_ii ⟨_, rfl, ite2 (fun h1 => ?_) (fun h1 => ?_)⟩⟩
  rotate_left
  · refine ⟨0, rfl, by decide, by decide, ?_⟩
    refine for_range (lo := 0) (n := 0) (fun i σ H' => ∃ o4 o5 o7 o8 o9 mv M, σ = [some (.ref u), some (.ref kl), some (.ref D1), some (.ref D2), o4, o5, some (.ref nl), o7, o8, o9] ∧ GrM [u, D1, D2] H9 H' ∧ Urn c H' u ∧ H' D1 = some (.lst fv) ∧ TA strV H' fv FF ∧ H' nl = some (.lst (strV (namesL r kn))) ∧ H' D2 = some (.lst mv) ∧ TA makV H' mv M ∧ M.length = i ∧ M.map (fun m => m.n) = (List.range i).map mname ∧ (∀ m ∈ M, MOk m ∧ m.s ∈ tops kn FF ∧ m.t ∈ tops kn FF ∧ m.t ≠ m.s)) ⟨_, _, _, _, _, [], [], rfl, GrM.refl _ _, hu9, hD19, HF9, s9, hD29, TA.nil, rfl, rfl, by simp⟩ (fun i _ _ hi => absurd hi (Nat.not_lt_zero _)) ?_
    · rintro σ H' ⟨o4', o5', o7', o8', o9', mv, M, rfl, ge, hue, hD1e, HFe, hNe, hD2e, HMe, hlM, hnM, hoM⟩
      have pr : PrOk kn FF M := ⟨hkn, hfo, by rw [hl]; exact hn, by omega, fun m hm => (hoM m hm).1, by rw [hlM]; exact hnM, by omega, fun m hm => (hoM m hm).2⟩
      refine ⟨_, rfl, ⟨.inl ⟨D1, _, rfl, SqL.of hD1e, fun t1 ht1 => ?_⟩⟩⟩
      refine newH ht1 fun H9a g9a s9a => ?_
      refine ⟨_, rfl, ⟨.inl ⟨D2, _, rfl, SqL.of (g9a.lst hD2e), fun t2 ht2 => ?_⟩⟩⟩
      refine newH ht2 fun H9b g9b s9b => ?_
      refine ⟨by show 2 ≤ sizeLine; rw [sizeLine_eq]; decide, fun t3 ht3 => ?_⟩
      refine newH ht3 fun H9c g9c s9c => ?_
      have gz := (g9a.trans g9b).trans g9c
      refine k t3 t1 t2 fv mv FF M H9c ?_ (hue.gr gz) s9c ((g9b.trans g9c).tup s9a) (HFe.m (gz.m (S := []))) (g9c.tup s9b) (HMe.m (gz.m (S := []))) pr
      refine GrM.gu ((((gH.trans g6).trans (g7.mono (by simp))).trans (ge.trans gz.m)).drop fun b hb => ?_)
      rcases List.mem_cons.mp hb with z | z
      · exact .inl (by simp [z])
      · rcases List.mem_cons.mp z with z | z
        · rw [z]; exact .inr nD1
        · rw [List.mem_singleton.mp z]; exact .inr nD2
  · have h1 : 1 < (namesL r kn).length := by
      have := of_decide_eq_true h1
      rw [lN] at this
      omega
    refine ⟨_, rfl, u, c, 7, rfl, hu9, by decide, by decide, fun q Ha q0 q7 ga hua => ?_⟩
    obtain ⟨q, rfl⟩ := Int.eq_ofNat_of_zero_le q0
    have q7 : q < 7 := by omega
    have ja := ga.m hu9
    refine ⟨_, rfl, by omega, by omega, ?_⟩
    rw [show ((q : Nat) : Int) = ((q : Nat) : Int) from rfl]
    refine for_range (lo := 0) (n := q) (fun i σ H' => ∃ o4 o5 o7 o8 o9 mv M, σ = [some (.ref u), some (.ref kl), some (.ref D1), some (.ref D2), o4, o5, some (.ref nl), o7, o8, o9] ∧ GrM [u, D1, D2] H9 H' ∧ Urn c H' u ∧ H' D1 = some (.lst fv) ∧ TA strV H' fv FF ∧ H' nl = some (.lst (strV (namesL r kn))) ∧ H' D2 = some (.lst mv) ∧ TA makV H' mv M ∧ M.length = i ∧ M.map (fun m => m.n) = (List.range i).map mname ∧ (∀ m ∈ M, MOk m ∧ m.s ∈ tops kn FF ∧ m.t ∈ tops kn FF ∧ m.t ≠ m.s)) ⟨_, _, _, _, _, [], [], rfl, ja.mono (by simp), hua, ja.keep (by simpa using u1) hD19 (fun _ z => by cases z), HF9.m ja, ja.keep (by simpa using nlu) s9 (fun _ z => by cases z), ja.keep (by simpa using u2) hD29 (fun _ z => by cases z), TA.nil, rfl, rfl, by simp⟩ ?_ ?_
    · rintro i σ H' hi ⟨o4', o5', o7', o8', o9', mv, M, rfl, ge, hue, hD1e, HFe, hNe, hD2e, HMe, hlM, hnM, hoM⟩
      have nb := fun (b : Addr) (hb : b ∉ [u, D1, D2]) => hb
      refine ⟨_, rfl, _, rfl, u, c, nl, _, rfl, hue, nlu, .inl (SqL.of hNe), ?_, by rw [lN]; omega, fun x Hb hx gb hub => ?_⟩
      · intro z
        have := congrArg List.length z
        rw [lN] at this
        have this : (namesL r kn).length = 0 := this
        omega
      obtain ⟨sx, hsx, rfl⟩ : ∃ t, t ∈ namesL r kn ∧ x = .str t := by
        unfold strV at hx
        obtain ⟨t, ht, rfl⟩ := List.mem_map.mp hx
        exact ⟨t, ht, rfl⟩
      have jb := gb.m hue
      have hNb := jb.keep (by simpa using nlu) hNe (fun _ z => by cases z)
      -- the others
      refine ⟨_, rfl, _, rfl, nl, rfl, ⟨_, SqL.of hNb⟩, fun Dx hDx => ?_⟩
      have nDx : nl ≠ Dx := ne_of_none hNb hDx
      refine lc_list (K := K) (a := nl) (xs := strV (namesL r kn)) (fun i H' => GrM [Dx] Hb H' ∧ H' Dx = some (.lst (strV (((namesL r kn).take i).filter fun y => !decide (V.str y = V.str sx))))) ⟨(GrM.refl _ _).new hDx, upd_same⟩ ?_ ?_ ?_
      · rintro i H' _ ⟨g, _⟩
        exact SqL.of (g.keep (by simpa using nDx) hNb (fun _ z => by cases z))
      · rintro i y H' hy ⟨g, hL⟩
        obtain ⟨z, hz, rfl⟩ := str_at hy
        refine ⟨rfl, ?_⟩
        have tk : ((namesL r kn).take (i + 1)).filter (fun y => !decide (V.str y = V.str sx)) = ((namesL r kn).take i).filter (fun y => !decide (V.str y = V.str sx)) ++ (if (!decide (V.str z = V.str sx)) = true then [z] else []) := by
          rw [List.take_succ, hz, List.filter_append]
          congr 1
          show List.filter _ [z] = _
          rw [List.filter_cons, List.filter_nil]
        refine ⟨_, rfl, _, rfl, n_flat rfl ⟨_, rfl, ite2 (fun h2 => ?_) (fun h2 => ?_)⟩⟩
        · rw [if_pos h2] at tk
          refine ⟨_, rfl, _, hL, ?_, g.upd (by simp) (Mu.none hDx), ?_⟩
          · show (List.map V.str _).length < _
            rw [List.length_map, sizeLine_eq]
            have := List.length_filter_le (fun y => !decide (V.str y = V.str sx)) ((namesL r kn).take i)
            rw [List.length_take] at this
            omega
          · rw [upd_same, tk]
            unfold strV
            rw [List.map_append]; rfl
        · rw [if_neg h2, List.append_nil] at tk
          refine ⟨g, ?_⟩
          rw [tk]
          exact hL
      rintro Hc ⟨gc, hLc⟩
      rw [lN, List.take_length] at hLc
      have Gbc : Gr Hb Hc := gc.gr (by simpa using hDx)
      have huc := hub.gr Gbc
      have oth := other_name (x := sx) nd h1
      have lo := List.length_filter_le (fun y => !decide (V.str y = V.str sx)) (namesL r kn)
      refine ⟨u, c, Dx, _, rfl, huc, hub.ou hDx, .inl (SqL.of hLc), ?_, ?_, fun y Hd hy gd hud => ?_⟩
      · intro z
        unfold strV at z
        exact oth (List.map_eq_nil_iff.mp z)
      · show (List.map V.str _).length < _
        rw [List.length_map]; omega
      obtain ⟨ty, hty, rfl⟩ : ∃ t, t ∈ (namesL r kn).filter (fun y => !decide (V.str y = V.str sx)) ∧ y = .str t := by
        unfold strV at hy
        obtain ⟨t, ht, rfl⟩ := List.mem_map.mp hy
        exact ⟨t, ht, rfl⟩
      have hty2 := List.mem_filter.mp hty
      have tns : ty ≠ sx := by
        intro z
        have q := hty2.2
        rw [dvs, decide_eq_true z] at q
        cases q
      have J := (jb.trans Gbc.m).trans (gd.m huc)
      have hD2d := J.keep (by simpa using u2) hD2e (fun _ z => by cases z)
      -- the maker
      have i7 : i < 7 := by omega
      have mf := mname_facts i i7
      have lg : ((i : Nat) : Int).natAbs.log2 < 1920 := by
        rw [Int.natAbs_natCast]
        refine Nat.lt_of_le_of_lt ?_ (show 10 < 1920 by decide)
        by_cases i0 : i = 0
        · rw [i0]; decide
        · exact Nat.le_of_lt_succ ((Nat.log2_lt i0).mpr (by omega))
      have e0i : (0 : Int) + (i : Nat) = ((i : Nat) : Int) := by omega
      refine ⟨_, rfl, .inl ⟨rfl, _, SqL.of hD2d⟩, ?_⟩
      refine ⟨_, rfl, _, rfl, by rw [e0i]; exact lg, a_ss (by rw [e0i, sizeLine_eq]; have := mf.2.2; show 1 + (iS i).length ≤ _; omega) ?_⟩
      rw [e0i]
      refine ⟨_, rfl, _, rfl, _, rfl, sl (Nat.le_of_ble_eq_true rfl), fun lc hlc => ?_⟩
      refine newH hlc fun He gde se => ?_
      have hue2 := hud.gr gde
      refine ⟨u, c, lc, _, rfl, hue2, hud.ou hlc, .inl (SqL.of se), by simp, by decide, fun z Hf hz gf huf => ?_⟩
      obtain ⟨cc, hcc, rfl⟩ : ∃ cc, cc ∈ costs ∧ z = .int ((cc : Nat) : Int) := by
        simp only [List.mem_cons, List.not_mem_nil, or_false] at hz
        rcases hz with z | z | z | z | z | z
        · exact ⟨0, by decide, z⟩
        · exact ⟨1, by decide, z⟩
        · exact ⟨7, by decide, z⟩
        · exact ⟨10, by decide, z⟩
        · exact ⟨999, by decide, z⟩
        · exact ⟨1000, by decide, z⟩
      refine ⟨sl (Nat.le_of_ble_eq_true rfl), fun tm htm => ?_⟩
      refine newH htm fun Hg gg sg => ?_
      have J2 := (J.trans gde.m).trans ((gf.m hue2).trans gg.m)
      have hD2g := J2.keep (by simpa using u2) hD2e (fun _ z => by cases z)
      refine ⟨D2, mv, _, rfl, rfl, hD2g, by rw [sizeLine_eq, HMe.1]; omega, ?_⟩
      have gu : GrM [D2] Hg (upd Hg D2 (.lst (mv ++ [V.ref tm]))) := (GrM.refl _ _).upd (by simp) (Mu.lst hD2g)
      have msx := nmB sx hsx
      have mty := nmB ty hty2.1
      refine ⟨_, _, _, _, _, mv ++ [.ref tm], M ++ [⟨mname i, sx, ty, cc⟩], rfl, ((ge.trans (J2.mono (by simp))).trans (gu.mono (by simp))), (huf.gr gg).updD u2 (hu.oc nD2), ?_, ((HFe.m J2).m gu), ?_, upd_same, ((HMe.m J2).snoc (a := ⟨mname i, sx, ty, cc⟩) sg).m gu, by rw [List.length_append, hlM]; rfl, ?_, ?_⟩
      · rw [upd_ne n12]
        exact J2.keep (by simpa using u1) hD1e (fun _ z => by cases z)
      · rw [upd_ne nl2]
        exact J2.keep (by simpa using nlu) hNe (fun _ z => by cases z)
      · rw [List.map_append, hnM, List.range_succ, List.map_append]; rfl
      · intro m hm
        rcases List.mem_append.mp hm with z | z
        · exact hoM m z
        · rw [List.mem_singleton.mp z]
          exact ⟨⟨mf.1, hcc, ⟨msx.1, msx.2.1⟩, ⟨mty.1, mty.2.1⟩, ⟨mf.2.1, msx.2.2, mty.2.2⟩⟩, namesL_tops hn hsx, namesL_tops hn hty2.1, tns⟩
    · rintro σ H' ⟨o4', o5', o7', o8', o9', mv, M, rfl, ge, hue, hD1e, HFe, hNe, hD2e, HMe, hlM, hnM, hoM⟩
      have pr : PrOk kn FF M := ⟨hkn, hfo, by rw [hl]; exact hn, by omega, fun m hm => (hoM m hm).1, by rw [hlM]; exact hnM, by omega, fun m hm => (hoM m hm).2⟩
      refine ⟨_, rfl, ⟨.inl ⟨D1, _, rfl, SqL.of hD1e, fun t1 ht1 => ?_⟩⟩⟩
      refine newH ht1 fun H9a g9a s9a => ?_
      refine ⟨_, rfl, ⟨.inl ⟨D2, _, rfl, SqL.of (g9a.lst hD2e), fun t2 ht2 => ?_⟩⟩⟩
      refine newH ht2 fun H9b g9b s9b => ?_
      refine ⟨by show 2 ≤ sizeLine; rw [sizeLine_eq]; decide, fun t3 ht3 => ?_⟩
      refine newH ht3 fun H9c g9c s9c => ?_
      have gz := (g9a.trans g9b).trans g9c
      refine k t3 t1 t2 fv mv FF M H9c ?_ (hue.gr gz) s9c ((g9b.trans g9c).tup s9a) (HFe.m (gz.m (S := []))) (g9c.tup s9b) (HMe.m (gz.m (S := []))) pr
      refine GrM.gu ((((gH.trans g6).trans (g7.mono (by simp))).trans (ge.trans gz.m)).drop fun b hb => ?_)
      rcases List.mem_cons.mp hb with z | z
      · exact .inl (by simp [z])
      · rcases List.mem_cons.mp z with z | z
        · rw [z]; exact .inr nD1
        · rw [List.mem_singleton.mp z]; exact .inr nD2
end
end Vf
end
section
set_option Elab.async false
set_option linter.all false
set_option maxRecDepth 100000
set_option maxHeartbeats 4000000
namespace Vf
open PySem PySem.Spec PyProof.Rows L2 GxR GenW RZ
abbrev s__law_words : Stmt := top 56
abbrev n__law_words : List Str := ["line", "found", "at", "word"]
abbrev p__law_words : List Str := ["line"]
theorem sc__law_words : FnScope n__law_words p__law_words (defScope s__law_words) := ⟨rfl, rfl, rfl, by decide +kernel, rfl, by decide +kernel, by decide +kernel⟩

abbrev s__law_is_name : Stmt := top 57
abbrev n__law_is_name : List Str := ["word", "most", "small", "sign"]
abbrev p__law_is_name : List Str := ["word", "most"]
theorem sc__law_is_name : FnScope n__law_is_name p__law_is_name (defScope s__law_is_name) := ⟨rfl, rfl, rfl, by decide +kernel, rfl, by decide +kernel, by decide +kernel⟩

abbrev s__law_is_cost : Stmt := top 60
abbrev n__law_is_cost : List Str := ["word", "sign"]
abbrev p__law_is_cost : List Str := ["word"]
theorem sc__law_is_cost : FnScope n__law_is_cost p__law_is_cost (defScope s__law_is_cost) := ⟨rfl, rfl, rfl, by decide +kernel, rfl, by decide +kernel, by decide +kernel⟩

/-- [c for c in a text if not f(c)] -/
theorem lc_badS {x : Str} {f : Nat → Bool} {j : Nat} {tt : TT} {σ : L2.St} {H1 : Hp} {D : Addr} {Qd : Hp → Prop} (hD : H1 D = none) (hln : x.length ≤ 16000000)
    (hw : ∀ x, wipe ((wipe σ [j]).set j (some x)) [j] = wipe σ [j]) (hv : ∀ x, ((wipe σ [j]).set j (some x))[j]? = some (some x))
    (hs : ∀ (i : Nat) (c : Nat) (H' : Hp) (C : Bool → Hp → Prop), x.cps.toList[i]? = some c → Gr H1 H' → (∀ H4, Gr H' H4 → C (!f c) H4) → tt ((wipe σ [j]).set j (some (.str ⟨#[c]⟩))) H' C)
    (hd : ∀ H' ys, Gr H1 H' → H' D = some (.lst ys) → (decide (ys = []) = x.cps.toList.all f) → Qd H') :
    ∃ W : Nat → Nat → Hp → Prop, (∃ m, W 0 m (upd H1 D (.lst []))) ∧ ∀ i m H, W i m H →
      ((Its x).stop i H ∧ Qd H) ∨ ((Its x).go i H ∧ ∃ Nx : Hp → Prop, (∀ H', Nx H' → ∃ m', m' < m ∧ W (i + 1) m' H') ∧ ∀ y H', (Its x).yld i H y H' → gName j y (wipe σ [j]) H' fun σ2 H2 => wipe σ2 [j] = wipe σ [j] ∧ tt σ2 H2 fun b H3 =>
        if b = true then tVar j σ2 H3 fun y H4 => ∃ acc, H4 D = some (.lst acc) ∧ acc.length < sizeLine ∧ Nx (upd H4 D (.lst (acc ++ [y]))) else Nx H3) := by
  have nl : x.cps.toList.length = x.length := Array.length_toList
  refine lc_S (x := x) (fun i H' => ∃ ys, Gr H1 H' ∧ H' D = some (.lst ys) ∧ ys.length ≤ i ∧ decide (ys = []) = (x.cps.toList.take i).all f) ⟨[], Gr.new hD, upd_same, Nat.le_refl _, rfl⟩ ?_ ?_
  · rintro i c H' hx ⟨ys, g, hL, hn, hq⟩
    have hi := (List.getElem?_eq_some_iff.mp hx).1
    have tk : x.cps.toList.take (i + 1) = x.cps.toList.take i ++ [c] := by rw [List.take_succ, hx]; rfl
    refine ⟨hw _, hs i c H' _ hx g fun H4 g4 => ?_⟩
    have g5 := g.trans g4
    refine ite2 (fun h => ?_) (fun h => ?_)
    · refine ⟨_, hv _, ys, g4.lst hL, by rw [sizeLine_eq]; omega, ys ++ [.str ⟨#[c]⟩], g5.upd' hD, upd_same, by rw [List.length_append]; exact Nat.succ_le_succ hn, ?_⟩
      have h' : f c = false := by simpa using h
      rw [tk, List.all_append, show ([c] : List Nat).all f = false by rw [List.all_cons, h']; rfl, Bool.and_false]
      exact decide_eq_false (by simp)
    · refine ⟨ys, g5, g4.lst hL, Nat.le_succ_of_le hn, ?_⟩
      have h' : f c = true := by simpa using h
      rw [tk, List.all_append, show ([c] : List Nat).all f = true by rw [List.all_cons, h']; rfl, Bool.and_true]
      exact hq
  · rintro H' ⟨ys, g, hL, _, hq⟩
    rw [List.take_length] at hq
    exact hd H' ys g hL hq
/-- the law's words: None at the end -/
def nV (w : Str) : V := if w = "" then .non else .str w
def LAt (H : Hp) (ws : List V) (W : WC) : Prop := ws.length = W.length ∧ ∀ (j c : Nat) (x : Str), W[j]? = some (c, x) → ∃ t : Addr, ws[j]? = some (V.ref t) ∧ H t = some (.tup [nV x, .int (c : Nat)])
theorem LAt.m {S : List Addr} {H H' : Hp} {ws : List V} {W : WC} (h : LAt H ws W) (g : GrM S H H') : LAt H' ws W := ⟨h.1, fun j c x e => by
  obtain ⟨t, h1, h2⟩ := h.2 j c x e
  exact ⟨t, h1, g.tup h2⟩⟩
theorem LAt.nil {H : Hp} : LAt H [] [] := ⟨rfl, fun j c x e => by simp at e⟩
theorem LAt.snoc {H : Hp} {ws : List V} {W : WC} {t : Addr} {c : Nat} {x : Str} (h : LAt H ws W) (ht : H t = some (.tup [nV x, .int (c : Nat)])) : LAt H (ws ++ [V.ref t]) (W ++ [(c, x)]) := by
  refine ⟨by rw [List.length_append, List.length_append, h.1]; rfl, fun j c' y e => ?_⟩
  by_cases hj : j < W.length
  · rw [List.getElem?_append_left hj] at e
    obtain ⟨t', h1, h2⟩ := h.2 j c' y e
    exact ⟨t', by rw [List.getElem?_append_left (by rw [h.1]; exact hj)]; exact h1, h2⟩
  · rw [List.getElem?_append_right (by omega)] at e
    have e0 : j - W.length = 0 := by
      have := (List.getElem?_eq_some_iff.mp e).1
      simp at this
      omega
    rw [e0] at e
    cases e
    refine ⟨t, ?_, ht⟩
    rw [List.getElem?_append_right (by rw [h.1]; omega), h.1, e0]; rfl
def spLWords : Sp := fun vs H Q _ => ∃ x : Str, vs = [.str x] ∧ x.length ≤ 900000 ∧ ∀ l ws H', Gr H H' → H l = none → H' l = some (.lst ws) → LAt H' ws (wc x) → (wc x).length ≤ 900002 → Q (.ref l) H'
def spLName : Sp := fun vs H Q _ => ∃ (w : Str) (m : Nat), vs = [nV w, .int (m : Nat)] ∧ (m = 8 ∨ m = 12) ∧ w.length ≤ 900000 ∧ ∀ H', Gr H H' → Q (.bl (if m = 8 then isNm w else isWs w)) H'
def spLCost : Sp := fun vs H Q _ => ∃ w : Str, vs = [nV w] ∧ w.length ≤ 900000 ∧ ∀ H', Gr H H' → Q (.bl (isCo w)) H'
theorem az_facts : ∀ c ∈ wordsC, (decide (c ∈ azs)) = !decide (c ∈ digs) := by decide +kernel
theorem nV_ne {w : Str} (h : w ≠ "") : nV w = .str w := if_neg h
theorem nV_no : nV "" = .non := if_pos rfl
section
variable {P : Program} {w : World} {K : PySem.W.Frag} {mg : Str → Option Value} {base : Heap}
theorem ok_lwords {fd : FuncData} (F : FnP K "_law_words" s__law_words fd) (T : TY K mg) : FnOk P w K mg base CX0 1 (He.fAd K ("_law_words", none)) fd p__law_words spLWords := by
  refine okP F sc__law_words (fun vs H Q E h => by obtain ⟨s, rfl, _⟩ := h; rfl) (fun A outer s H vs Q E hr h => ?_)
  obtain ⟨x, rfl, hx, k⟩ := h
  refine ⟨_, (pss_cons (ps_par (i := 1) (j := 2) (by rfl) sc__law_words.nd rfl rfl (by decide) rfl rfl (pa_cons (pe_lst pa_nil) (pa_cons pe_int pa_nil)) (by rfl))
      (pss_cons (ps_for PassesOwn.never rfl (k_list (K := K) rfl (pe_split (pv 0) pe_str)) (pg_name (i := 3) sc__law_words.nd rfl (by first | exact Or.inl rfl | exact Or.inr rfl))
      (C8.pss_cut (ps_if (pt_cmpR (u_ne (K := K) rfl hr.units) (pv 3) pe_str (nomark _))
      (pss_one (ps_expr (k_bm (K := K) rfl PySem.F.plainAttrs_list PySem.F.slot_list_append PySem.F.type_list_append mt_append (pv 1) (pa_cons (pe_tup (pa_cons (pv 3) (pa_cons (pv 2) pa_nil))) pa_nil))))
      pss_nil)
      (pss_one (ps_set (i := 2) sc__law_words.nd rfl (by first | exact Or.inl rfl | exact Or.inr rfl) (pe_op (u_add (K := K) rfl) (pe_op (u_add (K := K) rfl) (pv 2) (pe_callB (k_len (K := K) rfl) rfl T.b_len (by decide +kernel) (pa_cons (pv 3) pa_nil))) pe_int)))))
      (pss_one (ps_ret (pe_op (u_add (K := K) rfl) (pv 1) (pe_lst (pa_cons (pe_tup (pa_cons pe_non (pa_cons (pe_callB (k_len (K := K) rfl) rfl T.b_len (by decide +kernel) (pa_cons (pv 0) pa_nil)) pa_nil))) pa_nil))))))), ?_⟩
  have sl : (Txt.split x " ").length ≤ 900001 := Nat.le_trans (split_len x) (by omega)
  refine ⟨Nat.zero_le _, fun wl hwl => ?_⟩
  refine newH hwl fun H1 g1 s1 => ?_
  refine ⟨_, _, rfl, ?_⟩
  refine ⟨_, rfl, ⟨_, rfl⟩, x, " ", rfl, rfl, by decide +kernel, by rw [sizeLine_eq]; omega, fun L hL => ?_⟩
  have nL : L ≠ wl := Ne.symm (ne_of_none s1 hL)
  refine newH hL fun H2 g2 s2 => ?_
  have s2w := g2.lst s1
  refine ⟨L, rfl, ⟨_, SqL.of s2⟩, ?_⟩
  have wl2 : ∀ {i : Nat} {ws : List V} {H' : Hp}, LAt H' ws (wcs ((Txt.split x " ").take i) 0) → ws.length ≤ 900001 := fun {i ws H'} ha => by
    rw [ha.1]
    exact Nat.le_trans (wcs_len _ _) (by rw [List.length_take]; omega)
  refine for_list (K := K) (a := L) (xs := strV (Txt.split x " ")) (fun i σ H' => ∃ (ws : List V) (o3 : Option V), σ = [some (.str x), some (.ref wl), some (.int ((pos ((Txt.split x " ").take i) : Nat))), o3] ∧ GrM [wl] H2 H' ∧ H' wl = some (.lst ws) ∧ LAt H' ws (wcs ((Txt.split x " ").take i) 0))
    ⟨[], none, rfl, GrM.refl _ _, s2w, LAt.nil⟩ ?_ ?_ ?_
  · rintro i σ H' _ ⟨ws, o3, rfl, g, _⟩
    exact SqL.of (g.keep (by simpa using nL) s2 (fun _ z => by cases z))
  · rintro i y σ H' hy ⟨ws, o3, rfl, g, hw, ha⟩
    obtain ⟨p, hp, rfl⟩ := str_at hy
    have pl := piece_len (List.mem_of_getElem? hp)
    have wl2 := wl2 ha
    have key := wcs_take hp
    refine ⟨fun σ H' => ∃ (ws : List V), σ = [some (.str x), some (.ref wl), some (.int ((pos ((Txt.split x " ").take i) : Nat))), some (.str p)] ∧ GrM [wl] H2 H' ∧ H' wl = some (.lst ws) ∧ LAt H' ws (wcs ((Txt.split x " ").take (i + 1)) 0), ?_, ?_⟩
    · refine ⟨_, rfl, n_flat rfl ⟨_, rfl, ?_⟩⟩
      rw [dvs]
      by_cases h1 : p = ""
      · rw [decide_eq_true h1]
        rw [if_pos h1, List.append_nil] at key
        refine iteF ⟨_, rfl, g, hw, ?_⟩
        rw [key]
        exact ha
      · rw [decide_eq_false h1]
        rw [if_neg h1] at key
        refine iteT ⟨_, rfl, .inl ⟨rfl, _, SqL.of hw⟩, _, rfl, _, rfl, by show 2 ≤ sizeLine; rw [sizeLine_eq]; decide, fun t ht => ?_⟩
        have nt : t ≠ wl := Ne.symm (ne_of_none hw ht)
        refine newH ht fun H3 g3 s3 => ?_
        have hw3 := g3.lst hw
        refine ⟨wl, _, _, rfl, rfl, hw3, by rw [sizeLine_eq]; omega, ?_⟩
        refine ⟨_, rfl, (g.trans g3.m).upd (by simp) (Mu.lst s2w), upd_same, ?_⟩
        rw [key]
        refine LAt.snoc ?_ (by rw [upd_ne nt, nV_ne h1]; exact s3)
        exact ha.m (S := [wl]) ((g3.m).upd (by simp) (Mu.lst hw))
    · rintro σ H3 ⟨ws, rfl, g, hw, ha⟩
      refine ⟨_, rfl, _, rfl, _, _, rfl, ⟨by rw [sizeLine_eq]; omega, rfl⟩, a_ii (a_ii ?_)⟩
      have e : ((pos ((Txt.split x " ").take i) : Nat) : Int) + ((p.length : Nat) : Int) + 1 = ((pos ((Txt.split x " ").take (i + 1)) : Nat) : Int) := by
        rw [pos_take hp]; omega
      exact ⟨ws, some (.str p), by rw [← e]; rfl, g, hw, ha⟩
  · rintro σ H' ⟨ws, o3, rfl, g, hw, ha⟩
    have wl2 := wl2 ha
    have ha : LAt H' ws (wcs (Txt.split x " ") 0) := by
      have e : (Txt.split x " ").take (strV (Txt.split x " ")).length = Txt.split x " " := List.take_of_length_le (by unfold strV; rw [List.length_map]; exact Nat.le_refl _)
      rw [e] at ha
      exact ha
    refine ⟨_, rfl, _, rfl, _, _, rfl, ⟨by rw [sizeLine_eq]; omega, rfl⟩, by show 2 ≤ sizeLine; rw [sizeLine_eq]; decide, fun t ht => ?_⟩
    refine newH ht fun H3 g3 s3 => ?_
    refine ⟨by show 1 ≤ sizeLine; rw [sizeLine_eq]; decide, fun l1 hl1 => ?_⟩
    refine newH hl1 fun H4 g4 s4 => ?_
    have g34 := g3.trans g4
    refine a_ll (g34.lst hw) s4 (by rw [sizeLine_eq]; show _ + 1 ≤ _; omega) fun l hl => ?_
    refine newH hl fun H5 g5 s5 => ?_
    have g35 := g34.trans g5
    have gH : Gr H H5 := (((g1.trans g2).m.trans g).trans g35.m).gr (S := [wl]) (by simpa using hwl)
    refine k l (ws ++ [.ref t]) _ gH ?_ s5 ?_ ?_
    · exact ((((g1.trans g2).m.trans g).trans g34.m).gr (S := [wl]) (by simpa using hwl)).free hl
    · show LAt _ _ (wcs (Txt.split x " ") 0 ++ [(x.length, ("" : Str))])
      refine LAt.snoc (c := x.length) (ha.m (g35.m (S := []))) ?_
      rw [nV_no]
      exact (g4.trans g5).tup s3
    · unfold wc
      rw [List.length_append, List.length_singleton]
      have := wcs_len (Txt.split x " ") 0
      omega
theorem ok_lname {fd : FuncData} (F : FnP K "_law_is_name" s__law_is_name fd) (T : TY K mg) : FnOk P w K mg base CX0 1 (He.fAd K ("_law_is_name", none)) fd p__law_is_name spLName := by
  refine okP F sc__law_is_name (fun vs H Q E h => by obtain ⟨w, m, rfl, _⟩ := h; rfl) (fun A outer s H vs Q E hr h => ?_)
  obtain ⟨w, m, rfl, hm, hl, k⟩ := h
  refine ⟨_, (pss_cons (ps_set (i := 2) sc__law_is_name.nd rfl (by first | exact Or.inl rfl | exact Or.inr rfl) pe_str)
      (pss_cons (ps_if (PW.pt (pw_or (pt_cmpR op_isN (pv 0) pe_non (nomark _)) (pw_or (pt_not (pt_chain u_le u_le pe_int (pe_callB (k_len (K := K) rfl) rfl T.b_len (by decide +kernel) (pa_cons (pv 0) pa_nil)) (pv 1))) (pw_or1 (pt_cmpR (u_neW (K := K) rfl hr.units) (pe_lc (own := [("sign", 3)]) (g := gName 3) rfl sc__law_is_name.nd (pi_str (pv 0)) (blkOk_by (own := [("sign", 3)]) (N := n__law_is_name) (sc := defScope s__law_is_name) (by decide +kernel)) (fun _ _ _ _ _ => (pg_name (i := 3) sc__law_is_name.nd rfl (by first | exact Or.inl rfl | exact Or.inr rfl))) (fun _ _ _ _ _ => (pts_one (pt_cmpR (u_ni (K := K) rfl) (pv 3) (pv 2) (by first | exact nomark _ | rfl)))) (fun _ _ _ _ _ => (pv 3))) (pe_lst pa_nil) (nomark _))))))
      (pss_one (ps_ret pe_bl))
      pss_nil)
      (pss_one (ps_ret (pe_or (pe_cmpR u_gt (pv 1) pe_int (nomark _)) (pe_one (pe_cmpR (u_ni (K := K) rfl) (pe_ix (u_ix (K := K) rfl) (pv 0) pe_int (fun _ _ => rfl)) pe_str (by first | exact nomark _ | rfl)))))))), ?_⟩
  have fin : ∀ H', Gr H H' → ∀ b, (if m = 8 then isNm w else isWs w) = b → Q (.bl b) H' := fun H' g b e => e ▸ k H' g
  have m12 : m ≤ 12 := by omega
  by_cases h0 : w = ""
  · subst h0
    rw [nV_no]
    refine ⟨_, rfl, rfl, _, rfl, ?_⟩
    rw [decide_eq_true rfl]
    refine iteT (fin _ (Gr.refl H) false ?_)
    have e1 : isNm "" = false := by decide +kernel
    have e2 : isWs "" = false := by decide +kernel
    rw [e1, e2, ite_self]
  rw [nV_ne h0]
  refine ⟨_, rfl, rfl, _, rfl, ?_⟩
  rw [decide_eq_false (fun z => by cases z)]
  have l1 : 1 ≤ w.length := by
    rcases Nat.eq_zero_or_pos w.length with z | z
    · exact absurd (cp_inj (List.eq_nil_of_length_eq_zero (by rw [cp_len]; exact z))) h0
    · exact z
  refine iteF ⟨_, rfl, _, _, rfl, ⟨by rw [sizeLine_eq]; omega, rfl⟩, le_ii ⟨_, rfl, ?_⟩⟩
  rw [decide_eq_true (show (1 : Int) ≤ ((w.length : Nat) : Int) by omega)]
  refine iteT ⟨_, rfl, le_ii ⟨_, rfl, ?_⟩⟩
  by_cases h2 : w.length ≤ m
  rotate_left
  · rw [decide_eq_false (show ¬ ((w.length : Nat) : Int) ≤ ((m : Nat) : Int) by omega)]
    refine iteT (fin _ (Gr.refl H) false ?_)
    split
    · unfold isNm
      rw [decide_eq_false (by omega), Bool.false_and]
    · unfold isWs
      rw [decide_eq_false (by omega), Bool.false_and]
  rw [decide_eq_true (show ((w.length : Nat) : Int) ≤ ((m : Nat) : Int) by omega)]
  refine iteF ⟨_, rfl, w, rfl, fun D hD => ?_⟩
  refine lc_badS (x := w) (f := fun c => decide (c ∈ wordsC)) (j := 3) hD (by omega) (fun _ => rfl) (fun _ => rfl) (fun i c H' C hc g kk => ⟨_, rfl, _, rfl, ni_sign ⟨_, rfl, kk _ (Gr.refl _)⟩⟩) (fun H2 ys g2 hL hq => ?_)
  refine ⟨Nat.zero_le _, fun l0 hl0 => ?_⟩
  refine newH hl0 fun H3 g3 s3 => ?_
  have G3 := g2.trans g3
  refine wn_nil (SqL.of (g3.lst hL)) (SqL.of s3) ⟨_, rfl, ?_⟩
  rw [hq]
  have eW : m = 12 → isWs w = w.cps.toList.all fun c => decide (c ∈ wordsC) := fun e => by
    unfold isWs
    rw [decide_eq_true ⟨l1, by omega⟩, Bool.true_and]
  cases ha : w.cps.toList.all fun c => decide (c ∈ wordsC) with
  | false =>
    refine iteT (fin _ G3 false ?_)
    split
    · unfold isNm
      rw [ha, Bool.and_false, Bool.and_false]
    · rename_i m8
      rw [eW (by omega), ha]
  | true =>
    refine iteF ⟨_, rfl, gt_ii ?_⟩
    by_cases m8 : m = 8
    · rw [if_pos m8] at fin
      rw [decide_eq_false (by omega)]
      refine ⟨_, rfl, iteF ?_⟩
      obtain ⟨c, r, hd⟩ : ∃ c r, w.cps.toList = c :: r := by
        cases e : w.cps.toList with
        | nil => exact absurd (cp_inj (show cp w = cp "" from e)) h0
        | cons c r => exact ⟨c, r, rfl⟩
      have e2 : w.cps.toList[0]? = some c := by rw [hd]; rfl
      refine ⟨_, rfl, x_s (by rw [sizeLine_eq]; omega) (atI_nat (j := 0) e2) (ni_sign (fin _ G3 _ ?_))⟩
      unfold isNm
      have hc : c ∈ wordsC := of_decide_eq_true (List.all_eq_true.mp ha c (by rw [hd]; exact List.mem_cons_self))
      rw [ha, decide_eq_true ⟨l1, by omega⟩, hd, Bool.true_and, Bool.and_true]
      exact az_facts c hc
    · rw [if_neg m8] at fin
      rw [decide_eq_true (by omega)]
      refine ⟨_, rfl, iteT (fin _ G3 true ?_)⟩
      rw [eW (by omega), ha]
theorem ok_lcost {fd : FuncData} (F : FnP K "_law_is_cost" s__law_is_cost fd) (T : TY K mg) : FnOk P w K mg base CX0 1 (He.fAd K ("_law_is_cost", none)) fd p__law_is_cost spLCost := by
  refine okP F sc__law_is_cost (fun vs H Q E h => by obtain ⟨w, rfl, _⟩ := h; rfl) (fun A outer s H vs Q E hr h => ?_)
  obtain ⟨w, rfl, hl, k⟩ := h
  refine ⟨_, (pss_cons (ps_if (PW.pt (pw_or (pt_cmpR op_isN (pv 0) pe_non (nomark _)) (pw_or (pt_not (pt_chain u_le u_le pe_int (pe_callB (k_len (K := K) rfl) rfl T.b_len (by decide +kernel) (pa_cons (pv 0) pa_nil)) pe_int)) (pw_or1 (pt_cmpR (u_neW (K := K) rfl hr.units) (pe_lc (own := [("sign", 1)]) (g := gName 1) rfl sc__law_is_cost.nd (pi_str (pv 0)) (blkOk_by (own := [("sign", 1)]) (N := n__law_is_cost) (sc := defScope s__law_is_cost) (by decide +kernel)) (fun _ _ _ _ _ => (pg_name (i := 1) sc__law_is_cost.nd rfl (by first | exact Or.inl rfl | exact Or.inr rfl))) (fun _ _ _ _ _ => (pts_one (pt_cmpR (u_ni (K := K) rfl) (pv 1) pe_str (by first | exact nomark _ | rfl)))) (fun _ _ _ _ _ => (pv 1))) (pe_lst pa_nil) (nomark _))))))
      (pss_one (ps_ret pe_bl))
      pss_nil)
      (pss_one (ps_ret (pe_and (pe_or (pe_cmpR (u_eqW (K := K) rfl hr.units) (pv 0) pe_str (nomark _)) (pe_one (pe_cmpR (u_neW (K := K) rfl hr.units) (pe_ix (u_ix (K := K) rfl) (pv 0) pe_int (fun _ _ => rfl)) pe_str (nomark _)))) (pe_one (pe_cmpR u_le (pe_callTy call_int_str rfl T.b_int (by decide +kernel) (pa_cons (pv 0) pa_nil)) pe_int (nomark _))))))), ?_⟩
  have fin : ∀ H', Gr H H' → ∀ b, isCo w = b → Q (.bl b) H' := fun H' g b e => e ▸ k H' g
  by_cases h0 : w = ""
  · subst h0
    rw [nV_no]
    refine ⟨_, rfl, rfl, _, rfl, ?_⟩
    rw [decide_eq_true rfl]
    exact iteT (fin _ (Gr.refl H) false (by decide +kernel))
  rw [nV_ne h0]
  refine ⟨_, rfl, rfl, _, rfl, ?_⟩
  rw [decide_eq_false (fun z => by cases z)]
  have l1 : 1 ≤ w.length := by
    rcases Nat.eq_zero_or_pos w.length with z | z
    · exact absurd (cp_inj (List.eq_nil_of_length_eq_zero (by rw [cp_len]; exact z))) h0
    · exact z
  refine iteF ⟨_, rfl, _, _, rfl, ⟨by rw [sizeLine_eq]; omega, rfl⟩, le_ii ⟨_, rfl, ?_⟩⟩
  rw [decide_eq_true (show (1 : Int) ≤ ((w.length : Nat) : Int) by omega)]
  refine iteT (le_ii ⟨_, rfl, ?_⟩)
  by_cases h2 : w.length ≤ 4
  rotate_left
  · rw [decide_eq_false (show ¬ ((w.length : Nat) : Int) ≤ 4 by omega)]
    refine iteT (fin _ (Gr.refl H) false ?_)
    unfold isCo
    rw [decide_eq_false (by omega), Bool.false_and]
  rw [decide_eq_true (show ((w.length : Nat) : Int) ≤ 4 by omega)]
  refine iteF ⟨_, rfl, w, rfl, fun D hD => ?_⟩
  refine lc_badS (x := w) (f := fun c => decide (c ∈ digs)) (j := 1) hD (by omega) (fun _ => rfl) (fun _ => rfl) (fun i c H' C hc g kk => ⟨_, rfl, ni_sign ⟨_, rfl, kk _ (Gr.refl _)⟩⟩) (fun H2 ys g2 hL hq => ?_)
  refine ⟨Nat.zero_le _, fun l0 hl0 => ?_⟩
  refine newH hl0 fun H3 g3 s3 => ?_
  have G3 := g2.trans g3
  refine wn_nil (SqL.of (g3.lst hL)) (SqL.of s3) ⟨_, rfl, ?_⟩
  rw [hq]
  have eC : isCo w = (((cp w).all fun c => decide (c ∈ digs)) && (plainN (cp w) && decide (cv w ≤ 1000))) := by
    unfold isCo
    rw [decide_eq_true ⟨l1, h2⟩, Bool.true_and]
  cases ha : w.cps.toList.all fun c => decide (c ∈ digs) with
  | false =>
    refine iteT (fin _ G3 false ?_)
    rw [eC, show ((cp w).all fun c => decide (c ∈ digs)) = false from ha, Bool.false_and]
  | true =>
    rw [show ((cp w).all fun c => decide (c ∈ digs)) = true from ha, Bool.true_and] at eC
    have had : ∀ c ∈ cp w, c ∈ digs := fun c hc => of_decide_eq_true (List.all_eq_true.mp ha c hc)
    obtain ⟨c1, c2, _⟩ := co_read l1 h2 had
    obtain ⟨c, r, hd⟩ : ∃ c r, w.cps.toList = c :: r := by
      cases e : w.cps.toList with
      | nil => exact absurd (cp_inj (show cp w = cp "" from e)) h0
      | cons c r => exact ⟨c, r, rfl⟩
    have hd' : cp w = c :: r := hd
    have e2 : w.cps.toList[0]? = some c := by rw [hd]; rfl
    refine iteF ⟨_, rfl, we_flat rfl ?_⟩
    rw [dvs]
    by_cases hz : w = "0"
    · rw [decide_eq_true hz]
      refine ⟨_, rfl, iteT ⟨_, rfl, iteT ⟨_, rfl, _, _, rfl, c1, by omega, le_ii (fin _ G3 _ ?_)⟩⟩⟩
      rw [eC, hz]; decide +kernel
    · rw [decide_eq_false hz]
      refine ⟨_, rfl, iteF ⟨_, rfl, x_s (by rw [sizeLine_eq]; omega) (atI_nat (j := 0) e2) (wn_flat rfl ?_)⟩⟩
      rw [dvs]
      have e1 : decide ((⟨#[c]⟩ : Str) = "0") = decide (c = 48) := by
        rw [decide_eq_decide]
        exact ⟨fun z => by have := congrArg cp z; exact List.cons.inj this |>.1, fun z => by rw [z]; rfl⟩
      rw [e1]
      by_cases c0 : c = 48
      · rw [decide_eq_true c0]
        refine ⟨_, rfl, iteF (fin _ G3 false ?_)⟩
        have p : plainN (cp w) = false := by
          unfold plainN
          have l : (cp w).length ≠ 1 := fun z => hz (cp_inj (by
            rw [hd'] at z ⊢
            rw [List.eq_nil_of_length_eq_zero (Nat.succ.inj z), c0]; rfl))
          rw [decide_eq_false l, hd', c0]; rfl
        rw [eC, p, Bool.false_and]
      · rw [decide_eq_false c0]
        refine ⟨_, rfl, iteT ⟨_, rfl, _, _, rfl, c1, by omega, le_ii (fin _ G3 _ ?_)⟩⟩
        have p : plainN (cp w) = true := by
          unfold plainN
          rw [hd', Bool.or_eq_true]
          exact .inr (decide_eq_true fun z => c0 (Option.some.inj z))
        rw [eC, p, Bool.true_and, decide_eq_decide]
        omega
end
end Vf
end
section
set_option Elab.async false
set_option linter.all false
set_option maxRecDepth 100000
set_option maxHeartbeats 4000000
namespace Vf
open PySem PySem.Spec PyProof.Rows L2 GxR GenW RZ
abbrev s__law_read_form : Stmt := top 58
abbrev n__law_read_form : List Str := ["words", "taken", "place", "signs", "part", "many", "is_there", "sign", "turn"]
abbrev p__law_read_form : List Str := ["words", "taken"]
theorem sc__law_read_form : FnScope n__law_read_form p__law_read_form (defScope s__law_read_form) := ⟨rfl, rfl, rfl, by decide +kernel, rfl, by decide +kernel, by decide +kernel⟩

theorem sg_tab : ((List.range 127).all fun c => !sgnC c || (decide (c = 37) || decide ((⟨#[c]⟩ : Str) ∈ allS))) = true := by decide +kernel
theorem sg_all {x : Str} (h : 37 ∉ cp x) : decide (x ∈ allS) = isSg x := by
  rw [Bool.eq_iff_iff, decide_eq_true_eq]
  refine ⟨fun z => (allS_facts.2 x z).1, fun z => ?_⟩
  obtain ⟨c, rfl, hc⟩ := isSg_one z
  have c7 : c ≠ 37 := fun y => h (by rw [y]; exact List.mem_singleton.mpr rfl)
  have c1 : c < 127 := by
    unfold sgnC at hc
    rw [Bool.and_eq_true, Bool.and_eq_true] at hc
    have := of_decide_eq_true hc.2.1
    omega
  have q := List.all_eq_true.mp sg_tab c (List.mem_range.mpr c1)
  rw [Bool.or_eq_true, Bool.or_eq_true, hc] at q
  rcases q with q | q | q
  · cases q
  · exact absurd (of_decide_eq_true q) c7
  · exact of_decide_eq_true q
/-- [x for x in a list of texts if x != ''] -/
theorem lc_neL {K : PySem.W.Frag} {a : Addr} {us : List Str} {j : Nat} {tt : TT} {σ : L2.St} {H1 : Hp} {D : Addr} {Qd : Hp → Prop} (hD : H1 D = none) (hS : H1 a = some (.lst (strV us))) (hln : us.length ≤ 1000)
    (hw : ∀ x, wipe ((wipe σ [j]).set j (some x)) [j] = wipe σ [j]) (hv : ∀ x, ((wipe σ [j]).set j (some x))[j]? = some (some x))
    (hs : ∀ (x : Str) (H' : Hp) (C : Bool → Hp → Prop), C (!decide (x = "")) H' → tt ((wipe σ [j]).set j (some (.str x))) H' C)
    (hd : ∀ H' ys, Gr H1 H' → H' D = some (.lst ys) → (decide (ys = []) = em us) → Qd H') :
    ∃ W : Nat → Nat → Hp → Prop, (∃ m, W 0 m (upd H1 D (.lst []))) ∧ ∀ i m H, W i m H →
      ((Itl K a).stop i H ∧ Qd H) ∨ ((Itl K a).go i H ∧ ∃ Nx : Hp → Prop, (∀ H', Nx H' → ∃ m', m' < m ∧ W (i + 1) m' H') ∧ ∀ x H', (Itl K a).yld i H x H' → gName j x (wipe σ [j]) H' fun σ2 H2 => wipe σ2 [j] = wipe σ [j] ∧ tt σ2 H2 fun b H3 =>
        if b = true then tVar j σ2 H3 fun y H4 => ∃ acc, H4 D = some (.lst acc) ∧ acc.length < sizeLine ∧ Nx (upd H4 D (.lst (acc ++ [y]))) else Nx H3) := by
  have hl : (strV us).length = us.length := List.length_map _
  refine lc_list (K := K) (a := a) (xs := strV us) (fun i H' => ∃ ys, Gr H1 H' ∧ H' D = some (.lst ys) ∧ ys.length ≤ i ∧ decide (ys = []) = em (us.take i)) ⟨[], Gr.new hD, upd_same, Nat.le_refl _, rfl⟩ ?_ ?_ ?_
  · rintro i H' _ ⟨ys, g, _⟩
    exact SqL.of (g.lst hS)
  · rintro i x H' hx ⟨ys, g, hL, hn, hq⟩
    obtain ⟨z, hz, rfl⟩ := str_at hx
    have hi := (List.getElem?_eq_some_iff.mp hz).1
    have tk : us.take (i + 1) = us.take i ++ [z] := by rw [List.take_succ, hz]; rfl
    have eA : em (us.take (i + 1)) = (em (us.take i) && decide (z = "")) := by
      rw [tk]
      unfold em
      rw [List.all_append, List.all_cons, List.all_nil, Bool.and_true]
    refine ⟨hw _, hs z H' _ (ite2 (fun h => ?_) (fun h => ?_))⟩
    · refine ⟨_, hv _, ys, hL, by rw [sizeLine_eq]; omega, ys ++ [.str z], g.upd' hD, upd_same, by rw [List.length_append]; exact Nat.succ_le_succ hn, ?_⟩
      have h' : decide (z = "") = false := by simpa using h
      rw [eA, h', Bool.and_false]
      exact decide_eq_false (by simp)
    · refine ⟨ys, g, hL, Nat.le_succ_of_le hn, ?_⟩
      have h' : decide (z = "") = true := by simpa using h
      rw [eA, h', Bool.and_true]
      exact hq
  · rintro H' ⟨ys, g, hL, _, hq⟩
    rw [hl, List.take_length] at hq
    exact hd H' ys g hL hq
def endR (nm : Str) (acc : List Str) (r : WC) : Except Nat (List Str) := bnd (rdEnd nm acc r) fun q => only q.2 q.1
def kR (nm : Str) (i : Nat) (q : List Str × WC) : Except Nat (List Str) := bnd (rdPs i (parts.drop i) q.1 q.2) fun q => endR nm q.1 q.2
def formR (taken : List Str) (r : WC) : Except Nat (List Str) := bnd (rdForm taken r) fun q => only q.2 q.1
theorem formR_cons (taken : List Str) (c : Nat) (w : Str) (r : WC) : formR taken ((c, w) :: r) = if isNm w = true ∧ w ≠ "plain" ∧ w ∉ taken then kR w 0 ([], r) else .error c := by
  unfold formR
  rw [rdForm_cons]
  split
  · unfold kR endR
    rw [bnd_bnd]; rfl
  · rfl
theorem endR_cons {nm : Str} {acc : List Str} {c : Nat} {w : Str} {r : WC} (h8 : acc.length = 8) (h7 : acc.getD 7 "" ≠ "" → em (acc.take 7) = false) : endR nm acc ((c, w) :: r) = if w = "" ∧ decide (acc.getD 7 "" = "") = em (acc.take 7) then .ok (nm :: acc) else .error c := by
  unfold endR
  rw [rdEnd_cons]
  have sp8 : acc = acc.take 7 ++ [acc.getD 7 ""] := by
    conv => lhs; rw [← List.take_append_drop 7 acc]
    congr 1
    rw [List.drop_eq_getElem_cons (by omega), List.drop_eq_nil_of_le (by omega), List.getD_eq_getElem?_getD, List.getElem?_eq_getElem (by omega)]; rfl
  have e1 : em acc = (em (acc.take 7) && decide (acc.getD 7 "" = "")) := by
    conv => lhs; rw [sp8]
    unfold em
    rw [List.all_append, List.all_cons, List.all_nil, Bool.and_true]
  by_cases z : acc.getD 7 "" = ""
  · rw [decide_eq_true z, Bool.and_true] at e1
    rw [e1, decide_eq_true z]
    cases hb : em (acc.take 7) with
    | true =>
      rw [if_pos (Or.inr rfl)]
      show only ((c, w) :: r) (nm :: acc) = _
      rw [only_cons]
      by_cases hw : w = ""
      · rw [if_pos hw, if_pos ⟨hw, rfl⟩]
      · rw [if_neg hw, if_neg fun y => hw y.1]
    | false =>
      rw [if_neg (fun y => by
        rcases y with y | y
        · exact y z
        · cases y), if_neg fun y => by cases y.2]
      rfl
  · rw [if_pos (Or.inl z), decide_eq_false z, h7 z]
    show only ((c, w) :: r) (nm :: acc) = _
    rw [only_cons]
    by_cases hw : w = ""
    · rw [if_pos hw, if_pos ⟨hw, rfl⟩]
    · rw [if_neg hw, if_neg fun y => hw y.1]
/-- what the law's reading comes to -/
def LE (Q : VK) (W : WC) (H : Hp) (val : Addr → Hp → α → Prop) (res : Except Nat α) : Prop := match res with
  | .ok f => ∀ t f1 H', Gr H H' → H' t = some (.tup [.ref f1, .non]) → val f1 H' f → Q (.ref t) H'
  | .error e => ∀ (t : Addr) (j : Nat) H', Gr H H' → H' t = some (.tup [.non, .int (j : Nat)]) → (∃ w, W[j]? = some (e, w)) → Q (.ref t) H'
theorem LE.gr {α : Type} {Q : VK} {W : WC} {H H1 : Hp} {val : Addr → Hp → α → Prop} {res : Except Nat α} (h : LE Q W H val res) (g : Gr H H1) : LE Q W H1 val res := by
  cases res with
  | ok f => exact fun t f1 H' g' => h t f1 H' (g.trans g')
  | error e => exact fun t j H' g' => h t j H' (g.trans g')
theorem LE.er {α : Type} {Q : VK} {W : WC} {H H1 : Hp} {val : Addr → Hp → α → Prop} {e j : Nat} {w : Str} (h : LE Q W H val (.error e : Except Nat α)) (g : Gr H H1) (hj : W[j]? = some (e, w)) : 2 ≤ sizeLine ∧ ∀ t, H1 t = none → Q (.ref t) (upd H1 t (.tup [.non, .int (j : Nat)])) :=
  ⟨by rw [sizeLine_eq]; decide, fun t ht => newH ht fun H2 g2 s2 => h t j H2 (g.trans g2) s2 ⟨w, hj⟩⟩
def fVal (f1 : Addr) (H : Hp) (f : List Str) : Prop := H f1 = some (.tup (strV f))
def spLForm : Sp := fun vs H Q _ => ∃ (a tl : Addr) (ws : List V) (W : WC) (c0 : Nat) (w0 : Str) (rest : WC) (taken : List Str), vs = [.ref a, .ref tl] ∧ H a = some (.lst ws) ∧ LAt H ws W ∧ W = (c0, w0) :: rest ∧ WL rest ∧ H tl = some (.lst (strV taken)) ∧ taken.length ≤ 1000 ∧ LE Q W H fVal (formR taken rest)
end Vf
end
section
set_option Elab.async false
set_option linter.all false
set_option maxRecDepth 100000
set_option maxHeartbeats 4000000
namespace Vf
open PySem PySem.Spec PyProof.Rows L2 GxR GenW RZ
theorem nV_eq {w z : Str} (h : z ≠ "") : decide (nV w = V.str z) = decide (w = z) := by
  by_cases e : w = ""
  · rw [e, nV_no, decide_eq_false (fun y => by cases y), decide_eq_false (fun y => h y.symm)]
  · rw [nV_ne e, dvs]
theorem nV_non {w : Str} : decide (nV w = V.non) = decide (w = "") := by
  by_cases e : w = ""
  · rw [e, nV_no, decide_eq_true rfl, decide_eq_true rfl]
  · rw [nV_ne e, decide_eq_false (fun y => by cases y), decide_eq_false e]
theorem nV_flat (w : Str) : flatV (nV w) = true := by
  unfold nV
  split <;> rfl
theorem nV_scal (w z : Str) : scal (nV w) (.str z) = true := by
  unfold nV
  split <;> rfl
theorem inV_nV {w : Str} {l : List Str} (h : ("" : Str) ∉ l) : inV (nV w) (strV l) = decide (w ∈ l) := by
  by_cases e : w = ""
  · subst e
    rw [nV_no, decide_eq_false h]
    unfold strV
    induction l with
    | nil => rfl
    | cons a r ih => exact ih fun z => h (List.mem_cons_of_mem _ z)
  · rw [nV_ne e, Bool.eq_iff_iff, inV_str, decide_eq_true_eq]
abbrev plS : List Str := ["plain"]
theorem allS_ne : ("" : Str) ∉ allS := by decide +kernel
theorem parts_esc : ∀ (k : Nat) (w : Str) (ps : List Nat), parts[k]? = some (w, ps) → decide (w = "escape") = decide (k = 5) := by
  intro k w ps h
  match k, parts_lt h, h with
  | 0, _, h => cases h; decide +kernel
  | 1, _, h => cases h; decide +kernel
  | 2, _, h => cases h; decide +kernel
  | 3, _, h => cases h; decide +kernel
  | 4, _, h => cases h; decide +kernel
  | 5, _, h => cases h; decide +kernel
section
variable {P : Program} {w : World} {K : PySem.W.Frag} {mg : Str → Option Value} {base : Heap}
theorem ok_lform {fd : FuncData} (F : FnP K "_law_read_form" s__law_read_form fd) (T : TY K mg) (D__law_is_name : Df P w K mg base "_law_is_name" 1 p__law_is_name spLName) (D__law_all_signs : Df P w K mg base "_law_all_signs" 1 p__law_all_signs spAll) : FnOk P w K mg base CX0 2 (He.fAd K ("_law_read_form", none)) fd p__law_read_form spLForm := by
  refine okP F sc__law_read_form (fun vs H Q E h => by obtain ⟨a, tl, ws, W, c0, w0, rest, taken, rfl, _⟩ := h; rfl) (fun A outer s H vs Q E hr h => ?_)
  obtain ⟨a, tl, ws, W, c0, w0, rest, taken, rfl, hA, hL, eW, hWl, hTl, hlen, kk⟩ := h
  refine ⟨_, (pss_cons (ps_if (PW.pt (pw_or (pt_not (pt_val (pe_fn D__law_is_name hr (by decide) rfl (pa_cons (pe_ix (u_ix (K := K) rfl) (pe_ix (u_ix (K := K) rfl) (pv 0) pe_int (fun _ _ => rfl)) pe_int (fun _ _ => rfl)) (pa_cons pe_int pa_nil))))) (pw_or1 (pt_cmpR (u_in (K := K) rfl) (pe_ix (u_ix (K := K) rfl) (pe_ix (u_ix (K := K) rfl) (pv 0) pe_int (fun _ _ => rfl)) pe_int (fun _ _ => rfl)) (pe_op (u_add (K := K) rfl) (pv 1) (pe_lst (pa_cons pe_str pa_nil))) (by first | exact nomark _ | rfl)))))
      (pss_one (ps_ret (pe_tup (pa_cons pe_non (pa_cons pe_int pa_nil)))))
      pss_nil)
      (pss_cons (ps_par (i := 2) (j := 3) (by rfl) sc__law_read_form.nd rfl rfl (by decide) rfl rfl (pa_cons pe_int (pa_cons (pe_lst pa_nil) pa_nil)) (by rfl))
      (pss_cons (ps_for PassesOwn.never rfl (k_tup (K := K) rfl (pe_tup (pa_cons (pe_tup (pa_cons pe_str (pa_cons pe_int pa_nil))) (pa_cons (pe_tup (pa_cons pe_str (pa_cons pe_int pa_nil))) (pa_cons (pe_tup (pa_cons pe_str (pa_cons pe_int pa_nil))) (pa_cons (pe_tup (pa_cons pe_str (pa_cons pe_int pa_nil))) (pa_cons (pe_tup (pa_cons pe_str (pa_cons pe_int pa_nil))) (pa_cons (pe_tup (pa_cons pe_str (pa_cons pe_int pa_nil))) pa_nil)))))))) (kg_tup 2 (K := K) rfl rfl (pgs_cons (pg_name (i := 4) sc__law_read_form.nd rfl (by first | exact Or.inl rfl | exact Or.inr rfl)) (pgs_cons (pg_name (i := 5) sc__law_read_form.nd rfl (by first | exact Or.inl rfl | exact Or.inr rfl)) pgs_nil)))
      (pss_cons (ps_set (i := 6) sc__law_read_form.nd rfl (by first | exact Or.inl rfl | exact Or.inr rfl) (pe_cmpR (u_eqW (K := K) rfl hr.units) (pe_ix (u_ix (K := K) rfl) (pe_ix (u_ix (K := K) rfl) (pv 0) (pv 2) (fun _ _ => rfl)) pe_int (fun _ _ => rfl)) (pv 4) (nomark _)))
      (C8.pss_cut (ps_if (PW.pt (pw_and (k_truth (K := K) rfl (pv 6) (by intro _; rfl)) (pw_and (pt_cmpR (u_eqW (K := K) rfl hr.units) (pv 4) pe_str (nomark _)) (pw_and1 (pt_cmpR (u_eqW (K := K) rfl hr.units) (pe_lc (own := [("sign", 7)]) (g := gName 7) rfl sc__law_read_form.nd (k_list (K := K) rfl (pv 3)) (blkOk_by (own := [("sign", 7)]) (N := n__law_read_form) (sc := defScope s__law_read_form) (by decide +kernel)) (fun _ _ _ _ _ => (pg_name (i := 7) sc__law_read_form.nd rfl (by first | exact Or.inl rfl | exact Or.inr rfl))) (fun _ _ _ _ _ => (pts_one (pt_cmpR (u_neW (K := K) rfl hr.units) (pv 7) pe_str (nomark _)))) (fun _ _ _ _ _ => (pv 7))) (pe_lst pa_nil) (nomark _))))))
      (pss_one (ps_ret (pe_tup (pa_cons pe_non (pa_cons (pv 2) pa_nil)))))
      pss_nil)
      (pss_cons (ps_set (i := 2) sc__law_read_form.nd rfl (by first | exact Or.inl rfl | exact Or.inr rfl) (pe_op (u_add (K := K) rfl) (pv 2) (pe_callTy call_int1 rfl T.b_int (by decide +kernel) (pa_cons (pv 6) pa_nil))))
      (pss_one (ps_for PassesOwn.never rfl (pi_range1 rfl T.b_range (pa_cons (pv 5) pa_nil)) (pg_name (i := 8) sc__law_read_form.nd rfl (by first | exact Or.inl rfl | exact Or.inr rfl))
      (C8.pss_cut (ps_if (k_truth (K := K) rfl (pv 6) (by intro _; rfl))
      (pss_one (ps_if (PW.pt (pw_or (pt_cmpR (u_ni (K := K) rfl) (pe_ix (u_ix (K := K) rfl) (pe_ix (u_ix (K := K) rfl) (pv 0) (pv 2) (fun _ _ => rfl)) pe_int (fun _ _ => rfl)) (pe_fn0 D__law_all_signs hr (by decide) rfl) (by first | exact nomark _ | rfl)) (pw_or1 (pt_cmpR (u_in (K := K) rfl) (pe_ix (u_ix (K := K) rfl) (pe_ix (u_ix (K := K) rfl) (pv 0) (pv 2) (fun _ _ => rfl)) pe_int (fun _ _ => rfl)) (pv 3) (by first | exact nomark _ | rfl)))))
      (pss_one (ps_ret (pe_tup (pa_cons pe_non (pa_cons (pv 2) pa_nil)))))
      pss_nil))
      pss_nil)
      (pss_cons (ps_set (i := 3) sc__law_read_form.nd rfl (by first | exact Or.inl rfl | exact Or.inr rfl) (pe_op (u_add (K := K) rfl) (pv 3) (pe_lst (pa_cons (pe_ifExp (k_truth (K := K) rfl (pv 6) (by intro _; rfl)) (pe_ix (u_ix (K := K) rfl) (pe_ix (u_ix (K := K) rfl) (pv 0) (pv 2) (fun _ _ => rfl)) pe_int (fun _ _ => rfl)) pe_str) pa_nil))))
      (pss_one (ps_set (i := 2) sc__law_read_form.nd rfl (by first | exact Or.inl rfl | exact Or.inr rfl) (pe_op (u_add (K := K) rfl) (pv 2) (pe_callTy call_int1 rfl T.b_int (by decide +kernel) (pa_cons (pv 6) pa_nil)))))))))))))
      (pss_cons (ps_if (PW.pt (pw_or (pt_cmpR op_notN (pe_ix (u_ix (K := K) rfl) (pe_ix (u_ix (K := K) rfl) (pv 0) (pv 2) (fun _ _ => rfl)) pe_int (fun _ _ => rfl)) pe_non (nomark _)) (pw_or1 (pt_cmpR (u_neW (K := K) rfl hr.units) (pe_cmpR (u_eqW (K := K) rfl hr.units) (pe_ix (u_ix (K := K) rfl) (pv 3) pe_int (fun _ _ => rfl)) pe_str (nomark _)) (pe_cmpR (u_eqW (K := K) rfl hr.units) (pe_lc (own := [("sign", 7)]) (g := gName 7) rfl sc__law_read_form.nd (k_list (K := K) rfl (pe_slice (u_sl (K := K) rfl) (pv 3) po_none (po_some pe_int))) (blkOk_by (own := [("sign", 7)]) (N := n__law_read_form) (sc := defScope s__law_read_form) (by decide +kernel)) (fun _ _ _ _ _ => (pg_name (i := 7) sc__law_read_form.nd rfl (by first | exact Or.inl rfl | exact Or.inr rfl))) (fun _ _ _ _ _ => (pts_one (pt_cmpR (u_neW (K := K) rfl hr.units) (pv 7) pe_str (nomark _)))) (fun _ _ _ _ _ => (pv 7))) (pe_lst pa_nil) (nomark _)) (nomark _)))))
      (pss_one (ps_ret (pe_tup (pa_cons pe_non (pa_cons (pv 2) pa_nil)))))
      pss_nil)
      (pss_one (ps_ret (pe_tup (pa_cons (pe_op (u_add (K := K) rfl) (pe_tup (pa_cons (pe_ix (u_ix (K := K) rfl) (pe_ix (u_ix (K := K) rfl) (pv 0) pe_int (fun _ _ => rfl)) pe_int (fun _ _ => rfl)) pa_nil)) (k_tuple (K := K) rfl rfl T.b_tuple (pv 3))) (pa_cons pe_non pa_nil))))))))), ?_⟩
  have sl : ∀ {n : Nat}, n ≤ 1000 → n ≤ sizeLine := fun h => by rw [sizeLine_eq]; omega
  have wd : ∀ {j c : Nat} {x : Str}, W[j]? = some (c, x) → ∃ t, ws[j]? = some (.ref t) ∧ ∀ H', Gr H H' → SqT K H' t [nV x, .int (c : Nat)] := fun e => by
    obtain ⟨t, e1, e2⟩ := hL.2 _ _ _ e
    exact ⟨t, e1, fun H' g => SqT.of (g.tup e2)⟩
  obtain ⟨c1, nm, rest1, rfl, hgo⟩ := hWl.go
  have ln := hWl.len
  have hW1 : W[1]? = some (c1, nm) := by rw [eW]; rfl
  obtain ⟨t1, w1a, w1b⟩ := wd hW1
  rw [formR_cons] at kk
  have bad : ¬ (isNm nm = true ∧ nm ≠ "plain" ∧ nm ∉ taken) → ∀ H2, Gr H H2 → 2 ≤ sizeLine ∧ ∀ t, H2 t = none → Q (.ref t) (upd H2 t (.tup [.non, .int ((1 : Nat))])) := fun no H2 g2 => by
    rw [if_neg no] at kk
    exact kk.er g2 hW1
  refine ⟨_, rfl, x_l (SqL.of hA) (atI_nat (j := 1) w1a) (x_t (w1b _ (Gr.refl H)) (atI_nat (j := 0) rfl) ⟨nm, 8, rfl, .inl rfl, ln, fun H1 g1 => ⟨_, rfl, ?_⟩⟩)⟩
  rw [if_pos rfl]
  by_cases i1 : isNm nm = true
  rotate_left
  · have e1 : isNm nm = false := by simpa using i1
    rw [e1]
    exact iteT (bad (fun z => i1 z.1) _ g1)
  rw [i1]
  have nmne := nm_ne i1
  refine iteF ⟨_, rfl, x_l (SqL.of (g1.lst hA)) (atI_nat (j := 1) w1a) (x_t (w1b _ g1) (atI_nat (j := 0) rfl) ⟨_, rfl, sl (Nat.le_of_ble_eq_true rfl), fun l1 hl1 => ?_⟩)⟩
  refine newH hl1 fun H2 g2 s2 => ?_
  have lT : (strV taken).length = taken.length := List.length_map _
  refine a_ll ((g1.trans g2).lst hTl) s2 (by rw [sizeLine_eq, lT]; show _ + 1 ≤ _; omega) fun l2 hl2 => ?_
  refine newH hl2 fun H3 g3 s3 => ?_
  have G3 := (g1.trans g2).trans g3
  have s3 : H3 l2 = some (.lst (strV (taken ++ plS))) := s3.trans (by unfold strV; rw [List.map_append]; rfl)
  refine in_seq (.inl (SqL.of s3)) (nV_flat nm) (strV_flat _) ⟨_, rfl, ?_⟩
  rw [nV_ne nmne, show inV (.str nm) (strV (taken ++ plS)) = decide (nm ∈ taken ++ plS) by rw [Bool.eq_iff_iff, inV_str, decide_eq_true_eq]]
  by_cases i2 : nm ∈ taken ++ plS
  · rw [decide_eq_true i2]
    refine iteT (bad (fun z => ?_) _ G3)
    rcases List.mem_append.mp i2 with y | y
    · exact z.2.2 y
    · exact z.2.1 (List.mem_singleton.mp y)
  rw [decide_eq_false i2]
  have i2a : nm ≠ "plain" := fun z => i2 (List.mem_append_right _ (List.mem_singleton.mpr z))
  have i2b : nm ∉ taken := fun z => i2 (List.mem_append_left _ z)
  rw [if_pos ⟨i1, i2a, i2b⟩] at kk
  refine iteF ⟨Nat.zero_le _, fun sg hsg => ?_⟩
  refine newH hsg fun H4 g4 s4 => ?_
  refine ⟨_, _, rfl, ?_⟩
  -- the table of the parts
  refine ⟨sl (Nat.le_of_ble_eq_true rfl), fun p0 hp0 => ?_⟩
  refine newH hp0 fun I0 k0 q0 => ?_
  refine ⟨sl (Nat.le_of_ble_eq_true rfl), fun p1 hp1 => ?_⟩
  refine newH hp1 fun I1 k1 q1 => ?_
  refine ⟨sl (Nat.le_of_ble_eq_true rfl), fun p2 hp2 => ?_⟩
  refine newH hp2 fun I2 k2 q2 => ?_
  refine ⟨sl (Nat.le_of_ble_eq_true rfl), fun p3 hp3 => ?_⟩
  refine newH hp3 fun I3 k3 q3 => ?_
  refine ⟨sl (Nat.le_of_ble_eq_true rfl), fun p4 hp4 => ?_⟩
  refine newH hp4 fun I4 k4 q4 => ?_
  refine ⟨sl (Nat.le_of_ble_eq_true rfl), fun p5 hp5 => ?_⟩
  refine newH hp5 fun I5 k5 q5 => ?_
  refine ⟨sl (Nat.le_of_ble_eq_true rfl), fun TT hTT => ?_⟩
  refine newH hTT fun H5 k6 sT => ?_
  have c5 := k6
  have c4 := k5.trans c5
  have c3 := k4.trans c4
  have c2 := k3.trans c3
  have c1' := k2.trans c2
  have c0' := k1.trans c1'
  have G4 := G3.trans g4
  have G5 := (G4.trans k0).trans c0'
  have row : ∀ (i : Nat) (w : Str) (ps : List Nat), parts[i]? = some (w, ps) → ∃ Ti, ([V.ref p0, .ref p1, .ref p2, .ref p3, .ref p4, .ref p5] : List V)[i]? = some (.ref Ti) ∧ ∀ H', Gr H5 H' → SqT K H' Ti [.str w, .int (ps.length : Nat)] := by
    intro i w ps hp
    match i, parts_lt hp, hp with
    | 0, _, hp => cases hp; exact ⟨p0, rfl, fun H' g => SqT.of ((c0'.trans g).tup q0)⟩
    | 1, _, hp => cases hp; exact ⟨p1, rfl, fun H' g => SqT.of ((c1'.trans g).tup q1)⟩
    | 2, _, hp => cases hp; exact ⟨p2, rfl, fun H' g => SqT.of ((c2.trans g).tup q2)⟩
    | 3, _, hp => cases hp; exact ⟨p3, rfl, fun H' g => SqT.of ((c3.trans g).tup q3)⟩
    | 4, _, hp => cases hp; exact ⟨p4, rfl, fun H' g => SqT.of ((c4.trans g).tup q4)⟩
    | 5, _, hp => cases hp; exact ⟨p5, rfl, fun H' g => SqT.of ((c5.trans g).tup q5)⟩
  have hR1 : WL rest1 := (hgo nmne).1
  refine ⟨TT, rfl, ⟨_, SqT.of sT⟩, ?_⟩
  refine for_tup (K := K) (a := TT) (xs := [V.ref p0, .ref p1, .ref p2, .ref p3, .ref p4, .ref p5]) (fun i σ H' => ∃ (pl : Nat) (sg : Addr) (o4 o5 o6 o8 : Option V) (acc : List Str) (rest : WC), σ = [some (.ref a), some (.ref tl), some (.int (pl : Nat)), some (.ref sg), o4, o5, o6, none, o8] ∧ Gr H5 H' ∧
      AccOk acc ∧ WL rest ∧ acc.length + 1 = cnt i ∧ W.drop pl = rest ∧ H' sg = some (.lst (strV acc)) ∧ LE Q W H' fVal (kR nm i (acc, rest)) ∧ (i = 6 → acc.getD 7 "" ≠ "" → em (acc.take 7) = false))
    ⟨2, sg, none, none, none, none, [], rest1, rfl, Gr.refl _, (fun x hx => by cases hx), hR1, rfl, by rw [eW]; rfl, (k0.trans c0').lst s4, kk.gr G5, fun z => by cases z⟩ ?_ ?_ ?_
  · rintro i σ H' _ ⟨pl, sg, o4, o5, o6, o8, acc, rest, rfl, g, _⟩
    exact SqT.of (g.tup sT)
  · rintro i x σ H' hx ⟨pl, sg, o4, o5, o6, o8, acc, rest, rfl, g, ha, hR, hk, hdr, hsgl, ki, _⟩
    have i6 : i < 6 := (List.getElem?_eq_some_iff.mp hx).1
    obtain ⟨w, ps, hp, f1, f2, f3, f4, f5, f6⟩ := parts_facts i i6
    obtain ⟨Ti, r1, r2⟩ := row i w ps hp
    rw [r1] at hx
    cases hx
    have wne : w ≠ "" := parts_ne _ (List.mem_of_getElem? hp)
    obtain ⟨c', w', rest', rfl, hgo'⟩ := hR.go
    have hWp := drop_at hdr
    obtain ⟨tp, wpa, wpb⟩ := wd hWp
    have GH := G5.trans g
    have ed : parts.drop i = (w, ps) :: parts.drop (i + 1) := by
      have hk := List.getElem?_eq_some_iff.mp hp
      rw [List.drop_eq_getElem_cons hk.1, hk.2]
    have ki : LE Q W H' fVal (if w' = w then bnd (rdPart i ps.length acc c' rest') (kR nm (i + 1)) else kR nm (i + 1) (acc ++ List.replicate ps.length ("" : Str), (c', w') :: rest')) := by
      have e : kR nm i (acc, (c', w') :: rest') = if w' = w then bnd (rdPart i ps.length acc c' rest') (kR nm (i + 1)) else kR nm (i + 1) (acc ++ List.replicate ps.length ("" : Str), (c', w') :: rest') := by
        conv => lhs; unfold kR
        rw [ed]
        show bnd (rdPs i ((w, ps) :: parts.drop (i + 1)) acc ((c', w') :: rest')) _ = _
        rw [rdPs_cons]
        split
        · rw [bnd_bnd]; rfl
        · rfl
      rw [← e]
      exact ki
    refine ⟨Ti, _, rfl, r2 _ g, rfl, _, _, rfl, _, _, rfl, rfl, ?_⟩
    refine ⟨_, rfl, _, rfl, x_l (SqL.of (GH.lst hA)) (atI_nat wpa) (x_t (wpb _ GH) (atI_nat (j := 0) rfl) ⟨_, rfl, we_flat (nV_scal _ _) ?_⟩)⟩
    rw [nV_eq wne]
    have wpl : ∀ (H2 : Hp), Gr H H2 → ∀ e, W[pl]? = some (e, w') → LE Q W H fVal (.error e : Except Nat (List Str)) → 2 ≤ sizeLine ∧ ∀ t, H2 t = none → Q (.ref t) (upd H2 t (.tup [.non, .int (pl : Nat)])) := fun H2 g2 e he h => h.er g2 he
    have m3 : ps.length ≤ 9 := by omega
    by_cases hw : w' = w
    · subst hw
      rw [if_pos rfl] at ki
      rw [decide_eq_true rfl]
      refine ⟨fun σ H2 => σ = [some (.ref a), some (.ref tl), some (.int (pl : Nat)), some (.ref sg), some (.str w'), some (.int (ps.length : Nat)), some (.bl true), none, o8] ∧ Gr H' H2 ∧ ¬ (i = 5 ∧ em acc = true), ?_, ?_⟩
      · refine ⟨_, rfl, true, rfl, iteT ⟨_, rfl, we_flat rfl ⟨_, rfl, ?_⟩⟩⟩
        rw [dvs, parts_esc i w' ps hp]
        by_cases h5 : i = 5
        · rw [decide_eq_true h5]
          refine iteT ⟨_, rfl, sg, rfl, ⟨_, SqL.of hsgl⟩, fun D hD => ?_⟩
          refine lc_neL (us := acc) (j := 7) hD hsgl (by omega) (fun _ => rfl) (fun _ => rfl) (fun x H' C q => ⟨_, rfl, wn_flat rfl ⟨_, rfl, by rw [dvs]; exact q⟩⟩) (fun H2 ys g2 hL2 hq => ?_)
          refine ⟨Nat.zero_le _, fun l0 hl0 => ?_⟩
          refine newH hl0 fun H3 g3 s3 => ?_
          have g23 := g2.trans g3
          refine we_nil (SqL.of (g3.lst hL2)) (SqL.of s3) ⟨_, rfl, ?_⟩
          rw [hq]
          cases he : em acc with
          | true =>
            unfold rdPart at ki
            rw [if_pos ⟨h5, he⟩] at ki
            exact iteT ⟨_, rfl, LE.er ki g23 hWp⟩
          | false => exact iteF ⟨rfl, g23, fun z => by cases z.2⟩
        · rw [decide_eq_false h5]
          exact iteF ⟨rfl, Gr.refl _, fun z => h5 z.1⟩
      rintro σ H2 ⟨rfl, g2, no⟩
      unfold rdPart at ki
      rw [if_neg no] at ki
      have ki := ki.gr g2
      refine ⟨_, rfl, _, rfl, .inr ⟨true, rfl, a_ii ?_⟩⟩
      refine ⟨_, rfl, _, rfl, by omega, by omega, ?_⟩
      have wne' : w' ≠ "" := wne
      refine for_range (lo := 0) (n := ps.length) (fun k σ H3 => ∃ (pl : Nat) (sg : Addr) (o8 : Option V) (more : List Str) (rest : WC), σ = [some (.ref a), some (.ref tl), some (.int (pl : Nat)), some (.ref sg), some (.str w'), some (.int (ps.length : Nat)), some (.bl true), none, o8] ∧ Gr H2 H3 ∧
          AccOk (acc ++ more) ∧ WL rest ∧ more.length = k ∧ W.drop pl = rest ∧ H3 sg = some (.lst (strV (acc ++ more))) ∧ LE Q W H3 fVal (bnd (rdPl (ps.length - k) (acc ++ more) rest) (kR nm (i + 1))))
        ⟨pl + 1, sg, _, [], rest', rfl, Gr.refl _, by rw [List.append_nil]; exact ha, (hgo' wne').1, rfl, by rw [← List.drop_drop, hdr]; rfl, by rw [List.append_nil]; exact g2.lst hsgl, by rw [List.append_nil]; exact ki⟩ ?_ ?_
      · rintro k σ H3 hk3 ⟨pl, sg, o8, more, rest, rfl, g3, ha, hR, hm, hdr, hsgl, ki⟩
        obtain ⟨c3, w3, rest3, rfl, hgo3⟩ := hR.go
        have pc3 := hR.pc
        have hW3 := drop_at hdr
        obtain ⟨t3, w3a, w3b⟩ := wd hW3
        have GH3 := (GH.trans g2).trans g3
        have lam : (acc ++ more).length ≤ 8 := by rw [List.length_append]; omega
        rw [show ps.length - k = (ps.length - (k + 1)) + 1 by omega] at ki
        unfold rdPl at ki
        refine ⟨fun σ H4 => σ = [some (.ref a), some (.ref tl), some (.int (pl : Nat)), some (.ref sg), some (.str w'), some (.int (ps.length : Nat)), some (.bl true), none, some (.int (0 + (k : Nat)))] ∧ Gr H3 H4 ∧ isSg w3 = true ∧ w3 ∉ acc ++ more, ?_, ?_⟩
        · refine ⟨_, rfl, true, rfl, iteT ⟨_, rfl, _, rfl, x_l (SqL.of (GH3.lst hA)) (atI_nat w3a) (x_t (w3b _ GH3) (atI_nat (j := 0) rfl) ⟨rfl, fun l H4 g4 hl4 hL4 => ?_⟩)⟩⟩
          refine ni_seq (.inl (SqL.of hL4)) (nV_flat _) (strV_flat _) ⟨_, rfl, ?_⟩
          rw [inV_nV allS_ne, sg_all pc3]
          by_cases h1 : isSg w3 = true
          rotate_left
          · rw [if_neg fun z => h1 z.1] at ki
            have h1 : isSg w3 = false := by simpa using h1
            rw [h1]
            exact iteT ⟨_, rfl, LE.er ki g4 hW3⟩
          rw [h1]
          refine iteF ⟨_, rfl, _, rfl, x_l (SqL.of ((GH3.trans g4).lst hA)) (atI_nat w3a) (x_t (w3b _ (GH3.trans g4)) (atI_nat (j := 0) rfl) ⟨_, rfl, in_seq (.inl (SqL.of (g4.lst hsgl))) (nV_flat _) (strV_flat _) ⟨_, rfl, ?_⟩⟩)⟩
          rw [nV_ne (sg_ne h1), show inV (.str w3) (strV (acc ++ more)) = decide (w3 ∈ acc ++ more) by rw [Bool.eq_iff_iff, inV_str, decide_eq_true_eq]]
          by_cases h2 : w3 ∈ acc ++ more
          · rw [if_neg fun z => z.2 h2] at ki
            rw [decide_eq_true h2]
            exact iteT ⟨_, rfl, LE.er ki g4 hW3⟩
          · rw [decide_eq_false h2]
            exact iteF ⟨rfl, g4, rfl, h2⟩
        · rintro σ H4 ⟨rfl, g4, h1, h2⟩
          rw [if_pos ⟨h1, h2⟩] at ki
          have GH4 := GH3.trans g4
          refine ⟨_, rfl, _, rfl, true, rfl, iteT ⟨_, rfl, _, rfl, x_l (SqL.of (GH4.lst hA)) (atI_nat w3a) (x_t (w3b _ GH4) (atI_nat (j := 0) rfl) ⟨sl (Nat.le_of_ble_eq_true rfl), fun l5 hl5 => ?_⟩)⟩⟩
          refine newH hl5 fun H5 g5 s5 => ?_
          have lm : (strV (acc ++ more)).length ≤ 8 := by
            unfold strV
            rw [List.length_map]; exact lam
          refine a_ll ((g4.trans g5).lst hsgl) s5 (by rw [sizeLine_eq]; show _ + 1 ≤ _; omega) fun l6 hl6 => ?_
          refine newH hl6 fun H6 g6 s6 => ?_
          have g46 := (g4.trans g5).trans g6
          have e2 : acc ++ (more ++ [w3]) = (acc ++ more) ++ [w3] := (List.append_assoc _ _ _).symm
          refine ⟨_, rfl, _, rfl, .inr ⟨true, rfl, a_ii ?_⟩⟩
          refine ⟨pl + 1, l6, _, more ++ [w3], rest3, rfl, g3.trans g46, by rw [e2]; exact ha.snoc h1, (hgo3 (sg_ne h1)).1, by rw [List.length_append, hm]; rfl, by rw [← List.drop_drop, hdr]; rfl, ?_, ?_⟩
          · rw [s6, e2, nV_ne (sg_ne h1)]
            unfold strV
            rw [List.map_append (l₂ := [w3])]; rfl
          · rw [e2]
            exact ki.gr g46
      · rintro σ H3 ⟨pl, sg, o8, more, rest, rfl, g3, ha, hR, hm, hdr, hsgl, ki⟩
        rw [Nat.sub_self] at ki
        refine ⟨pl, sg, _, _, _, _, acc ++ more, rest, rfl, (g.trans g2).trans g3, ha, hR, by rw [List.length_append]; omega, hdr, hsgl, ki, fun h6 _ => ?_⟩
        have h5 : i = 5 := by omega
        have l7 : acc.length = 7 := by
          have : cnt 5 = 8 := rfl
          rw [h5] at hk
          omega
        rw [List.take_append_of_le_length (by omega), List.take_of_length_le (by omega)]
        cases he : em acc with
        | false => rfl
        | true => exact absurd ⟨h5, he⟩ no
    · rw [if_neg hw] at ki
      rw [decide_eq_false hw]
      have e0 : ∀ n : Nat, ((n : Nat) : Int) + (if (false : Bool) = true then 1 else 0) = (n : Nat) := fun n => by simp
      refine ⟨fun σ H2 => σ = [some (.ref a), some (.ref tl), some (.int (pl : Nat)), some (.ref sg), some (.str w), some (.int (ps.length : Nat)), some (.bl false), none, o8] ∧ H2 = H', ?_, ?_⟩
      · exact ⟨_, rfl, false, rfl, iteF ⟨rfl, rfl⟩⟩
      rintro σ H2 ⟨rfl, rfl⟩
      refine ⟨_, rfl, _, rfl, .inr ⟨false, rfl, a_ii ?_⟩⟩
      refine ⟨_, rfl, _, rfl, by omega, by omega, ?_⟩
      refine for_range (lo := 0) (n := ps.length) (fun k σ H3 => ∃ (sg : Addr) (o8 : Option V), σ = [some (.ref a), some (.ref tl), some (.int (pl : Nat)), some (.ref sg), some (.str w), some (.int (ps.length : Nat)), some (.bl false), none, o8] ∧ Gr H2 H3 ∧ H3 sg = some (.lst (strV (acc ++ List.replicate k ("" : Str)))))
        ⟨sg, _, congrArg (fun n : Int => [some (V.ref a), some (.ref tl), some (.int n), some (.ref sg), some (.str w), some (.int (ps.length : Nat)), some (.bl false), none, o8]) (e0 pl), Gr.refl _, by show _ = some (HO.lst (strV (acc ++ []))); rw [List.append_nil]; exact hsgl⟩ ?_ ?_
      · rintro k σ H3 hk3 ⟨sg, o8, rfl, g3, hsgl⟩
        refine ⟨fun σ H4 => σ = [some (.ref a), some (.ref tl), some (.int (pl : Nat)), some (.ref sg), some (.str w), some (.int (ps.length : Nat)), some (.bl false), none, some (.int (0 + (k : Nat)))] ∧ H4 = H3, ?_, ?_⟩
        · exact ⟨_, rfl, false, rfl, iteF ⟨rfl, rfl⟩⟩
        · rintro σ H4 ⟨rfl, rfl⟩
          refine ⟨_, rfl, _, rfl, false, rfl, iteF ⟨sl (Nat.le_of_ble_eq_true rfl), fun l5 hl5 => ?_⟩⟩
          refine newH hl5 fun H5 g5 s5 => ?_
          have lm : (strV (acc ++ List.replicate k ("" : Str))).length ≤ 17 := by
            unfold strV
            rw [List.length_map, List.length_append, List.length_replicate]; omega
          refine a_ll (g5.lst hsgl) s5 (by rw [sizeLine_eq]; show _ + 1 ≤ _; omega) fun l6 hl6 => ?_
          refine newH hl6 fun H6 g6 s6 => ?_
          refine ⟨_, rfl, _, rfl, .inr ⟨false, rfl, a_ii ?_⟩⟩
          refine ⟨l6, some (.int (0 + (k : Nat))), congrArg (fun n : Int => [some (V.ref a), some (.ref tl), some (.int n), some (.ref l6), some (.str w), some (.int (ps.length : Nat)), some (.bl false), none, some (.int (0 + (k : Nat)))]) (e0 pl), (g3.trans g5).trans g6, ?_⟩
          rw [s6, List.replicate_succ', ← List.append_assoc]
          unfold strV
          rw [List.map_append (l₂ := [("" : Str)])]; rfl
      · rintro σ H3 ⟨sg, o8, rfl, g3, hsgl⟩
        refine ⟨pl, sg, _, _, _, _, acc ++ List.replicate ps.length ("" : Str), (c', w') :: rest', rfl, g.trans g3, ha.more _, hR, by rw [List.length_append, List.length_replicate]; omega, hdr, hsgl, ki.gr g3, fun h6 hne => ?_⟩
        have h5 : i = 5 := by omega
        refine absurd ?_ hne
        have l7 : acc.length = 7 := by
          have : cnt 5 = 8 := rfl
          rw [h5] at hk
          omega
        rw [List.getD_eq_getElem?_getD, List.getElem?_append_right (by omega), l7, Nat.sub_self, List.getElem?_replicate, if_pos (by omega)]; rfl
  · rintro σ H' ⟨pl, sg, o4, o5, o6, o8, acc, rest, rfl, g, ha, hR, hk, hdr, hsgl, ki, h7⟩
    have hk : acc.length + 1 = cnt 6 := hk
    have h7 := h7 rfl
    have h8 : acc.length = 8 := by
      have : cnt 6 = 9 := rfl
      omega
    have l8 : (strV acc).length = 8 := by
      unfold strV
      rw [List.length_map]; exact h8
    obtain ⟨c', w', rest', rfl, hgo'⟩ := hR.go
    have hWp := drop_at hdr
    obtain ⟨tp, wpa, wpb⟩ := wd hWp
    have GH := G5.trans g
    have ki : LE Q W H' fVal (endR nm acc ((c', w') :: rest')) := ki
    rw [endR_cons h8 h7] at ki
    refine ⟨_, rfl, _, rfl, x_l (SqL.of (GH.lst hA)) (atI_nat wpa) (x_t (wpb _ GH) (atI_nat (j := 0) rfl) ⟨rfl, _, rfl, ?_⟩)⟩
    rw [nV_non]
    by_cases hw : w' = ""
    rotate_left
    · rw [if_neg fun z => hw z.1] at ki
      rw [decide_eq_false hw]
      exact iteT ⟨_, rfl, LE.er ki (Gr.refl _) hWp⟩
    rw [decide_eq_true hw]
    have at7 : (strV acc)[7]? = some (.str (acc.getD 7 "")) := by
      unfold strV
      rw [List.getElem?_map, List.getD_eq_getElem?_getD, List.getElem?_eq_getElem (by omega)]; rfl
    refine iteF ⟨_, rfl, x_l (SqL.of hsgl) (atI_nat at7) (we_flat rfl ?_)⟩
    rw [dvs]
    have cut7 : cutV (strV acc) none (some 7) = strV (acc.take 7) := by
      unfold cutV
      have e2 : HT.sIx (strV acc).length (strV acc).length (some ((7 : Nat) : Int)) = min 7 (strV acc).length := HT.sIx_nat _ _ 7
      have e2' : HT.sIx (strV acc).length (strV acc).length (some 7) = min 7 (strV acc).length := e2
      rw [HT.sIx_none, e2', l8, List.drop_zero, Nat.sub_zero]
      unfold strV
      rw [List.map_take]; rfl
    refine ⟨_, rfl, _, rfl, sl_l (SqL.of hsgl) fun l2 hl2 => ?_⟩
    refine newH hl2 fun H2 g2 s2 => ?_
    rw [cut7] at s2
    refine ⟨l2, rfl, ⟨_, SqL.of s2⟩, fun D hD => ?_⟩
    refine lc_neL (us := acc.take 7) (j := 7) hD s2 (by rw [List.length_take]; omega) (fun _ => rfl) (fun _ => rfl) (fun x H' C q => ⟨_, rfl, wn_flat rfl ⟨_, rfl, by rw [dvs]; exact q⟩⟩) (fun H3 ys g3 hL3 hq => ?_)
    refine ⟨Nat.zero_le _, fun l0 hl0 => ?_⟩
    refine newH hl0 fun H4 g4 s4 => ?_
    refine we_nil (SqL.of (g4.lst hL3)) (SqL.of s4) (wn_flat rfl ⟨_, rfl, ?_⟩)
    rw [hq]
    have g24 := (g2.trans g3).trans g4
    have eb : decide (V.bl (decide (acc.getD 7 "" = "")) = V.bl (em (acc.take 7))) = decide (decide (acc.getD 7 "" = "") = em (acc.take 7)) := by
      rw [decide_eq_decide]
      exact ⟨fun z => V.bl.inj z, fun z => by rw [z]⟩
    rw [eb]
    by_cases hb : decide (acc.getD 7 "" = "") = em (acc.take 7)
    rotate_left
    · rw [if_neg fun z => hb z.2] at ki
      rw [decide_eq_false hb]
      exact iteT ⟨_, rfl, LE.er ki g24 hWp⟩
    rw [if_pos ⟨hw, hb⟩] at ki
    rw [decide_eq_true hb]
    have GH4 := GH.trans g24
    refine iteF ⟨_, rfl, x_l (SqL.of (GH4.lst hA)) (atI_nat (j := 1) w1a) (x_t (w1b _ GH4) (atI_nat (j := 0) rfl) ⟨sl (Nat.le_of_ble_eq_true rfl), fun l5 hl5 => ?_⟩)⟩
    refine newH hl5 fun H6 g6 s6 => ?_
    have sg6 := (g24.trans g6).lst hsgl
    refine ⟨_, rfl, ⟨.inl ⟨sg, _, rfl, SqL.of sg6, fun t7 ht7 => ?_⟩⟩⟩
    refine newH ht7 fun H7 g7 s7 => ?_
    refine a_tt (SqT.of (g7.tup s6)) (SqT.of s7) (by rw [l8, sizeLine_eq]; show 1 + 8 ≤ 16777216; decide) (fun z => by cases z) (fun _ z => ?_) (fun _ _ t ht => ?_)
    · rw [z] at l8
      cases l8
    refine newH ht fun H8 g8 s8 => ?_
    refine ⟨sl (Nat.le_of_ble_eq_true rfl), fun t9 ht9 => ?_⟩
    refine newH ht9 fun H9 g9 s9 => ?_
    refine ki t9 t H9 ((((g24.trans g6).trans g7).trans g8).trans g9) s9 (g9.tup (s8.trans ?_))
    rw [nV_ne nmne]
    rfl
end
end Vf
end
section
set_option Elab.async false
set_option linter.all false
set_option maxRecDepth 100000
set_option maxHeartbeats 4000000
namespace Vf
open PySem PySem.Spec PyProof.Rows L2 GxR GenW RZ
abbrev s__law_read_maker : Stmt := top 59
abbrev n__law_read_maker : List Str := ["words", "forms", "taken", "word", "at", "told", "rows"]
abbrev p__law_read_maker : List Str := ["words", "forms", "taken"]
theorem sc__law_read_maker : FnScope n__law_read_maker p__law_read_maker (defScope s__law_read_maker) := ⟨rfl, rfl, rfl, by decide +kernel, rfl, by decide +kernel, by decide +kernel⟩

/-! ### tests, one after another -/
def ckL {α : Type} : List (Bool × Nat) → Except Nat α → Except Nat α
  | [], k => k
  | p :: l, k => ck p.1 p.2 (ckL l k)
theorem ckL_app {α : Type} : ∀ (a b : List (Bool × Nat)) (k : Except Nat α), ckL (a ++ b) k = ckL a (ckL b k)
  | [], _, _ => rfl
  | p :: a, b, k => by
    show ck p.1 p.2 (ckL (a ++ b) k) = _
    rw [ckL_app a b k]; rfl
theorem ckL_same {α : Type} : ∀ (l : List (Bool × Nat)) {k k' : Except Nat α}, ((∀ p ∈ l, p.1 = true) → k = k') → ckL l k = ckL l k'
  | [], _, _, h => h (by simp)
  | p :: l, k, k', h => by
    show ck p.1 p.2 _ = ck p.1 p.2 _
    unfold ck
    split
    · rename_i hp
      exact ckL_same l fun hl => h fun q hq => by
        rcases List.mem_cons.mp hq with z | z
        · rw [z]; exact hp
        · exact hl q z
    · rfl
theorem ckL_all {α : Type} : ∀ {l : List (Bool × Nat)} {k : Except Nat α}, (∀ p ∈ l, p.1 = true) → ckL l k = k
  | [], _, _ => rfl
  | p :: l, k, h => by
    show ck p.1 p.2 _ = _
    unfold ck
    rw [if_pos (h p List.mem_cons_self)]
    exact ckL_all fun q hq => h q (List.mem_cons_of_mem _ hq)
theorem ckL_err {α : Type} : ∀ {l : List (Bool × Nat)} {k : Except Nat α} {j c : Nat}, l[j]? = some (false, c) → (∀ i, i < j → ∀ p, l[i]? = some p → p.1 = true) → ckL l k = .error c
  | [], _, _, _, h, _ => by simp at h
  | p :: l, k, 0, c, h, _ => by
    cases h
    rfl
  | p :: l, k, j + 1, c, h, hb => by
    show ck p.1 p.2 _ = _
    unfold ck
    rw [if_pos (hb 0 (Nat.succ_pos j) p rfl)]
    exact ckL_err (l := l) (j := j) h fun i hi q hq => hb (i + 1) (Nat.succ_lt_succ hi) q hq
theorem bnd_ck {α β : Type} (b : Bool) (c : Nat) (k : Except Nat α) (f : α → Except Nat β) : bnd (ck b c k) f = ck b c (bnd k f) := by
  unfold ck
  split <;> rfl
def mk7 (taken names : List Str) (W : WC) : List (Bool × Nat) :=
  [(isWs (wa W 0) && decide (wa W 0 ∉ taken), ca W 0), (decide (wa W 1 = "from"), ca W 1), (decide (wa W 2 ∈ names), ca W 2), (decide (wa W 3 = "to"), ca W 3),
   (decide (wa W 4 ∈ names) && decide (wa W 4 ≠ wa W 2), ca W 4), (decide (wa W 5 = "cost"), ca W 5), (isCo (wa W 6), ca W 6)]
def mk8 (taken names : List Str) (W : WC) : List (Bool × Nat) := mk7 taken names W ++ [(decide (wa W 7 = ""), ca W 7)]
def mkR (W : WC) : Mak := ⟨wa W 0, wa W 2, wa W 4, cv (wa W 6)⟩
def makR (taken names : List Str) (W : WC) : Except Nat Mak := bnd (rdMaker taken names W) fun q => only q.2 q.1
theorem mk7_ne {taken names : List Str} {W : WC} (hn : ("" : Str) ∉ names) : ∀ i, i < 7 → ∀ p, (mk7 taken names W)[i]? = some p → p.1 = true → wa W i ≠ "" := by
  obtain ⟨kw1, kw2, kw3, _, _⟩ := kw_ne
  intro i hi p hp ht
  match i, hi with
  | 0, _ =>
    cases hp
    rw [Bool.and_eq_true] at ht
    exact ws_ne ht.1
  | 1, _ => cases hp; exact of_decide_eq_true ht ▸ kw1
  | 2, _ => cases hp; exact fun z => hn (z ▸ of_decide_eq_true ht)
  | 3, _ => cases hp; exact of_decide_eq_true ht ▸ kw2
  | 4, _ =>
    cases hp
    rw [Bool.and_eq_true] at ht
    exact fun z => hn (z ▸ of_decide_eq_true ht.1)
  | 5, _ => cases hp; exact of_decide_eq_true ht ▸ kw3
  | 6, _ => cases hp; exact co_ne ht
theorem mk7_wl {taken names : List Str} {W : WC} (hn : ("" : Str) ∉ names) (hW : WL W) : ∀ j, j ≤ 7 → (∀ i, i < j → ∀ p, (mk7 taken names W)[i]? = some p → p.1 = true) → WL (W.drop j)
  | 0, _, _ => hW
  | j + 1, hj, h => by
    have ih := mk7_wl hn hW j (by omega) fun i hi => h i (by omega)
    have l7 : (mk7 taken names W).length = 7 := rfl
    refine ih.step (mk7_ne hn j (by omega) _ (List.getElem?_eq_getElem (by omega)) (h j (by omega) _ (List.getElem?_eq_getElem (by omega))))
theorem drop_wa {W : WC} {j : Nat} {c : Nat} {w : Str} {r : WC} (h : W.drop j = (c, w) :: r) : W[j]? = some (c, w) ∧ wa W j = w ∧ ca W j = c := by
  have q := drop_at h
  refine ⟨q, ?_, ?_⟩
  · unfold wa
    rw [List.getD_eq_getElem?_getD, q]; rfl
  · unfold ca
    rw [List.getD_eq_getElem?_getD, q]; rfl
theorem makR_eq {taken names : List Str} {W : WC} (hn : ("" : Str) ∉ names) (hW : WL W) : makR taken names W = ckL (mk8 taken names W) (.ok (mkR W)) := by
  have e : makR taken names W = ckL (mk7 taken names W) (only (W.drop 7) (mkR W)) := by
    unfold makR rdMaker
    simp only [bnd_ck]
    rfl
  rw [e]
  unfold mk8
  rw [ckL_app]
  refine ckL_same _ fun h => ?_
  have wl7 := mk7_wl (taken := taken) hn hW 7 (Nat.le_refl _) fun i hi p hp => h p (List.mem_of_getElem? hp)
  obtain ⟨c, w, r, e7, _⟩ := wl7.go
  obtain ⟨_, e1, e2⟩ := drop_wa e7
  rw [e7, only_cons]
  show _ = ck (decide (wa W 7 = "")) (ca W 7) (.ok (mkR W))
  rw [e1, e2]
  unfold ck
  by_cases hw : w = ""
  · rw [if_pos hw, if_pos (decide_eq_true hw)]
  · rw [if_neg hw, if_neg (by rw [decide_eq_false hw]; decide)]
def mVal (f1 : Addr) (H : Hp) (m : Mak) : Prop := H f1 = some (.tup (makV m))
def spLMaker : Sp := fun vs H Q _ => ∃ (a nl tl : Addr) (ws : List V) (W : WC) (c0 : Nat) (w0 : Str) (rest : WC) (names taken : List Str), vs = [.ref a, .ref nl, .ref tl] ∧ H a = some (.lst ws) ∧ LAt H ws W ∧ W = (c0, w0) :: rest ∧ WL rest ∧ W.length ≤ 900002 ∧ H nl = some (.lst (strV names)) ∧ ("" : Str) ∉ names ∧ H tl = some (.lst (strV taken)) ∧
  LE Q W H mVal (makR taken names rest)
/-- what is told: the words, and None behind them -/
def toldV (W : WC) : List V := (W.map fun p => nV p.2) ++ List.replicate 9 V.non
theorem toldV_at {W : WC} {i : Nat} (hi : i < 9) : (toldV W)[i]? = some (nV (wa W i)) := by
  unfold toldV wa
  rw [List.getD_eq_getElem?_getD]
  by_cases h : i < W.length
  · rw [List.getElem?_append_left (by rw [List.length_map]; exact h), List.getElem?_map, List.getElem?_eq_getElem h]; rfl
  · rw [List.getElem?_append_right (by rw [List.length_map]; omega), List.getElem?_replicate, if_pos (by omega), List.getElem?_eq_none (by omega)]
    exact congrArg some nV_no.symm
theorem nV_two {x y : Str} : decide (nV x = nV y) = decide (x = y) := by
  by_cases e : y = ""
  · rw [e, nV_no, nV_non]
  · rw [nV_ne e, nV_eq e]
theorem nV_scal2 (w z : Str) : scal (nV w) (nV z) = true := by
  unfold nV
  split <;> split <;> rfl
/-- the first False -/
theorem first_false : ∀ {l : List Bool}, false ∈ l → ∃ j : Nat, l[j]? = some false ∧ ∀ i : Nat, i < j → l[i]? = some true
  | [], h => by cases h
  | false :: l, _ => ⟨0, rfl, fun i hi => absurd hi (Nat.not_lt_zero _)⟩
  | true :: l, h => by
    rcases List.mem_cons.mp h with z | z
    · cases z
    · obtain ⟨j, h1, h2⟩ := first_false z
      refine ⟨j + 1, h1, fun i hi => ?_⟩
      cases i with
      | zero => rfl
      | succ i => exact h2 i (by omega)
theorem inV_bl (b : Bool) : ∀ l : List Bool, inV (.bl b) (l.map V.bl) = decide (b ∈ l)
  | [] => rfl
  | x :: l => by
    have ih := inV_bl b l
    show (_ || inV (.bl b) (l.map V.bl)) = _
    rw [ih]
    cases b <;> cases x <;> simp [eqV]
end Vf
end
section
set_option Elab.async false
set_option linter.all false
set_option maxRecDepth 100000
set_option maxHeartbeats 4000000
namespace Vf
open PySem PySem.Spec PyProof.Rows L2 GxR GenW RZ
theorem and_step {b c : Bool} {H : Hp} {Q : VK} {tb : TE} {σ : L2.St} (q : Q (.bl (b && c)) H) (f : b = true → Q (.bl c) H → tb σ H Q) : ∃ k, V.bl b = .bl k ∧ if k = true then tb σ H Q else Q (.bl false) H := ⟨b, rfl, by
  cases b with
  | false => exact iteF q
  | true => exact iteT (f rfl q)⟩
theorem WL.wl {W : WC} (h : WL W) : ∀ i, (wa W i).length ≤ 900000 := by
  induction h with
  | last e =>
    intro i
    cases i with
    | zero => exact Nat.zero_le _
    | succ i => exact Nat.zero_le _
  | cons a b ih =>
    intro i
    cases i with
    | zero => exact a.ln
    | succ i => exact ih i
section
variable {P : Program} {w : World} {K : PySem.W.Frag} {mg : Str → Option Value} {base : Heap}
theorem ok_lmaker {fd : FuncData} (F : FnP K "_law_read_maker" s__law_read_maker fd) (T : TY K mg) (D__law_is_name : Df P w K mg base "_law_is_name" 1 p__law_is_name spLName) (D__law_is_cost : Df P w K mg base "_law_is_cost" 1 p__law_is_cost spLCost) : FnOk P w K mg base CX0 2 (He.fAd K ("_law_read_maker", none)) fd p__law_read_maker spLMaker := by
  refine okP F sc__law_read_maker (fun vs H Q E h => by obtain ⟨a, nl, tl, ws, W, c0, w0, rest, names, taken, rfl, _⟩ := h; rfl) (fun A outer s H vs Q E hr h => ?_)
  obtain ⟨a, nl, tl, ws, W, c0, w0, rest, names, taken, rfl, hA, hL, eW, hWl, hlen, hN, hne, hT, kk⟩ := h
  refine ⟨_, (pss_cons (ps_setLc (i := 5) (own := [("word", 3), ("at", 4)])  (tt := tYes) rfl sc__law_read_maker.nd rfl rfl (sw_true rfl rfl rfl (by decide +kernel)) (k_list (K := K) rfl (pv 0)) (blkOk_by (own := [("word", 3), ("at", 4)]) (N := n__law_read_maker) (sc := defScope s__law_read_maker) (by decide +kernel)) (fun _ _ _ _ _ => (kg_tup 2 (K := K) rfl rfl (pgs_cons (pg_name (i := 3) sc__law_read_maker.nd rfl (by first | exact Or.inl rfl | exact Or.inr rfl)) (pgs_cons (pg_name (i := 4) sc__law_read_maker.nd rfl (by first | exact Or.inl rfl | exact Or.inr rfl)) pgs_nil)))) (fun _ _ _ _ _ => pts_nil) (fun _ _ _ _ _ => (pv 3)))
      (pss_cons (ps_set (i := 5) sc__law_read_maker.nd rfl (by first | exact Or.inl rfl | exact Or.inr rfl) (pe_op (u_add (K := K) rfl) (pv 5) (pe_op (u_mul (K := K) rfl) (pe_lst (pa_cons pe_non pa_nil)) pe_int)))
      (pss_cons (ps_set (i := 6) sc__law_read_maker.nd rfl (by first | exact Or.inl rfl | exact Or.inr rfl) (pe_lst (pa_cons (pe_and (pe_fn D__law_is_name hr (by decide) rfl (pa_cons (pe_ix (u_ix (K := K) rfl) (pv 5) pe_int (fun _ _ => rfl)) (pa_cons pe_int pa_nil))) (pe_one (pe_cmpR (u_ni (K := K) rfl) (pe_ix (u_ix (K := K) rfl) (pv 5) pe_int (fun _ _ => rfl)) (pv 2) (by first | exact nomark _ | rfl)))) (pa_cons (pe_cmpR (u_eqW (K := K) rfl hr.units) (pe_ix (u_ix (K := K) rfl) (pv 5) pe_int (fun _ _ => rfl)) pe_str (nomark _)) (pa_cons (pe_cmpR (u_in (K := K) rfl) (pe_ix (u_ix (K := K) rfl) (pv 5) pe_int (fun _ _ => rfl)) (pv 1) (by first | exact nomark _ | rfl)) (pa_cons (pe_cmpR (u_eqW (K := K) rfl hr.units) (pe_ix (u_ix (K := K) rfl) (pv 5) pe_int (fun _ _ => rfl)) pe_str (nomark _)) pa_nil))))))
      (pss_cons (ps_set (i := 6) sc__law_read_maker.nd rfl (by first | exact Or.inl rfl | exact Or.inr rfl) (pe_op (u_add (K := K) rfl) (pv 6) (pe_lst (pa_cons (pe_and (pe_cmpR (u_in (K := K) rfl) (pe_ix (u_ix (K := K) rfl) (pv 5) pe_int (fun _ _ => rfl)) (pv 1) (by first | exact nomark _ | rfl)) (pe_one (pe_cmpR (u_neW (K := K) rfl hr.units) (pe_ix (u_ix (K := K) rfl) (pv 5) pe_int (fun _ _ => rfl)) (pe_ix (u_ix (K := K) rfl) (pv 5) pe_int (fun _ _ => rfl)) (nomark _)))) (pa_cons (pe_cmpR (u_eqW (K := K) rfl hr.units) (pe_ix (u_ix (K := K) rfl) (pv 5) pe_int (fun _ _ => rfl)) pe_str (nomark _)) (pa_cons (pe_fn D__law_is_cost hr (by decide) rfl (pa_cons (pe_ix (u_ix (K := K) rfl) (pv 5) pe_int (fun _ _ => rfl)) pa_nil)) (pa_cons (pe_cmpR op_isN (pe_ix (u_ix (K := K) rfl) (pv 5) pe_int (fun _ _ => rfl)) pe_non (nomark _)) pa_nil)))))))
      (pss_cons (ps_if (pt_cmpR (u_in (K := K) rfl) pe_bl (pv 6) (by first | exact nomark _ | rfl))
      (pss_one (ps_ret (pe_tup (pa_cons pe_non (pa_cons (pe_op (u_add (K := K) rfl) (k_bm (K := K) rfl PySem.F.plainAttrs_list PySem.F.slot_list_index PySem.F.type_list_index mt_index (pv 6) (pa_cons pe_bl pa_nil)) pe_int) pa_nil)))))
      pss_nil)
      (pss_one (ps_ret (pe_tup (pa_cons (pe_tup (pa_cons (pe_ix (u_ix (K := K) rfl) (pv 5) pe_int (fun _ _ => rfl)) (pa_cons (pe_ix (u_ix (K := K) rfl) (pv 5) pe_int (fun _ _ => rfl)) (pa_cons (pe_ix (u_ix (K := K) rfl) (pv 5) pe_int (fun _ _ => rfl)) (pa_cons (pe_callTy call_int_str rfl T.b_int (by decide +kernel) (pa_cons (pe_ix (u_ix (K := K) rfl) (pv 5) pe_int (fun _ _ => rfl)) pa_nil)) pa_nil))))) (pa_cons pe_non pa_nil)))))))))), ?_⟩
  have sl : ∀ {n : Nat}, n ≤ 1000 → n ≤ sizeLine := fun h => by rw [sizeLine_eq]; omega
  have lws : ws.length ≤ 900002 := by rw [hL.1]; exact hlen
  -- the words
  refine ⟨_, rfl, a, rfl, ⟨_, SqL.of hA⟩, fun D hD => ?_⟩
  have nDa : a ≠ D := ne_of_none hA hD
  refine lc_list (K := K) (a := a) (xs := ws) (fun i H' => Gr H H' ∧ H' D = some (.lst ((W.take i).map fun p => nV p.2))) ⟨Gr.new hD, upd_same⟩ ?_ ?_ ?_
  · rintro i H' _ ⟨g, _⟩
    exact SqL.of (g.lst hA)
  · rintro i x H' hx ⟨g, hLD⟩
    have hi : i < W.length := by rw [← hL.1]; exact (List.getElem?_eq_some_iff.mp hx).1
    have hWi : W[i]? = some (W[i].1, W[i].2) := List.getElem?_eq_getElem hi
    obtain ⟨t, e1, e2⟩ := hL.2 i _ _ hWi
    rw [hx] at e1
    cases e1
    refine ⟨_, _, rfl, SqT.of (g.tup e2), rfl, _, _, rfl, _, _, rfl, rfl, rfl, ?_⟩
    refine ⟨_, rfl, _, hLD, ?_, g.upd' hD, ?_⟩
    · rw [List.length_map, List.length_take, sizeLine_eq]
      omega
    · rw [upd_same, List.take_succ, hWi, List.map_append]; rfl
  rintro H1 ⟨g1, hD1⟩
  rw [hL.1, List.take_length] at hD1
  refine ⟨_, rfl, sl (Nat.le_of_ble_eq_true rfl), fun l2 hl2 => ?_⟩
  refine newH hl2 fun H2 g2 s2 => ?_
  refine m_ll s2 (by decide) (by decide) (by show 1 * 9 ≤ sizeLine; rw [sizeLine_eq]; decide) fun l3 hl3 => ?_
  refine newH hl3 fun H3 g3 s3 => ?_
  have lWm : (W.map fun p => nV p.2).length ≤ 900002 := by rw [List.length_map]; exact hlen
  refine a_ll ((g2.trans g3).lst hD1) s3 (by rw [sizeLine_eq]; show _ + 9 ≤ _; omega) fun L hL4 => ?_
  refine newH hL4 fun H4 g4 s4 => ?_
  have s4 : H4 L = some (.lst (toldV W)) := s4
  have G4 := ((g1.trans g2).trans g3).trans g4
  have at_ : ∀ {i j : Nat} {H' : Hp} {Q : VK}, j = i + 1 → i < 8 → Gr H4 H' → Q (nV (wa rest i)) H' → rIxU K (.ref L) (.int (j : Nat)) H' Q := fun {i j H' Q} hj hi g q => by
    subst hj
    refine x_l (SqL.of (g.lst s4)) (atI_nat (toldV_at (by omega))) ?_
    have e : wa W (i + 1) = wa rest i := by rw [eW]; rfl
    rw [e]
    exact q
  have len_wa : ∀ i, (wa rest i).length ≤ 900000 := hWl.wl
  obtain ⟨kw1, kw2, kw3, _, _⟩ := kw_ne
  have gN : ∀ {H'}, Gr H4 H' → H' nl = some (.lst (strV names)) := fun g => (G4.trans g).lst hN
  have gT : ∀ {H'}, Gr H4 H' → H' tl = some (.lst (strV taken)) := fun g => (G4.trans g).lst hT
  -- the first four
  refine ⟨_, rfl, at_ (i := 0) (j := 1) rfl (by decide) (Gr.refl _) ⟨wa rest 0, 12, rfl, .inr rfl, len_wa 0, fun Ha ga => ?_⟩⟩
  rw [if_neg (by decide)]
  refine and_step (c := decide (wa rest 0 ∉ taken)) ?_ (fun hb q => ?_)
  rotate_left
  · refine ⟨_, rfl, at_ (i := 0) (j := 1) rfl (by decide) ga ⟨_, rfl, ni_seq (.inl (SqL.of (gT ga))) (nV_flat _) (strV_flat _) ?_⟩⟩
    have e : (!inV (nV (wa rest 0)) (strV taken)) = decide (wa rest 0 ∉ taken) := by
      have e2 : inV (nV (wa rest 0)) (strV taken) = decide (wa rest 0 ∈ taken) := by
        rw [nV_ne (ws_ne hb), Bool.eq_iff_iff, inV_str, decide_eq_true_eq]
      rw [e2]
      by_cases z : wa rest 0 ∈ taken <;> simp [z]
    rw [e]
    exact q
  refine ⟨_, rfl, at_ (i := 1) (j := 2) rfl (by decide) ga (we_flat (nV_scal _ _) ?_)⟩
  rw [nV_eq kw1]
  refine ⟨_, rfl, at_ (i := 2) (j := 3) rfl (by decide) ga ⟨_, rfl, in_seq (.inl (SqL.of (gN ga))) (nV_flat _) (strV_flat _) ?_⟩⟩
  rw [inV_nV hne]
  refine ⟨_, rfl, at_ (i := 3) (j := 4) rfl (by decide) ga (we_flat (nV_scal _ _) ?_)⟩
  rw [nV_eq kw2]
  refine ⟨sl (Nat.le_of_ble_eq_true rfl), fun R hR => ?_⟩
  refine newH hR fun H5 g5 s5 => ?_
  have ga5 := ga.trans g5
  -- the other four
  refine ⟨_, rfl, _, rfl, at_ (i := 4) (j := 5) rfl (by decide) ga5 ⟨_, rfl, in_seq (.inl (SqL.of (gN ga5))) (nV_flat _) (strV_flat _) ?_⟩⟩
  rw [inV_nV hne]
  refine and_step (c := decide (wa rest 4 ≠ wa rest 2)) ?_ (fun hb q => ?_)
  rotate_left
  · refine ⟨_, rfl, at_ (i := 4) (j := 5) rfl (by decide) ga5 ⟨_, rfl, at_ (i := 2) (j := 3) rfl (by decide) ga5 (wn_flat (nV_scal2 _ _) ?_)⟩⟩
    rw [nV_two]
    have e : (!decide (wa rest 4 = wa rest 2)) = decide (wa rest 4 ≠ wa rest 2) := by
      by_cases z : wa rest 4 = wa rest 2 <;> simp [z]
    rw [e]
    exact q
  refine ⟨_, rfl, at_ (i := 5) (j := 6) rfl (by decide) ga5 (we_flat (nV_scal _ _) ?_)⟩
  rw [nV_eq kw3]
  refine ⟨_, rfl, at_ (i := 6) (j := 7) rfl (by decide) ga5 ⟨wa rest 6, rfl, len_wa 6, fun Hb gb => ?_⟩⟩
  have gab := ga5.trans gb
  refine ⟨_, rfl, at_ (i := 7) (j := 8) rfl (by decide) gab ⟨rfl, ?_⟩⟩
  rw [nV_non]
  refine ⟨sl (Nat.le_of_ble_eq_true rfl), fun R2 hR2 => ?_⟩
  refine newH hR2 fun H6 g6 s6 => ?_
  refine a_ll ((gb.trans g6).lst s5) s6 (sl (Nat.le_of_ble_eq_true rfl)) fun RR hRR => ?_
  refine newH hRR fun H7 g7 s7 => ?_
  have G7 := (gab.trans g6).trans g7
  have GH := G4.trans G7
  have s7 : H7 RR = some (.lst (((mk8 taken names rest).map (·.1)).map V.bl)) := s7
  have hbl : (((mk8 taken names rest).map (·.1)).map V.bl).all flatV = true := by
    rw [List.all_map, List.all_eq_true]
    intro x _; rfl
  rw [makR_eq hne hWl] at kk
  refine ⟨_, rfl, in_seq (.inl (SqL.of s7)) rfl hbl ⟨_, rfl, ?_⟩⟩
  rw [inV_bl]
  by_cases hf : false ∈ (mk8 taken names rest).map (·.1)
  · rw [decide_eq_true hf]
    obtain ⟨j, hj, hb⟩ := first_false hf
    have l8 : (mk8 taken names rest).length = 8 := rfl
    have j8 : j < 8 := by
      have := (List.getElem?_eq_some_iff.mp hj).1
      rw [List.length_map] at this
      exact this
    obtain ⟨p, hp, hp1⟩ : ∃ p, (mk8 taken names rest)[j]? = some p ∧ p.1 = false := by
      rw [List.getElem?_map] at hj
      cases e : (mk8 taken names rest)[j]? with
      | none => rw [e] at hj; cases hj
      | some p => rw [e] at hj; exact ⟨p, rfl, Option.some.inj hj⟩
    obtain ⟨pb, pc⟩ := p
    have hp1 : pb = false := hp1
    subst hp1
    have bef : ∀ i, i < j → ∀ p, (mk8 taken names rest)[i]? = some p → p.1 = true := fun i hi p hp => by
      have q := hb i hi
      rw [List.getElem?_map, hp] at q
      exact Option.some.inj q
    rw [ckL_err hp bef] at kk
    -- the place it speaks of
    have wlj := mk7_wl (taken := taken) hne hWl j (by omega) fun i hi p hp => bef i hi p (by
      unfold mk8
      rw [List.getElem?_append_left (List.getElem?_eq_some_iff.mp hp).1]
      exact hp)
    obtain ⟨c, w, r, ej, _⟩ := wlj.go
    obtain ⟨e1, _, e3⟩ := drop_wa ej
    have epc : pc = ca rest j := by
      match j, j8, hp with
      | 0, _, hp => exact (congrArg Prod.snd (Option.some.inj hp)).symm
      | 1, _, hp => exact (congrArg Prod.snd (Option.some.inj hp)).symm
      | 2, _, hp => exact (congrArg Prod.snd (Option.some.inj hp)).symm
      | 3, _, hp => exact (congrArg Prod.snd (Option.some.inj hp)).symm
      | 4, _, hp => exact (congrArg Prod.snd (Option.some.inj hp)).symm
      | 5, _, hp => exact (congrArg Prod.snd (Option.some.inj hp)).symm
      | 6, _, hp => exact (congrArg Prod.snd (Option.some.inj hp)).symm
      | 7, _, hp => exact (congrArg Prod.snd (Option.some.inj hp)).symm
    rw [epc, e3] at kk
    have hWj : W[j + 1]? = some (c, w) := by rw [eW]; exact e1
    refine iteT ⟨_, rfl, .inl ⟨rfl, _, SqL.of s7⟩, RR, _, _, j, .bl false, rfl, rfl, SqL.of s7, rfl, hbl, ?_, rfl, fun m z hm hz => ?_, a_ii ⟨sl (Nat.le_of_ble_eq_true rfl), fun t ht => ?_⟩⟩
    · rw [List.getElem?_map, hj]; rfl
    · rw [List.getElem?_map, hb m hm] at hz
      cases hz; rfl
    · refine newH ht fun H8 g8 s8 => ?_
      exact kk t (j + 1) H8 (GH.trans g8) s8 ⟨w, hWj⟩
  · rw [decide_eq_false hf]
    have allT : ∀ p ∈ mk8 taken names rest, p.1 = true := fun p hp => by
      cases e : p.1 with
      | true => rfl
      | false => exact absurd (List.mem_map.mpr ⟨p, hp, e⟩) hf
    rw [ckL_all allT] at kk
    have tr : ∀ (i : Nat) (p : Bool × Nat), (mk8 taken names rest)[i]? = some p → p.1 = true := fun i p hp => allT p (List.mem_of_getElem? hp)
    have tr7 : ∀ (i : Nat) (p : Bool × Nat), (mk7 taken names rest)[i]? = some p → p.1 = true := fun i p hp => allT p (by unfold mk8; exact List.mem_append_left _ (List.mem_of_getElem? hp))
    have n0 := mk7_ne (taken := taken) (names := names) (W := rest) hne 0 (by decide) _ rfl (tr7 0 _ rfl)
    have n2 := mk7_ne (taken := taken) (names := names) (W := rest) hne 2 (by decide) _ rfl (tr7 2 _ rfl)
    have n4 := mk7_ne (taken := taken) (names := names) (W := rest) hne 4 (by decide) _ rfl (tr7 4 _ rfl)
    have n6 := mk7_ne (taken := taken) (names := names) (W := rest) hne 6 (by decide) _ rfl (tr7 6 _ rfl)
    have c6 : isCo (wa rest 6) = true := tr7 6 _ rfl
    obtain ⟨f1, f4, fd7, f1000⟩ := co_facts c6
    obtain ⟨c4, _, _⟩ := co_read f1 f4 fd7
    refine iteF ⟨_, rfl, at_ (i := 0) (j := 1) rfl (by decide) G7 ⟨_, rfl, at_ (i := 2) (j := 3) rfl (by decide) G7 ⟨_, rfl, at_ (i := 4) (j := 5) rfl (by decide) G7 ⟨_, rfl, at_ (i := 6) (j := 7) rfl (by decide) G7 ?_⟩⟩⟩⟩
    rw [nV_ne n0, nV_ne n2, nV_ne n4, nV_ne n6]
    refine ⟨_, _, rfl, c4, by omega, sl (Nat.le_of_ble_eq_true rfl), fun t ht => ?_⟩
    refine newH ht fun H8 g8 s8 => ?_
    refine ⟨sl (Nat.le_of_ble_eq_true rfl), fun t9 ht9 => ?_⟩
    refine newH ht9 fun H9 g9 s9 => ?_
    exact kk t9 t H9 ((GH.trans g8).trans g9) s9 (g9.tup s8)
end
end Vf
end
section
set_option Elab.async false
set_option linter.all false
set_option maxRecDepth 100000
set_option maxHeartbeats 4000000
namespace Vf
open PySem PySem.Spec PyProof.Rows L2 GxR GenW RZ
abbrev s__law_told : Stmt := top 61
abbrev n__law_told : List Str := ["text", "known", "forms", "makers", "number", "line", "words", "wrong", "form", "found", "names", "maker"]
abbrev p__law_told : List Str := ["text", "known"]
theorem sc__law_told : FnScope n__law_told p__law_told (defScope s__law_told) := ⟨rfl, rfl, rfl, by decide +kernel, rfl, by decide +kernel, by decide +kernel⟩

theorem only_map {α β : Type} (W : WC) (a : α) (g : α → β) : only W (g a) = bnd (only W a) fun x => .ok (g x) := by
  cases W with
  | nil => rfl
  | cons p r =>
    obtain ⟨c, w⟩ := p
    rw [only_cons, only_cons]
    split <;> rfl
theorem line_form (taken : List Str) (r : WC) (g : List Str → FM) : (bnd (rdForm taken r) fun q => only q.2 (g q.1)) = bnd (formR taken r) fun f => .ok (g f) := by
  unfold formR
  rw [bnd_bnd]
  congr 1
  exact funext fun q => only_map _ _ _
theorem line_mak (taken names : List Str) (r : WC) (g : Mak → FM) : (bnd (rdMaker taken names r) fun q => only q.2 (g q.1)) = bnd (makR taken names r) fun f => .ok (g f) := by
  unfold makR
  rw [bnd_bnd]
  congr 1
  exact funext fun q => only_map _ _ _
theorem formR_ok {taken : List Str} {W : WC} {f : List Str} (e : formR taken W = .ok f) (hW : WL W) : FR f := by
  unfold formR at e
  cases e1 : rdForm taken W with
  | error x => rw [e1] at e; cases e
  | ok q =>
    rw [e1] at e
    have e : only q.2 q.1 = .ok f := e
    rw [only_ok e]
    exact (rdForm_ok e1 hW).1
theorem makR_ok {known taken : List Str} {F : List (List Str)} {M : List Mak} {W : WC} {m : Mak} (st : StR known F M) (hW : WL W) (e : makR taken (tops known F) W = .ok m) : MR m := by
  unfold makR at e
  cases e1 : rdMaker taken (tops known F) W with
  | error x => rw [e1] at e; cases e
  | ok q =>
    rw [e1] at e
    have e : only q.2 q.1 = .ok m := e
    rw [only_ok e]
    exact (rdMaker_ok st hW e1).1
theorem rdMaker_names {taken n1 n2 : List Str} {W : WC} (h : ∀ x, x ∈ n1 ↔ x ∈ n2) : rdMaker taken n1 W = rdMaker taken n2 W := by
  have e : ∀ x, decide (x ∈ n1) = decide (x ∈ n2) := fun x => by rw [decide_eq_decide]; exact h x
  unfold rdMaker
  rw [e, e]
def topsL (known : List Str) (F : List (List Str)) : List Str := known ++ plS ++ F.map fnm
theorem topsL_mem {known : List Str} {F : List (List Str)} (x : Str) : x ∈ topsL known F ↔ x ∈ tops known F := by
  unfold topsL tops plS
  simp only [List.mem_append, List.mem_cons, List.not_mem_nil, or_false]
  constructor
  · rintro ((z | z) | z)
    · exact .inr (.inl z)
    · exact .inl z
    · exact .inr (.inr z)
  · rintro (z | z | z)
    · exact .inl (.inr z)
    · exact .inl (.inl z)
    · exact .inr z
theorem makR_names {taken : List Str} {known : List Str} {F : List (List Str)} {W : WC} : makR taken (topsL known F) W = makR taken (tops known F) W := by
  unfold makR
  rw [rdMaker_names topsL_mem]
def resD (res : Except (Nat × Nat) FM) : PyData := match res with
  | .ok q => pD q.1 q.2
  | .error e => .tuple [.str "syntax", .int ((e.1 : Nat)), .int ((e.2 + 1 : Nat))]
/-- the answer may be res -/
def Fn (K : PySem.W.Frag) (Q : VK) (H : Hp) (res : Except (Nat × Nat) FM) : Prop := ∀ v H', Gr H H' → Dd K H' v (resD res) → Q v H'
theorem Fn.gr {K : PySem.W.Frag} {Q : VK} {H H1 : Hp} {res : Except (Nat × Nat) FM} (h : Fn K Q H res) (g : Gr H H1) : Fn K Q H1 res := fun v H' g' d => h v H' (g.trans g') d
/-- what is known of an answer -/
def Bnd (known : List Str) (res : Except (Nat × Nat) FM) : Prop := match res with
  | .ok q => StR known q.1 q.2 ∧ q.1.length + q.2.length ≤ 50
  | .error e => e.1 ≤ 51 ∧ e.2 ≤ 900000
def FnB (K : PySem.W.Frag) (known : List Str) (Q : VK) (H : Hp) (res : Except (Nat × Nat) FM) : Prop := ∀ v H', Gr H H' → Dd K H' v (resD res) → Bnd known res → Q v H'
theorem FnB.gr {K : PySem.W.Frag} {known : List Str} {Q : VK} {H H1 : Hp} {res : Except (Nat × Nat) FM} (h : FnB K known Q H res) (g : Gr H H1) : FnB K known Q H1 res := fun v H' g' d => h v H' (g.trans g') d
theorem wcs_col : ∀ (l : List Str) (n c : Nat) (w : Str), (c, w) ∈ wcs l n → c + 1 ≤ n + pos l
  | [], _, _, _, h => by cases h
  | x :: r, n, c, w, h => by
    have h : (c, w) ∈ (if x = "" then [] else [(n, x)]) ++ wcs r (n + x.length + 1) := h
    show c + 1 ≤ n + (x.length + 1 + pos r)
    rcases List.mem_append.mp h with z | z
    · split at z
      · cases z
      · rw [List.mem_singleton] at z
        cases z
        omega
    · have := wcs_col r _ _ _ z
      omega
theorem ic_pos {c : Nat} : ∀ l : List Str, l ≠ [] → (ic c (l.map cp)).length + 1 = pos l
  | [], h => absurd rfl h
  | [x], _ => by
    show (cp x).length + 1 = x.length + 1 + 0
    rw [cp_len]
  | x :: y :: r, _ => by
    show (cp x ++ c :: ic c ((y :: r).map cp)).length + 1 = x.length + 1 + pos (y :: r)
    rw [List.length_append, List.length_cons, cp_len, ← ic_pos (c := c) (y :: r) (by simp)]
    omega
theorem split_pos (x : Str) : pos (Txt.split x " ") ≤ x.length + 1 := by
  have e := congrArg cp (StrLaws.join_split x ⟨#[32]⟩)
  rw [cp_join] at e
  by_cases h : Txt.split x " " = []
  · rw [h]; exact Nat.zero_le _
  · have q := ic_pos (c := 32) (Txt.split x " ") h
    rw [← q]
    have l := congrArg List.length e
    rw [cp_len] at l
    have l : (ic 32 ((Txt.split x " ").map cp)).length = x.length := l
    omega
theorem wc_col {x : Str} {j c : Nat} {w : Str} (h : (wc x)[j]? = some (c, w)) : c ≤ x.length := by
  have m := List.mem_of_getElem? h
  unfold wc at m
  rcases List.mem_append.mp m with z | z
  · have := wcs_col _ _ _ _ z
    have := split_pos x
    omega
  · rw [List.mem_singleton] at z
    cases z
    exact Nat.le_refl _
def spTold (K : PySem.W.Frag) : Sp := fun vs H Q _ => ∃ (text : Str) (kl : Addr) (known : List Str), vs = [.str text, .ref kl] ∧ H kl = some (.lst (strV known)) ∧ text.length ≤ 800000 ∧ 37 ∉ cp text ∧ (∀ x ∈ known, isNm x = true) ∧ known.length ≤ 1000 ∧ FnB K known Q H (toldS known 0 [] [] (Txt.split text "\n"))
/-- between two lines of the law's reading -/
structure TI (K : PySem.W.Frag) (known : List Str) (Q : VK) (rows : List Str) (fl ml : Addr) (i : Nat) (FF : List (List Str)) (M : List Mak) (H : Hp) : Prop where
  ex : ∃ fv mv, H fl = some (.lst fv) ∧ TA strV H fv FF ∧ H ml = some (.lst mv) ∧ TA makV H mv M
  st : StR known FF M
  ln : FF.length + M.length ≤ i
  i50 : i ≤ 50
  k : FnB K known Q H (toldS known i FF M (rows.drop i))
section
variable {α : Type} {P : Program} {w : World} {K : PySem.W.Frag} {mg : Str → Option Value} {base : Heap}
/-- [x[0] for x in a list of tuples] -/
theorem lc_first {key : α → Str} {val : α → List V} {a : Addr} {fv : List V} {F : List α} {j : Nat} {te : TE} {σ : L2.St} {H1 : Hp} {D : Addr} {Qd : Hp → Prop} (hD : H1 D = none) (hS : H1 a = some (.lst fv)) (hA : TA val H1 fv F) (hln : F.length ≤ 1000)
    (hw : ∀ x, wipe ((wipe σ [j]).set j (some x)) [j] = wipe σ [j])
    (hs : ∀ (t : Addr) (x : α) (H' : Hp) (C : VK), x ∈ F → H' t = some (.tup (val x)) → C (.str (key x)) H' → te ((wipe σ [j]).set j (some (.ref t))) H' C)
    (hd : ∀ H', Gr H1 H' → H' D = some (.lst (strV (F.map key))) → Qd H') :
    ∃ W : Nat → Nat → Hp → Prop, (∃ m, W 0 m (upd H1 D (.lst []))) ∧ ∀ i m H, W i m H →
      ((Itl K a).stop i H ∧ Qd H) ∨ ((Itl K a).go i H ∧ ∃ Nx : Hp → Prop, (∀ H', Nx H' → ∃ m', m' < m ∧ W (i + 1) m' H') ∧ ∀ x H', (Itl K a).yld i H x H' → gName j x (wipe σ [j]) H' fun σ2 H2 => wipe σ2 [j] = wipe σ [j] ∧ tYes σ2 H2 fun b H3 =>
        if b = true then te σ2 H3 fun y H4 => ∃ acc, H4 D = some (.lst acc) ∧ acc.length < sizeLine ∧ Nx (upd H4 D (.lst (acc ++ [y]))) else Nx H3) := by
  have nD : a ≠ D := ne_of_none hS hD
  refine lc_list (K := K) (a := a) (xs := fv) (fun i H' => Gr H1 H' ∧ H' D = some (.lst (strV ((F.take i).map key)))) ⟨Gr.new hD, upd_same⟩ ?_ ?_ ?_
  · rintro i H' _ ⟨g, _⟩
    exact SqL.of (g.lst hS)
  · rintro i x H' hx ⟨g, hL⟩
    obtain ⟨f, t, hf, rfl, ht⟩ := (hA.m (g.m (S := []))).at hx
    refine ⟨hw _, hs t f H' _ (List.mem_of_getElem? hf) ht ⟨_, hL, ?_, g.upd' hD, ?_⟩⟩
    · show (List.map V.str _).length < _
      rw [List.length_map, List.length_map, List.length_take, sizeLine_eq]
      omega
    · rw [upd_same, List.take_succ, hf, List.map_append]
      unfold strV
      rw [List.map_append]; rfl
  · rintro H' ⟨g, hL⟩
    rw [hA.1, List.take_length] at hL
    exact hd H' g hL
end
end Vf
end
section
set_option Elab.async false
set_option linter.all false
set_option maxRecDepth 100000
set_option maxHeartbeats 4000000
namespace Vf
open PySem PySem.Spec PyProof.Rows L2 GxR GenW RZ
theorem fnm_at {f : List Str} (h : f.length = 9) : (strV f)[0]? = some (V.str (fnm f)) := by
  unfold strV
  rw [List.getElem?_map]
  show Option.map V.str (f[0]?) = _
  rw [fa_at (f := f) (i := 0) (by omega)]; rfl
section
variable {P : Program} {w : World} {K : PySem.W.Frag} {mg : Str → Option Value} {base : Heap}
theorem ok_told {fd : FuncData} (F : FnP K "_law_told" s__law_told fd) (T : TY K mg) (D__law_words : Df P w K mg base "_law_words" 1 p__law_words spLWords) (D__law_read_form : Df P w K mg base "_law_read_form" 2 p__law_read_form spLForm)
    (D__law_read_maker : Df P w K mg base "_law_read_maker" 2 p__law_read_maker spLMaker) : FnOk P w K mg base CX0 3 (He.fAd K ("_law_told", none)) fd p__law_told (spTold K) := by
  refine okP F sc__law_told (fun vs H Q E h => by obtain ⟨text, kl, known, rfl, _⟩ := h; rfl) (fun A outer s H vs Q E hr h => ?_)
  obtain ⟨text, kl, known, rfl, hK, hl, h37, hkn, hk1, kk⟩ := h
  obtain ⟨fn1, fn2, fn3, fn4⟩ := form_ne
  obtain ⟨_, _, _, kwm, kwf⟩ := kw_ne
  refine ⟨_, (pss_cons (ps_par (i := 2) (j := 3) (by rfl) sc__law_told.nd rfl rfl (by decide) rfl rfl (pa_cons (pe_lst pa_nil) (pa_cons (pe_lst pa_nil) pa_nil)) (by rfl))
      (pss_cons (ps_for PassesOwn.never rfl (k_enum (K := K) rfl rfl T.b_enumerate (pa_cons (pe_split (pv 0) pe_str) pa_nil)) (kg_tup 2 (K := K) rfl rfl (pgs_cons (pg_name (i := 4) sc__law_told.nd rfl (by first | exact Or.inl rfl | exact Or.inr rfl)) (pgs_cons (pg_name (i := 5) sc__law_told.nd rfl (by first | exact Or.inl rfl | exact Or.inr rfl)) pgs_nil)))
      (pss_cons (ps_set (i := 6) sc__law_told.nd rfl (by first | exact Or.inl rfl | exact Or.inr rfl) (pe_fn D__law_words hr (by decide) rfl (pa_cons (pv 5) pa_nil)))
      (pss_cons (ps_if (pt_cmpR (u_eq (K := K) rfl hr.units) (pv 4) pe_int (nomark _))
      (pss_one (ps_ret (pe_tup (pa_cons pe_str (pa_cons pe_int (pa_cons pe_int pa_nil))))))
      pss_nil)
      (pss_cons (ps_set (i := 7) sc__law_told.nd rfl (by first | exact Or.inl rfl | exact Or.inr rfl) pe_non)
      (C8.pss_cut (ps_if (pt_cmpR (u_eq (K := K) rfl hr.units) (pe_ix (u_ix (K := K) rfl) (pe_ix (u_ix (K := K) rfl) (pv 6) pe_int (fun _ _ => rfl)) pe_int (fun _ _ => rfl)) pe_str (nomark _))
      (pss_cons (ps_asg (pe_fn D__law_read_form hr (by decide) rfl (pa_cons (pv 6) (pa_cons (pe_lc (own := [("form", 8)]) (g := gName 8) (tt := tYes) rfl sc__law_told.nd (k_list (K := K) rfl (pv 2)) (blkOk_by (own := [("form", 8)]) (N := n__law_told) (sc := defScope s__law_told) (by decide +kernel)) (fun _ _ _ _ _ => (pg_name (i := 8) sc__law_told.nd rfl (by first | exact Or.inl rfl | exact Or.inr rfl))) (fun _ _ _ _ _ => pts_nil) (fun _ _ _ _ _ => (pe_ix (u_ix (K := K) rfl) (pv 8) pe_int (fun _ _ => rfl)))) pa_nil))) (kg_tup 2 (K := K) rfl rfl (pgs_cons (pg_name (i := 9) sc__law_told.nd rfl (by first | exact Or.inl rfl | exact Or.inr rfl)) (pgs_cons (pg_name (i := 7) sc__law_told.nd rfl (by first | exact Or.inl rfl | exact Or.inr rfl)) pgs_nil))))
      (pss_one (ps_set (i := 2) sc__law_told.nd rfl (by first | exact Or.inl rfl | exact Or.inr rfl) (pe_op (u_add (K := K) rfl) (pv 2) (pe_ifExp (pt_cmpR op_isN (pv 7) pe_non (nomark _)) (pe_lst (pa_cons (pv 9) pa_nil)) (pe_lst pa_nil))))))
      (pss_one (ps_if (pt_cmpR (u_eq (K := K) rfl hr.units) (pe_ix (u_ix (K := K) rfl) (pe_ix (u_ix (K := K) rfl) (pv 6) pe_int (fun _ _ => rfl)) pe_int (fun _ _ => rfl)) pe_str (nomark _))
      (pss_cons (ps_set (i := 10) sc__law_told.nd rfl (by first | exact Or.inl rfl | exact Or.inr rfl) (pe_op (u_add (K := K) rfl) (pe_op (u_add (K := K) rfl) (pv 1) (pe_lst (pa_cons pe_str pa_nil))) (pe_lc (own := [("form", 8)]) (g := gName 8) (tt := tYes) rfl sc__law_told.nd (k_list (K := K) rfl (pv 2)) (blkOk_by (own := [("form", 8)]) (N := n__law_told) (sc := defScope s__law_told) (by decide +kernel)) (fun _ _ _ _ _ => (pg_name (i := 8) sc__law_told.nd rfl (by first | exact Or.inl rfl | exact Or.inr rfl))) (fun _ _ _ _ _ => pts_nil) (fun _ _ _ _ _ => (pe_ix (u_ix (K := K) rfl) (pv 8) pe_int (fun _ _ => rfl))))))
      (pss_cons (ps_asg (pe_fn D__law_read_maker hr (by decide) rfl (pa_cons (pv 6) (pa_cons (pv 10) (pa_cons (pe_lc (own := [("maker", 11)]) (g := gName 11) (tt := tYes) rfl sc__law_told.nd (k_list (K := K) rfl (pv 3)) (blkOk_by (own := [("maker", 11)]) (N := n__law_told) (sc := defScope s__law_told) (by decide +kernel)) (fun _ _ _ _ _ => (pg_name (i := 11) sc__law_told.nd rfl (by first | exact Or.inl rfl | exact Or.inr rfl))) (fun _ _ _ _ _ => pts_nil) (fun _ _ _ _ _ => (pe_ix (u_ix (K := K) rfl) (pv 11) pe_int (fun _ _ => rfl)))) pa_nil)))) (kg_tup 2 (K := K) rfl rfl (pgs_cons (pg_name (i := 9) sc__law_told.nd rfl (by first | exact Or.inl rfl | exact Or.inr rfl)) (pgs_cons (pg_name (i := 7) sc__law_told.nd rfl (by first | exact Or.inl rfl | exact Or.inr rfl)) pgs_nil))))
      (pss_one (ps_set (i := 3) sc__law_told.nd rfl (by first | exact Or.inl rfl | exact Or.inr rfl) (pe_op (u_add (K := K) rfl) (pv 3) (pe_ifExp (pt_cmpR op_isN (pv 7) pe_non (nomark _)) (pe_lst (pa_cons (pv 9) pa_nil)) (pe_lst pa_nil)))))))
      (pss_one (ps_if (pt_cmpR op_notN (pe_ix (u_ix (K := K) rfl) (pe_ix (u_ix (K := K) rfl) (pv 6) pe_int (fun _ _ => rfl)) pe_int (fun _ _ => rfl)) pe_non (nomark _))
      (pss_one (ps_set (i := 7) sc__law_told.nd rfl (by first | exact Or.inl rfl | exact Or.inr rfl) pe_int))
      pss_nil)))))
      (pss_one (ps_if (pt_cmpR op_notN (pv 7) pe_non (nomark _))
      (pss_one (ps_ret (pe_tup (pa_cons pe_str (pa_cons (pe_op (u_add (K := K) rfl) (pv 4) pe_int) (pa_cons (pe_op (u_add (K := K) rfl) (pe_ix (u_ix (K := K) rfl) (pe_ix (u_ix (K := K) rfl) (pv 6) (pv 7) (fun _ _ => rfl)) pe_int (fun _ _ => rfl)) pe_int) pa_nil))))))
      pss_nil)))))))
      (pss_one (ps_ret (pe_tup (pa_cons (k_tuple (K := K) rfl rfl T.b_tuple (pv 2)) (pa_cons (k_tuple (K := K) rfl rfl T.b_tuple (pv 3)) pa_nil))))))), ?_⟩
  have sl : ∀ {n : Nat}, n ≤ 1000 → n ≤ sizeLine := fun h => by rw [sizeLine_eq]; omega
  refine ⟨Nat.zero_le _, fun fl hfl => ?_⟩
  refine newH hfl fun H1 g1 s1 => ?_
  refine ⟨Nat.zero_le _, fun ml hml => ?_⟩
  refine newH hml fun H2 g2 s2 => ?_
  refine ⟨_, _, rfl, ?_⟩
  have rl : ∀ p ∈ Txt.split text "\n", p.length ≤ 800000 ∧ 37 ∉ cp p := fun p hp => ⟨Nat.le_trans (split_piece (x := text) 10 hp) hl, fun z => h37 (piece_sub (c := 10) hp _ z)⟩
  generalize hrows : Txt.split text "\n" = rows at *
  refine ⟨_, rfl, ⟨_, rfl⟩, text, "\n", rfl, rfl, by decide +kernel, by rw [sizeLine_eq]; omega, fun L hL => ?_⟩
  rw [hrows]
  refine newH hL fun H3 g3 s3 => ?_
  have G3 := (g1.trans g2).trans g3
  refine ⟨_, _, rfl, SqL.of s3, ?_⟩
  refine for_enum (K := K) (a := L) (xs := strV rows) (fun i σ H' => ∃ fl ml o4 o5 o6 o7 o9 oa FF M, σ = [some (.str text), some (.ref kl), some (.ref fl), some (.ref ml), o4, o5, o6, o7, none, o9, oa, none] ∧ Gr H3 H' ∧ TI K known Q rows fl ml i FF M H')
    ⟨fl, ml, none, none, none, none, none, none, [], [], rfl, Gr.refl _, ⟨[], [], (g2.trans g3).lst s1, TA.nil, g3.lst s2, TA.nil⟩, ⟨by simp, by simp, hkn⟩, Nat.le_refl _, Nat.zero_le _, kk.gr G3⟩ ?_ ?_ ?_
  · rintro i σ H' _ ⟨fl, ml, o4, o5, o6, o7, o9, oa, FF, M, rfl, g, _⟩
    exact SqL.of (g.lst s3)
  · rintro i y Tt σ H' hy ⟨fl, ml, o4, o5, o6, o7, o9, oa, FF, M, rfl, g, ti⟩ hTt
    obtain ⟨row, hrow, rfl⟩ := str_at hy
    have hrk := List.getElem?_eq_some_iff.mp hrow
    have ki := ti.k
    rw [List.drop_eq_getElem_cons hrk.1, hrk.2, toldS_cons] at ki
    refine newH hTt fun H4 g4 s4 => ?_
    refine ⟨_, _, rfl, SqT.of s4, rfl, _, _, rfl, _, _, rfl, rfl, ?_⟩
    obtain ⟨lr, r37⟩ := rl row (List.mem_of_getElem? hrow)
    refine ⟨_, rfl, row, rfl, by omega, fun wl ws H5 g5 hwl swl hLA hlen => ?_⟩
    have g45 := g4.trans g5
    refine ⟨_, rfl, e_flat rfl ⟨_, rfl, ?_⟩⟩
    rw [dvi]
    by_cases h5 : i = 50
    · subst h5
      rw [if_pos rfl] at ki
      rw [decide_eq_true (show ((50 : Nat) : Int) = 50 from rfl)]
      refine iteT ⟨sl (Nat.le_of_ble_eq_true rfl), fun t ht => ?_⟩
      refine newH ht fun H6 g6 s6 => ?_
      exact ki _ H6 (g45.trans g6) (.tup (SqT.of s6) (.cons (.str _) (.cons (.int _) (.cons (.int _) .nil)))) ⟨by decide, by decide⟩
    rw [if_neg h5] at ki
    have i50 := ti.i50
    rw [decide_eq_false (by omega)]
    refine iteF ?_
    have ki := ki.gr g45
    obtain ⟨fv, mv, hfl0, hFF0, hml0, hM0⟩ := ti.ex
    have hfl := g45.lst hfl0
    have hml := g45.lst hml0
    have hFF := hFF0.m (g45.m (S := []))
    have hM := hM0.m (g45.m (S := []))
    have st := ti.st
    have ln := ti.ln
    have hW := wc_wl (x := row) (by omega) r37
    obtain ⟨c, w0, rest, eW, hgo⟩ := hW.go
    have GH5 : Gr H H5 := (G3.trans g).trans g45
    have wat : ∀ {j e : Nat} {x : Str}, (wc row)[j]? = some (e, x) → ∃ t, ws[j]? = some (.ref t) ∧ ∀ H', Gr H5 H' → SqT K H' t [nV x, .int (e : Nat)] := fun e => by
      obtain ⟨t, e1, e2⟩ := hLA.2 _ _ _ e
      exact ⟨t, e1, fun H' g => SqT.of (g.tup e2)⟩
    obtain ⟨t0, t0a, t0b⟩ := wat (j := 0) (by rw [eW]; rfl)
    have lF : (FF.map fnm).length ≤ 50 := by rw [List.length_map]; omega
    have lfv : fv.length ≤ 50 := by rw [hFF.1]; omega
    have lmv : mv.length ≤ 50 := by rw [hM.1]; omega
    rw [eW, lineS_cons] at ki
    refine ⟨fun σ H' => ∃ fl ml o9 oa wv, σ = [some (.str text), some (.ref kl), some (.ref fl), some (.ref ml), some (.int (i : Nat)), some (.str row), some (.ref wl), some wv, none, o9, oa, none] ∧ Gr H5 H' ∧
      ((wv = .non ∧ ∃ FF' M', TI K known Q rows fl ml (i + 1) FF' M' H') ∨ ∃ (j e : Nat) (x : Str), wv = .int (j : Nat) ∧ (wc row)[j]? = some (e, x) ∧ FnB K known Q H' (.error (i + 1, e))), ?_, ?_⟩
    rotate_left
    · rintro σ H6 ⟨fl, ml, o9, oa, wv, rfl, g6, hh⟩
      refine ⟨_, rfl, rfl, _, rfl, ?_⟩
      rcases hh with ⟨rfl, FF', M', ti'⟩ | ⟨j, e, x, rfl, hj, k6⟩
      · rw [decide_eq_true rfl]
        exact iteF ⟨fl, ml, _, _, _, _, _, _, FF', M', rfl, (g.trans g45).trans g6, ti'⟩
      · rw [decide_eq_false (fun z => by cases z)]
        obtain ⟨t, ta, tb⟩ := wat hj
        refine iteT ⟨_, rfl, a_ii ⟨_, rfl, _, rfl, x_l (SqL.of (g6.lst swl)) (atI_nat ta) (x_t (tb _ g6) (atI_nat (j := 1) rfl) (a_ii ⟨sl (Nat.le_of_ble_eq_true rfl), fun t3 ht3 => ?_⟩))⟩⟩
        refine newH ht3 fun H7 g7 s7 => ?_
        exact k6 _ H7 g7 (.tup (SqT.of s7) (.cons (.str _) (.cons (.int _) (.cons (.int _) .nil)))) ⟨by show i + 1 ≤ 51; omega, by have := wc_col hj; show e ≤ 900000; omega⟩
    refine ⟨_, rfl, x_l (SqL.of swl) (atI_nat (j := 0) t0a) (x_t (t0b _ (Gr.refl _)) (atI_nat (j := 0) rfl) (e_flat (nV_scal _ _) ⟨_, rfl, ?_⟩))⟩
    rw [nV_eq kwf]
    by_cases hw1 : w0 = "form"
    · subst hw1
      rw [if_pos rfl, line_form _ _ (fun f => (FF ++ [f], M))] at ki
      rw [decide_eq_true rfl]
      have hWr := (hgo kwf).1
      refine iteT ⟨_, rfl, _, rfl, fl, rfl, ⟨_, SqL.of hfl⟩, fun D hD => ?_⟩
      refine lc_first (key := fnm) (val := strV) (j := 8) hD hfl hFF (by omega) (fun _ => rfl) (fun t x H' C hx ht q => ⟨_, rfl, x_t (SqT.of ht) (atI_nat (j := 0) (fnm_at (st.f x hx).len)) q⟩) (fun H6 g6 s6 => ?_)
      refine ⟨wl, D, ws, wc row, c, "form", rest, FF.map fnm, rfl, g6.lst swl, hLA.m (g6.m (S := [])), eW, hWr, s6, by omega, ?_⟩
      cases e : formR (FF.map fnm) rest with
      | ok f =>
        rw [e] at ki
        have ki : FnB K known Q H5 (toldS known (i + 1) (FF ++ [f]) M (rows.drop (i + 1))) := ki
        have fr := formR_ok e hWr
        intro t f1 H7 g7 s7 hf1
        refine ⟨t, _, rfl, SqT.of s7, rfl, _, _, rfl, _, _, rfl, rfl, ?_⟩
        refine ⟨_, rfl, _, rfl, rfl, _, rfl, ?_⟩
        rw [decide_eq_true rfl]
        refine iteT ⟨_, rfl, sl (Nat.le_of_ble_eq_true rfl), fun l8 hl8 => ?_⟩
        refine newH hl8 fun H8 g8 s8 => ?_
        have g58 := (g6.trans g7).trans g8
        refine a_ll (g58.lst hfl) s8 (by rw [sizeLine_eq]; show _ + 1 ≤ _; omega) fun l9 hl9 => ?_
        refine newH hl9 fun H9 g9 s9 => ?_
        have g59 := g58.trans g9
        refine ⟨l9, ml, _, _, .non, rfl, g59, .inl ⟨rfl, FF ++ [f], M, ⟨_, mv, s9, ?_, g59.lst hml, hM.m (g59.m (S := []))⟩, st.form fr, by rw [List.length_append, List.length_singleton]; omega, by omega, ki.gr g59⟩⟩
        exact (hFF.m (g59.m (S := []))).snoc ((g8.trans g9).tup hf1)
      | error e1 =>
        rw [e] at ki
        have ki : FnB K known Q H5 (.error (i + 1, e1)) := ki
        intro t j H7 g7 s7 hj
        obtain ⟨x, hj⟩ := hj
        refine ⟨t, _, rfl, SqT.of s7, rfl, _, _, rfl, _, _, rfl, rfl, ?_⟩
        refine ⟨_, rfl, _, rfl, rfl, _, rfl, ?_⟩
        rw [decide_eq_false (fun z => by cases z)]
        refine iteF ⟨Nat.zero_le _, fun l8 hl8 => ?_⟩
        refine newH hl8 fun H8 g8 s8 => ?_
        have g58 := (g6.trans g7).trans g8
        refine a_ll (g58.lst hfl) s8 (by rw [sizeLine_eq]; show _ + 0 ≤ _; omega) fun l9 hl9 => ?_
        refine newH hl9 fun H9 g9 s9 => ?_
        exact ⟨l9, ml, _, _, .int (j : Nat), rfl, g58.trans g9, .inr ⟨j, e1, x, rfl, hj, ki.gr (g58.trans g9)⟩⟩
    rw [if_neg hw1] at ki
    rw [decide_eq_false hw1]
    refine iteF ⟨_, rfl, x_l (SqL.of swl) (atI_nat (j := 0) t0a) (x_t (t0b _ (Gr.refl _)) (atI_nat (j := 0) rfl) (e_flat (nV_scal _ _) ⟨_, rfl, ?_⟩))⟩
    rw [nV_eq kwm]
    by_cases hw2 : w0 = "maker"
    · subst hw2
      rw [if_pos rfl, line_mak _ _ _ (fun m => (FF, M ++ [m])), ← makR_names] at ki
      rw [decide_eq_true rfl]
      have hWr := (hgo kwm).1
      refine iteT ⟨_, rfl, sl (Nat.le_of_ble_eq_true rfl), fun n1 hn1 => ?_⟩
      refine newH hn1 fun H6 g6 s6 => ?_
      have hKn : H6 kl = some (.lst (strV known)) := (GH5.trans g6).lst hK
      have lkn : (strV known).length ≤ 1000 := by unfold strV; rw [List.length_map]; exact hk1
      refine a_ll hKn s6 (by rw [sizeLine_eq]; show _ + 1 ≤ _; omega) fun n2 hn2 => ?_
      refine newH hn2 fun H7 g7 s7 => ?_
      have g57 := g6.trans g7
      refine ⟨_, rfl, fl, rfl, ⟨_, SqL.of (g57.lst hfl)⟩, fun D hD => ?_⟩
      refine lc_first (key := fnm) (val := strV) (j := 8) hD (g57.lst hfl) (hFF.m (g57.m (S := []))) (by omega) (fun _ => rfl) (fun t x H' C hx ht q => ⟨_, rfl, x_t (SqT.of ht) (atI_nat (j := 0) (fnm_at (st.f x hx).len)) q⟩) (fun H8 g8 s8 => ?_)
      refine a_ll (g8.lst s7) s8 (by rw [sizeLine_eq, List.length_append]; show _ + 1 + _ ≤ _; have a1 : (strV (FF.map fnm)).length ≤ 50 := by { unfold strV; rw [List.length_map]; exact lF }; omega) fun n3 hn3 => ?_
      refine newH hn3 fun H9 g9 s9 => ?_
      have g59 := (g57.trans g8).trans g9
      have s9 : H9 n3 = some (.lst (strV (topsL known FF))) := s9.trans (by
        unfold topsL strV
        rw [List.map_append, List.map_append]; rfl)
      refine ⟨_, rfl, _, rfl, _, rfl, ml, rfl, ⟨_, SqL.of (g59.lst hml)⟩, fun D2 hD2 => ?_⟩
      refine lc_first (key := fun m : Mak => m.n) (val := makV) (j := 11) hD2 (g59.lst hml) (hM.m (g59.m (S := []))) (by omega) (fun _ => rfl) (fun t x H' C hx ht q => ⟨_, rfl, x_t (SqT.of ht) (atI_nat (j := 0) rfl) q⟩) (fun Ha ga sa => ?_)
      have g5a := g59.trans ga
      refine ⟨wl, n3, D2, ws, wc row, c, "maker", rest, topsL known FF, M.map fun m => m.n, rfl, g5a.lst swl, hLA.m (g5a.m (S := [])), eW, hWr, hlen, ga.lst s9, fun z => st.ne (topsL_mem _ |>.mp z), sa, ?_⟩
      cases e : makR (M.map fun m => m.n) (topsL known FF) rest with
      | ok m =>
        rw [e] at ki
        have ki : FnB K known Q H5 (toldS known (i + 1) FF (M ++ [m]) (rows.drop (i + 1))) := ki
        have mr := makR_ok st hWr (makR_names ▸ e)
        intro t f1 Hb gb sb hf1
        refine ⟨t, _, rfl, SqT.of sb, rfl, _, _, rfl, _, _, rfl, rfl, ?_⟩
        refine ⟨_, rfl, _, rfl, rfl, _, rfl, ?_⟩
        rw [decide_eq_true rfl]
        refine iteT ⟨_, rfl, sl (Nat.le_of_ble_eq_true rfl), fun l8 hl8 => ?_⟩
        refine newH hl8 fun Hc gc sc => ?_
        have g5c := (g5a.trans gb).trans gc
        refine a_ll (g5c.lst hml) sc (by rw [sizeLine_eq]; show _ + 1 ≤ _; omega) fun l9 hl9 => ?_
        refine newH hl9 fun Hd gd sd => ?_
        have g5d := g5c.trans gd
        refine ⟨fl, l9, _, _, .non, rfl, g5d, .inl ⟨rfl, FF, M ++ [m], ⟨fv, _, g5d.lst hfl, hFF.m (g5d.m (S := [])), sd, ?_⟩, st.mak mr, by rw [List.length_append, List.length_singleton]; omega, by omega, ki.gr g5d⟩⟩
        exact (hM.m (g5d.m (S := []))).snoc ((gc.trans gd).tup hf1)
      | error e1 =>
        rw [e] at ki
        have ki : FnB K known Q H5 (.error (i + 1, e1)) := ki
        intro t j Hb gb sb hj
        obtain ⟨x, hj⟩ := hj
        refine ⟨t, _, rfl, SqT.of sb, rfl, _, _, rfl, _, _, rfl, rfl, ?_⟩
        refine ⟨_, rfl, _, rfl, rfl, _, rfl, ?_⟩
        rw [decide_eq_false (fun z => by cases z)]
        refine iteF ⟨Nat.zero_le _, fun l8 hl8 => ?_⟩
        refine newH hl8 fun Hc gc sc => ?_
        have g5c := (g5a.trans gb).trans gc
        refine a_ll (g5c.lst hml) sc (by rw [sizeLine_eq]; show _ + 0 ≤ _; omega) fun l9 hl9 => ?_
        refine newH hl9 fun Hd gd sd => ?_
        exact ⟨fl, l9, _, _, .int (j : Nat), rfl, g5c.trans gd, .inr ⟨j, e1, x, rfl, hj, ki.gr (g5c.trans gd)⟩⟩
    rw [if_neg hw2, only_cons] at ki
    rw [decide_eq_false hw2]
    refine iteF ⟨_, rfl, x_l (SqL.of swl) (atI_nat (j := 0) t0a) (x_t (t0b _ (Gr.refl _)) (atI_nat (j := 0) rfl) ⟨rfl, _, rfl, ?_⟩)⟩
    rw [nV_non]
    by_cases hw3 : w0 = ""
    · rw [if_pos hw3] at ki
      rw [decide_eq_true hw3]
      exact iteF ⟨fl, ml, _, _, .non, rfl, Gr.refl _, .inl ⟨rfl, FF, M, ⟨fv, mv, hfl, hFF, hml, hM⟩, st, by omega, by omega, ki⟩⟩
    · rw [if_neg hw3] at ki
      rw [decide_eq_false hw3]
      exact iteT ⟨fl, ml, _, _, .int (0 : Nat), rfl, Gr.refl _, .inr ⟨0, c, w0, rfl, by rw [eW]; rfl, ki⟩⟩
  · rintro σ H' ⟨fl, ml, o4, o5, o6, o7, o9, oa, FF, M, rfl, g, ti⟩
    obtain ⟨fv, mv, hfl, hFF, hml, hM⟩ := ti.ex
    have ki := ti.k
    have lr : (strV rows).length = rows.length := List.length_map _
    rw [lr, List.drop_length] at ki
    have ki : FnB K known Q H' (.ok (FF, M)) := ki
    refine ⟨_, rfl, ⟨.inl ⟨fl, _, rfl, SqL.of hfl, fun t1 ht1 => ?_⟩⟩⟩
    refine newH ht1 fun H5 g5 s5 => ?_
    refine ⟨_, rfl, ⟨.inl ⟨ml, _, rfl, SqL.of (g5.lst hml), fun t2 ht2 => ?_⟩⟩⟩
    refine newH ht2 fun H6 g6 s6 => ?_
    refine ⟨sl (Nat.le_of_ble_eq_true rfl), fun t3 ht3 => ?_⟩
    refine newH ht3 fun H7 g7 s7 => ?_
    have g57 := (g5.trans g6).trans g7
    refine ki _ H7 g57 (.tup (SqT.of s7) (.cons (.tup (SqT.of ((g6.trans g7).tup s5)) ?_) (.cons (.tup (SqT.of (g7.tup s6)) ?_) .nil))) ⟨ti.st, by have h1 := ti.ln; have h2 := ti.i50; show FF.length + M.length ≤ 50; omega⟩
    · exact (hFF.m (g57.m (S := []))).dat fun f _ t ht => fo_dd ht
    · exact (hM.m (g57.m (S := []))).dat fun m _ t ht => mk_dd ht
end
end Vf
end
section
set_option Elab.async false
set_option linter.all false
set_option maxRecDepth 100000
set_option maxHeartbeats 4000000
namespace Vf
open PySem PySem.Spec PyProof.Rows L2 GxR GenW RZ
abbrev s__law_outcome : Stmt := top 62
abbrev n__law_outcome : List Str := ["text", "known", "found", "caught", "error"]
abbrev p__law_outcome : List Str := ["text", "known"]
theorem sc__law_outcome : FnScope n__law_outcome p__law_outcome (defScope s__law_outcome) := ⟨rfl, rfl, rfl, by decide +kernel, rfl, by decide +kernel, by decide +kernel⟩

def spOut (K : PySem.W.Frag) : Sp := fun vs H Q _ => ∃ (text : Str) (kl : Addr) (known : List Str), vs = [.str text, .ref kl] ∧ H kl = some (.lst (strV known)) ∧ text.length ≤ 800000 ∧ 37 ∉ cp text ∧ (∀ x ∈ known, isNm x = true) ∧ known.length ≤ 1000 ∧ Tb3 K H ∧ Fn K Q H (toldS known 0 [] [] (Txt.split text "\n"))
section
variable {P : Program} {w : World} {K : PySem.W.Frag} {mg : Str → Option Value} {base : Heap}
theorem ok_outcome {fd : FuncData} (F : FnP K "_law_outcome" s__law_outcome fd) (T : TY K mg) (D_parse_program : Dx P w K mg base "parse_program" 7 p_parse_program (spParse K)) : FnOk P w K mg base CX0 8 (He.fAd K ("_law_outcome", none)) fd p__law_outcome (spOut K) := by
  refine okP F sc__law_outcome (fun vs H Q E h => by obtain ⟨text, kl, known, rfl, _⟩ := h; rfl) (fun A outer s H vs Q E hr h => ?_)
  obtain ⟨text, kl, known, rfl, hK, hl, h37, hkn, hk1, hT, kk⟩ := h
  refine ⟨_, (pss_cons (ps_asg (pe_tup (pa_cons pe_non (pa_cons pe_non pa_nil))) (kg_tup 2 (K := K) rfl rfl (pgs_cons (pg_name (i := 2) sc__law_outcome.nd rfl (by first | exact Or.inl rfl | exact Or.inr rfl)) (pgs_cons (pg_name (i := 3) sc__law_outcome.nd rfl (by first | exact Or.inl rfl | exact Or.inr rfl)) pgs_nil))))
      (pss_cons (ps_try_keep (i := 4) rfl rfl sc__law_outcome.nd rfl rfl ⟨rfl, by decide, .inl T.g_ClipError⟩ takesF (fun W pn xe tk _ => (pss_one (ps_set (i := 2) sc__law_outcome.nd rfl (by first | exact Or.inl rfl | exact Or.inr rfl) (pe_fnX tk D_parse_program hr (by decide) rfl (pa_cons (pv 0) (pa_cons (pv 1) pa_nil)))))) (fun a pn => (pss_one (ps_set (i := 3) sc__law_outcome.nd rfl (by first | exact Or.inl rfl | exact Or.inr rfl) (pv 4)))))
      (pss_cons (ps_if (pt_cmpR op_isN (pv 3) pe_non (nomark _))
      (pss_one (ps_ret (pv 2)))
      pss_nil)
      (pss_one (ps_ret (pe_ifExp (pt_val (pe_callB (call_isC (K := K) rfl) rfl T.b_isinstance (by decide +kernel) (pa_cons (pv 3) (pa_cons (pe_ref rfl T.g_SyntaxProblem) pa_nil)))) (pe_tup (pa_cons pe_str (pa_cons (pe_fldC (K := K) rfl (pv 3)) (pa_cons (pe_fldC (K := K) rfl (pv 3)) pa_nil)))) pe_str)))))), ?_⟩
  have sl : ∀ {n : Nat}, n ≤ 1000 → n ≤ sizeLine := fun h => by rw [sizeLine_eq]; omega
  refine ⟨sl (Nat.le_of_ble_eq_true rfl), fun t0 ht0 => ?_⟩
  refine newH ht0 fun H1 g1 s1 => ?_
  refine ⟨t0, _, rfl, SqT.of s1, rfl, _, _, rfl, _, _, rfl, rfl, ?_⟩
  have kk := kk.gr g1
  refine ⟨_, rfl, _, rfl, text, kl, known, rfl, g1.lst hK, hl, h37, hkn, hk1, hT.m (g1.m (S := [])), ?_⟩
  cases e : toldS known 0 [] [] (Txt.split text "\n") with
  | ok q =>
    rw [e] at kk
    intro v H2 g2 dv
    refine ⟨_, rfl, rfl, _, rfl, ?_⟩
    rw [decide_eq_true rfl]
    exact iteT ⟨_, rfl, kk v H2 (g2.gr (by simp)) dv⟩
  | error p =>
    rw [e] at kk
    obtain ⟨l, c⟩ := p
    intro d H2 g2 hd
    refine ⟨true, T.mS, (fun z => by cases z), fun _ a ha => ?_⟩
    have gH : Gr H1 H2 := g2.gr (by simp)
    refine newH ha fun H3 g3 s3 => ?_
    have hd3 : H3 d = some (.xd [("column", .int ((c + 1 : Nat))), ("line", .int ((l : Nat) : Int))]) := g3.keep hd (fun _ z => by cases z)
    refine ⟨_, rfl, ?_⟩
    refine ⟨_, rfl, rfl, _, rfl, ?_⟩
    rw [decide_eq_false (fun z => by cases z)]
    refine iteF ⟨_, rfl, ⟨a, CS K, d, _, .ref (CS K), .ref (CS K), true, rfl, s3, hd3, T.eS, .own _, T.kS, _, rfl, iteT ?_⟩⟩
    refine ⟨_, rfl, ⟨a, CS K, d, _, .int ((l : Nat) : Int), rfl, T.xS, T.lS, s3, hd3, by kernel_rfl, _, rfl, ⟨a, CS K, d, _, .int ((c + 1 : Nat)), rfl, T.xS, T.uS, s3, hd3, by kernel_rfl, sl (Nat.le_of_ble_eq_true rfl), fun t5 ht5 => ?_⟩⟩⟩
    refine newH ht5 fun H4 g4 s4 => ?_
    exact kk _ H4 ((gH.trans g3).trans g4) (.tup (SqT.of s4) (.cons (.str _) (.cons (.int _) (.cons (.int _) .nil))))
end
end Vf
end
section
set_option Elab.async false
set_option linter.all false
set_option maxRecDepth 100000
set_option maxHeartbeats 4000000
namespace Vf
open PySem PySem.Spec PyProof.Rows L2 GxR GenW RZ
abbrev s__law_bent : Stmt := top 63
abbrev n__law_bent : List Str := ["urn", "words", "at", "odd", "fresh", "ahead", "rest", "ways"]
abbrev p__law_bent : List Str := ["urn", "words"]
theorem sc__law_bent : FnScope n__law_bent p__law_bent (defScope s__law_bent) := ⟨rfl, rfl, rfl, by decide +kernel, rfl, by decide +kernel, by decide +kernel⟩

abbrev s__law_broken : Stmt := top 64
abbrev n__law_broken : List Str := ["urn", "text", "at", "odd"]
abbrev p__law_broken : List Str := ["urn", "text"]
theorem sc__law_broken : FnScope n__law_broken p__law_broken (defScope s__law_broken) := ⟨rfl, rfl, rfl, by decide +kernel, rfl, by decide +kernel, by decide +kernel⟩

/-- a list whose things are so -/
structure LV (P : Hp → V → Prop) (H : Hp) (a : Addr) (k : Nat) : Prop where
  ex : ∃ xs, H a = some (.lst xs) ∧ xs.length ≤ k ∧ ∀ x ∈ xs, P H x
def Stb (P : Hp → V → Prop) : Prop := ∀ x H H', Gr H H' → P H x → P H' x
section
variable {K : PySem.W.Frag} {P : Hp → V → Prop} {H H' : Hp} {a b : Addr} {k k2 : Nat} {Q : VK} {lo hi : Option Int}
theorem LV.mv {S : List Addr} (h : LV P H a k) (g : GrM S H H') (ha : a ∉ S) (st : ∀ x, P H x → P H' x) : LV P H' a k := by
  obtain ⟨xs, h1, h2, h3⟩ := h.ex
  exact ⟨xs, g.keep ha h1 (fun _ z => by cases z), h2, fun x hx => st x (h3 x hx)⟩
theorem LV.gr (h : LV P H a k) (st : Stb P) (g : Gr H H') : LV P H' a k := h.mv (g.m (S := [])) (by simp) fun x => st x H H' g
theorem LV.up (h : LV P H a k) (hm : k ≤ k2) : LV P H a k2 := by
  obtain ⟨xs, h1, h2, h3⟩ := h.ex
  exact ⟨xs, h1, by omega, h3⟩
theorem cut_mem {xs : List V} {x : V} (h : x ∈ cutV xs lo hi) : x ∈ xs := List.mem_of_mem_drop (List.mem_of_mem_take h)
theorem LV.cut (h : LV P H a k) (st : Stb P) (q : ∀ l H', Gr H H' → H l = none → LV P H' l k → Q (.ref l) H') : rSlU K (.ref a) lo hi H Q := by
  obtain ⟨xs, h1, h2, h3⟩ := h.ex
  refine sl_l (SqL.of h1) fun l hl => newH hl fun H' g s => q l H' g hl ⟨_, s, Nat.le_trans (cutV_length xs lo hi) h2, fun x hx => st x H H' g (h3 x (cut_mem hx))⟩
theorem LV.cut2 (h : LV P H a k) (st : Stb P) (q : ∀ l H', Gr H H' → H l = none → LV P H' l 2 → Q (.ref l) H') : rSlU K (.ref a) none (some 2) H Q := by
  obtain ⟨xs, h1, h2, h3⟩ := h.ex
  refine sl_l (SqL.of h1) fun l hl => newH hl fun H' g s => q l H' g hl ⟨_, s, ?_, fun x hx => st x H H' g (h3 x (cut_mem hx))⟩
  unfold cutV
  have e2 : HT.sIx xs.length xs.length (some ((2 : Nat) : Int)) = min 2 xs.length := HT.sIx_nat _ _ 2
  have e2' : HT.sIx xs.length xs.length (some 2) = min 2 xs.length := e2
  rw [HT.sIx_none, e2', List.length_take]
  omega
theorem LV.cut1 (h : LV P H a k) (st : Stb P) (q : ∀ l H', Gr H H' → H l = none → LV P H' l 1 → Q (.ref l) H') : rSlU K (.ref a) none (some 1) H Q := by
  obtain ⟨xs, h1, h2, h3⟩ := h.ex
  refine sl_l (SqL.of h1) fun l hl => newH hl fun H' g s => q l H' g hl ⟨_, s, ?_, fun x hx => st x H H' g (h3 x (cut_mem hx))⟩
  unfold cutV
  have e2 : HT.sIx xs.length xs.length (some ((1 : Nat) : Int)) = min 1 xs.length := HT.sIx_nat _ _ 1
  have e2' : HT.sIx xs.length xs.length (some 1) = min 1 xs.length := e2
  rw [HT.sIx_none, e2', List.length_take]
  omega
theorem LV.add (ha : LV P H a k) (hb : LV P H b k2) (st : Stb P) (hs : k + k2 ≤ 1000000) (q : ∀ l H', Gr H H' → H l = none → LV P H' l (k + k2) → Q (.ref l) H') : rAdd K (.ref a) (.ref b) H Q := by
  obtain ⟨xs, h1, h2, h3⟩ := ha.ex
  obtain ⟨ys, k1, k2, k3⟩ := hb.ex
  refine a_ll h1 k1 (by rw [sizeLine_eq]; omega) fun l hl => newH hl fun H' g s => q l H' g hl ⟨_, s, by rw [List.length_append]; omega, fun x hx => st x H H' g ?_⟩
  rcases List.mem_append.mp hx with z | z
  · exact h3 x z
  · exact k3 x z
theorem LV.sq (h : LV P H a k) : ∃ xs, SqL K H a xs ∧ xs.length ≤ k := by
  obtain ⟨xs, h1, h2, h3⟩ := h.ex
  exact ⟨xs, SqL.of h1, h2⟩
theorem LV.rev (h : LV P H a k) (st : Stb P) (q : ∀ l H', Gr H H' → H l = none → LV P H' l k → Q (.ref l) H') : ∃ b xs, V.ref a = .ref b ∧ SqL K H b xs ∧ ∀ p, H p = none → Q (.ref p) (upd H p (.lst xs.reverse)) := by
  obtain ⟨xs, h1, h2, h3⟩ := h.ex
  exact ⟨a, xs, rfl, SqL.of h1, fun l hl => newH hl fun H' g s => q l H' g hl ⟨_, s, by rw [List.length_reverse]; exact h2, fun x hx => st x H H' g (h3 x (List.mem_reverse.mp hx))⟩⟩
end
def OkW (w : Str) : Prop := w.length ≤ 13 ∧ 37 ∉ cp w
def PW : Hp → V → Prop := fun _ x => ∃ w, x = .str w ∧ OkW w
theorem PW_st : Stb PW := fun _ _ _ _ h => h
def odd26 : List Str := (["form", "maker", "from", "to", "cost", "cell", "bold", "link", "escape", "plain", "star", "f", "*", "!"] : List Str) ++ (["a", "0", "007", "1000", "1001", "A", "abcdefghi", "abcdefghijkl", "abcdefghijklm", "**", "own", "9a"] : List Str)
theorem odd_ok : (odd26.all fun w => decide (w.length ≤ 13) && !decide (37 ∈ cp w)) = true := by decide +kernel
theorem odd_ok' {w : Str} (h : w ∈ odd26) : OkW w := by
  have q := List.all_eq_true.mp odd_ok w h
  rw [Bool.and_eq_true] at q
  exact ⟨of_decide_eq_true q.1, by simpa using q.2⟩
def spBent : Sp := fun vs H Q _ => ∃ (u c wl : Addr) (n : Nat), vs = [.ref u, .ref wl] ∧ Urn c H u ∧ LV PW H wl n ∧ wl ≠ u ∧ n ≤ 1000 ∧ ∀ l H', GrM [u] H H' → Urn c H' u → l ≠ u → LV PW H' l (2 * n + 2) → Q (.ref l) H'
section
variable {P : Program} {w : World} {K : PySem.W.Frag} {mg : Str → Option Value} {base : Heap}
theorem ok_bent {fd : FuncData} (F : FnP K "_law_bent" s__law_bent fd) (T : TY K mg) (D__law_upto : Df P w K mg base "_law_upto" 2 p__law_upto spUpto) (D__law_choice : Df P w K mg base "_law_choice" 3 p__law_choice (spChoice K)) : FnOk P w K mg base CX0 4 (He.fAd K ("_law_bent", none)) fd p__law_bent spBent := by
  refine okP F sc__law_bent (fun vs H Q E h => by obtain ⟨u, c, wl, n, rfl, _⟩ := h; rfl) (fun A outer s H vs Q E hr h => ?_)
  obtain ⟨u, c, wl, n, rfl, hu, hw, nwu, hn, k⟩ := h
  refine ⟨_, (pss_cons (ps_set (i := 2) sc__law_bent.nd rfl (by first | exact Or.inl rfl | exact Or.inr rfl) (pe_fn D__law_upto hr (by decide) rfl (pa_cons (pv 0) (pa_cons (pe_op (u_add (K := K) rfl) (pe_callB (k_len (K := K) rfl) rfl T.b_len (by decide +kernel) (pa_cons (pv 1) pa_nil)) pe_int) pa_nil))))
      (pss_cons (ps_set (i := 3) sc__law_bent.nd rfl (by first | exact Or.inl rfl | exact Or.inr rfl) (pe_lst (pa_cons pe_str (pa_cons pe_str (pa_cons pe_str (pa_cons pe_str (pa_cons pe_str (pa_cons pe_str (pa_cons pe_str (pa_cons pe_str (pa_cons pe_str (pa_cons pe_str (pa_cons pe_str (pa_cons pe_str (pa_cons pe_str (pa_cons pe_str pa_nil))))))))))))))))
      (pss_cons (ps_set (i := 3) sc__law_bent.nd rfl (by first | exact Or.inl rfl | exact Or.inr rfl) (pe_op (u_add (K := K) rfl) (pv 3) (pe_lst (pa_cons pe_str (pa_cons pe_str (pa_cons pe_str (pa_cons pe_str (pa_cons pe_str (pa_cons pe_str (pa_cons pe_str (pa_cons pe_str (pa_cons pe_str (pa_cons pe_str (pa_cons pe_str (pa_cons pe_str pa_nil)))))))))))))))
      (pss_cons (ps_par3 (i := 4) (j := 5) (l := 6) (by rfl) sc__law_bent.nd rfl rfl rfl (by decide) (by decide) (by decide) rfl rfl rfl (pa_cons (pe_lst (pa_cons (pe_fn D__law_choice hr (by decide) rfl (pa_cons (pv 0) (pa_cons (pv 3) pa_nil))) pa_nil)) (pa_cons (pe_slice (u_sl (K := K) rfl) (pv 1) po_none (po_some (pv 2))) (pa_cons (pe_slice (u_sl (K := K) rfl) (pv 1) (po_some (pv 2)) po_none) pa_nil))) (by rfl))
      (pss_cons (ps_set (i := 7) sc__law_bent.nd rfl (by first | exact Or.inl rfl | exact Or.inr rfl) (pe_lst (pa_cons (pe_op (u_add (K := K) rfl) (pv 5) (pe_slice (u_sl (K := K) rfl) (pv 6) (po_some pe_int) po_none)) (pa_cons (pe_op (u_add (K := K) rfl) (pe_op (u_add (K := K) rfl) (pv 5) (pv 4)) (pv 6)) pa_nil))))
      (pss_cons (ps_set (i := 7) sc__law_bent.nd rfl (by first | exact Or.inl rfl | exact Or.inr rfl) (pe_op (u_add (K := K) rfl) (pv 7) (pe_lst (pa_cons (pe_op (u_add (K := K) rfl) (pe_op (u_add (K := K) rfl) (pv 5) (pv 4)) (pe_slice (u_sl (K := K) rfl) (pv 6) (po_some pe_int) po_none)) (pa_cons (pe_op (u_add (K := K) rfl) (pe_op (u_add (K := K) rfl) (pv 5) (pe_slice (u_sl (K := K) rfl) (pv 6) po_none (po_some pe_int))) (pv 6)) pa_nil)))))
      (pss_cons (ps_expr (k_bm (K := K) rfl PySem.F.plainAttrs_list PySem.F.slot_list_append PySem.F.type_list_append mt_append (pv 7) (pa_cons (pe_op (u_add (K := K) rfl) (pe_op (u_add (K := K) rfl) (pv 5) (pe_revL (pe_slice (u_sl (K := K) rfl) (pv 6) po_none (po_some pe_int)))) (pe_slice (u_sl (K := K) rfl) (pv 6) (po_some pe_int) po_none)) pa_nil)))
      (pss_one (ps_ret (pe_fn D__law_choice hr (by decide) rfl (pa_cons (pv 0) (pa_cons (pv 7) pa_nil)))))))))))), ?_⟩
  have sl : ∀ {n : Nat}, n ≤ 1000 → n ≤ sizeLine := fun h => by rw [sizeLine_eq]; omega
  obtain ⟨xs, hx1, hx2⟩ := hw.sq (K := K)
  refine ⟨_, rfl, _, rfl, _, _, rfl, .inl ⟨_, hx1, rfl⟩, a_ii ⟨u, c, _, rfl, hu, by omega, by omega, fun r H1 r0 r1 g1 hu1 => ?_⟩⟩
  have j1 := g1.m hu
  have hw1 := hw.mv j1 (by simpa using nwu) fun _ h => h
  refine ⟨sl (Nat.le_of_ble_eq_true rfl), fun o1 ho1 => ?_⟩
  refine newH ho1 fun H2 g2 s2 => ?_
  refine ⟨_, rfl, sl (Nat.le_of_ble_eq_true rfl), fun o2 ho2 => ?_⟩
  refine newH ho2 fun H3 g3 s3 => ?_
  refine a_ll (g3.lst s2) s3 (sl (Nat.le_of_ble_eq_true rfl)) fun o3 ho3 => ?_
  refine newH ho3 fun H4 g4 s4 => ?_
  have s4 : H4 o3 = some (.lst (strV odd26)) := s4
  have g14 := (g2.trans g3).trans g4
  have hu4 := hu1.gr g14
  refine ⟨_, rfl, _, rfl, u, c, o3, _, rfl, hu4, (hu1.gr (g2.trans g3)).ou ho3, .inl (SqL.of s4), by simp [strV, odd26], by decide, fun x H5 hx g5 hu5 => ?_⟩
  obtain ⟨wd0, hwd, rfl⟩ : ∃ t, t ∈ odd26 ∧ x = .str t := by
    unfold strV at hx
    obtain ⟨t, ht, rfl⟩ := List.mem_map.mp hx
    exact ⟨t, ht, rfl⟩
  have j5 := g5.m hu4
  have hw5 := (hw1.gr PW_st g14).mv j5 (by simpa using nwu) fun _ h => h
  refine ⟨sl (Nat.le_of_ble_eq_true rfl), fun fr hfr => ?_⟩
  refine newH hfr fun H6 g6 s6 => ?_
  have hfr6 : LV PW H6 fr 1 := ⟨_, s6, Nat.le_refl _, fun x hx => ⟨wd0, List.mem_singleton.mp hx, odd_ok' hwd⟩⟩
  refine ⟨_, rfl, _, rfl, _, rfl, (hw5.gr PW_st g6).cut PW_st fun ah H7 g7 _ hah => ?_⟩
  refine ⟨_, rfl, _, rfl, _, rfl, ((hw5.gr PW_st g6).gr PW_st g7).cut PW_st fun re H8 g8 _ hre => ?_⟩
  refine ⟨_, _, _, rfl, ?_⟩
  have hu8 := hu5.gr ((g6.trans g7).trans g8)
  have jH : GrM [u] H H8 := ((j1.trans g14.m).trans j5).trans (((g6.trans g7).trans g8).m)
  have ah0 := hah.gr PW_st g8
  have fr0 := (hfr6.gr PW_st g7).gr PW_st g8
  -- the ways
  refine ⟨_, rfl, _, rfl, _, rfl, hre.cut PW_st fun r1 Ha ga _ hr1 => ?_⟩
  refine (ah0.gr PW_st ga).add hr1 PW_st (by omega) fun w1 Hb gb nw1 hw1 => ?_
  have G1 := ga.trans gb
  refine ⟨_, rfl, _, rfl, (ah0.gr PW_st G1).add (fr0.gr PW_st G1) PW_st (by omega) fun m1 Hc gc _ hm1 => ?_⟩
  refine ⟨_, rfl, hm1.add ((hre.gr PW_st G1).gr PW_st gc) PW_st (by omega) fun w2 Hd gd nw2 hw2 => ?_⟩
  refine ⟨sl (Nat.le_of_ble_eq_true rfl), fun W1 hW1 => ?_⟩
  refine newH hW1 fun He ge se => ?_
  have G2 := ((G1.trans gc).trans gd).trans ge
  refine ⟨_, rfl, _, rfl, _, rfl, (ah0.gr PW_st G2).add (fr0.gr PW_st G2) PW_st (by omega) fun m2 Hf gf _ hm2 => ?_⟩
  refine ⟨_, rfl, _, rfl, ((hre.gr PW_st G2).gr PW_st gf).cut PW_st fun r2 Hg gg _ hr2 => ?_⟩
  refine (hm2.gr PW_st gg).add hr2 PW_st (by omega) fun w3 Hh gh nw3 hw3 => ?_
  have G3 := ((G2.trans gf).trans gg).trans gh
  refine ⟨_, rfl, _, rfl, _, rfl, (hre.gr PW_st G3).cut1 PW_st fun r3 Hi gi _ hr3 => ?_⟩
  refine ((ah0.gr PW_st G3).gr PW_st gi).add hr3 PW_st (by omega) fun m3 Hj gj _ hm3 => ?_
  refine ⟨_, rfl, hm3.add (((hre.gr PW_st G3).gr PW_st gi).gr PW_st gj) PW_st (by omega) fun w4 Hk gk nw4 hw4 => ?_⟩
  refine ⟨sl (Nat.le_of_ble_eq_true rfl), fun W2 hW2 => ?_⟩
  refine newH hW2 fun Hl gl sl2 => ?_
  have G4 := (((G3.trans gi).trans gj).trans gk).trans gl
  have seL : Hl W1 = some (.lst [.ref w1, .ref w2]) := ((((((gf.trans gg).trans gh).trans gi).trans gj).trans gk).trans gl).lst se
  refine a_ll seL sl2 (sl (Nat.le_of_ble_eq_true rfl)) fun W3 hW3 => ?_
  refine newH hW3 fun Hm gm sm => ?_
  have G5 := G4.trans gm
  -- the last way
  refine ⟨_, rfl, .inl ⟨rfl, _, SqL.of sm⟩, ?_⟩
  refine ⟨_, rfl, _, rfl, _, rfl, (hre.gr PW_st G5).cut2 PW_st fun r4 Hn gn _ hr4 => ?_⟩
  obtain ⟨ys, y1, y2, y3⟩ := hr4.ex
  refine ⟨r4, ys, rfl, SqL.of y1, fun r5 hr5n => ?_⟩
  refine newH hr5n fun Ho go so => ?_
  have hr5 : LV PW Ho r5 2 := ⟨_, so, by rw [List.length_reverse]; exact y2, fun x hx => y3 x (List.mem_reverse.mp hx)⟩
  have gno := gn.trans go
  refine ((ah0.gr PW_st G5).gr PW_st gno).add hr5 PW_st (by omega) fun m4 Hpp gp _ hm4 => ?_
  refine ⟨_, rfl, _, rfl, (((hre.gr PW_st G5).gr PW_st gno).gr PW_st gp).cut PW_st fun r6 Hq gq _ hr6 => ?_⟩
  refine (hm4.gr PW_st gq).add hr6 PW_st (by omega) fun w5 Hr gr' nw5 hw5' => ?_
  have gmr := ((gno.trans gp).trans gq).trans gr'
  have smr := gmr.lst sm
  refine ⟨W3, _, _, rfl, rfl, smr, sl (Nat.le_of_ble_eq_true rfl), ?_⟩
  have G6 := G5.trans gmr
  have l1 : LV PW Hr w1 (2 * n + 2) := (((hw1.gr PW_st (((gc.trans gd).trans ge).trans (gf.trans (gg.trans (gh.trans (gi.trans (gj.trans (gk.trans (gl.trans gm)))))))))).gr PW_st gmr).up (by omega)
  have l2 : LV PW Hr w2 (2 * n + 2) := ((hw2.gr PW_st (ge.trans (gf.trans (gg.trans (gh.trans (gi.trans (gj.trans (gk.trans (gl.trans gm))))))))).gr PW_st gmr).up (by omega)
  have l3 : LV PW Hr w3 (2 * n + 2) := ((hw3.gr PW_st (gi.trans (gj.trans (gk.trans (gl.trans gm))))).gr PW_st gmr).up (by omega)
  have l4 : LV PW Hr w4 (2 * n + 2) := ((hw4.gr PW_st (gl.trans gm)).gr PW_st gmr).up (by omega)
  have l5 : LV PW Hr w5 (2 * n + 2) := hw5'.up (by omega)
  have gu : GrM [W3] Hr (upd Hr W3 (.lst ([V.ref w1, .ref w2] ++ [.ref w3, .ref w4] ++ [.ref w5]))) := (GrM.refl _ _).upd (by simp) (Mu.lst smr)
  have nW3u : W3 ≠ u := (hu8.gr G4).ou hW3
  have huR := hu8.gr G6
  have hus : Urn c (upd Hr W3 (.lst ([V.ref w1, .ref w2] ++ [.ref w3, .ref w4] ++ [.ref w5]))) u := huR.updD nW3u ((hu8.gr G4).oc hW3)
  have sW : (upd Hr W3 (.lst ([V.ref w1, .ref w2] ++ [.ref w3, .ref w4] ++ [.ref w5]))) W3 = some (.lst ([V.ref w1, .ref w2] ++ [.ref w3, .ref w4] ++ [.ref w5])) := upd_same
  generalize upd Hr W3 (.lst ([V.ref w1, .ref w2] ++ [.ref w3, .ref w4] ++ [.ref w5])) = Hs at gu hus sW ⊢
  have nW : ∀ {x : Addr} {k : Nat} {HH : Hp}, LV PW HH x k → HH W3 = none → x ≠ W3 := fun h z => by
    obtain ⟨ys, e, _⟩ := h.ex
    exact ne_of_none e z
  have n1 : w1 ≠ W3 := nW (hw1.gr PW_st (((gc.trans gd).trans ge).trans (gf.trans (gg.trans (gh.trans (gi.trans (gj.trans (gk.trans gl)))))))) hW3
  have n2 : w2 ≠ W3 := nW (hw2.gr PW_st (ge.trans (gf.trans (gg.trans (gh.trans (gi.trans (gj.trans (gk.trans gl)))))))) hW3
  have n3 : w3 ≠ W3 := nW (hw3.gr PW_st (gi.trans (gj.trans (gk.trans gl)))) hW3
  have n4 : w4 ≠ W3 := nW (hw4.gr PW_st gl) hW3
  have n5 : w5 ≠ W3 := Ne.symm (ne_of_none ((((gno.trans gp).trans gq)).lst sm) nw5)
  have u1 : w1 ≠ u := (hu8.gr ga).ou nw1
  have u2 : w2 ≠ u := (hu8.gr (G1.trans gc)).ou nw2
  have u3 : w3 ≠ u := (hu8.gr ((G2.trans gf).trans gg)).ou nw3
  have u4 : w4 ≠ u := (hu8.gr ((G3.trans gi).trans gj)).ou nw4
  have u5 : w5 ≠ u := (hu8.gr (G5.trans ((gno.trans gp).trans gq))).ou nw5
  refine ⟨_, rfl, _, rfl, u, c, W3, _, rfl, hus, nW3u, .inl (SqL.of sW), by simp, by show 5 < 1073741824; decide, fun x Ht hx gt hut => ?_⟩
  have jt := gt.m hus
  have jAll : GrM [u] H Ht := by
    have q : GrM [u, W3] H Ht := (((jH.trans G6.m).mono (by simp)).trans (gu.mono (by simp))).trans (jt.mono (by simp))
    refine q.drop fun b hb => ?_
    rcases List.mem_cons.mp hb with z | z
    · exact .inl (by simp [z])
    · rw [List.mem_singleton.mp z]
      refine .inr ((jH.trans G4.m).free (by simpa using nW3u) hW3)
  have fin : ∀ {x : Addr}, x ≠ W3 → x ≠ u → LV PW Hr x (2 * n + 2) → Q (.ref x) Ht := fun a b h => k _ Ht jAll hut b ((h.mv gu (by simpa using a) fun _ h => h).mv jt (by simpa using b) fun _ h => h)
  simp only [List.mem_append, List.mem_cons, List.not_mem_nil, or_false] at hx
  rcases hx with ((rfl | rfl) | (rfl | rfl)) | rfl
  · exact fin n1 u1 l1
  · exact fin n2 u2 l2
  · exact fin n3 u3 l3
  · exact fin n4 u4 l4
  · exact fin n5 u5 l5
end
end Vf
end
section
set_option Elab.async false
set_option linter.all false
set_option maxRecDepth 100000
set_option maxHeartbeats 4000000
namespace Vf
open PySem PySem.Spec PyProof.Rows L2 GxR GenW RZ
/-! ### how large the answers are -/
structure Gd (k b : Nat) (d : PyData) : Prop where
  sh : d.showable = true
  dp : d.depth ≤ k
  ln : d.shown.length ≤ b
  cl : d.canLay0 = true
theorem Gd.str {x : Str} (h1 : x.length ≤ 20) (h2 : PyData.canLay0 (.str x) = true) : Gd 0 300 (.str x) := by
  refine ⟨by simp only [PyData.showable], by simp only [PyData.depth]; omega, ?_, h2⟩
  have q := StrLaws.reprText_len x fun c hc => by
    simp only [PyData.canLay0, PyData.strOk] at h2
    rw [← Array.all_toList] at h2
    have q2 := List.all_eq_true.mp h2 c hc
    have q3 : c < 0x110000 := by simpa using q2
    omega
  simp only [PyData.shown]
  omega
theorem Gd.int {n : Nat} (h : n < 10 ^ 12) : Gd 0 300 (.int ((n : Nat) : Int)) :=
  ⟨by
    simp only [PyData.showable]
    refine decide_eq_true ?_
    rw [Int.natAbs_natCast]
    refine Nat.lt_of_le_of_lt ?_ (show 41 < 1920 by decide)
    by_cases i0 : n = 0
    · subst i0; decide
    · exact Nat.le_of_lt_succ ((Nat.log2_lt i0).mpr (by omega)), by simp only [PyData.depth]; omega, Nat.le_trans (PyData.shown_int_le (by rw [Int.natAbs_natCast]; exact h)) (by decide), rfl⟩
theorem Gd.tup {k b n : Nat} {ds : List PyData} (hl : ds.length ≤ n) (h : ∀ e ∈ ds, Gd k b e) : Gd (k + 1) (n * (b + 10) + 10) (.tuple ds) := by
  have hd := depAll_of (k := k) fun e he => (h e he).dp
  have hc : PyData.canLayAll0 ds = true := canLayAll_of fun e he => (h e he).cl
  obtain ⟨h1, h2⟩ := shownAll_sum (k := b) fun e he => (h e he).ln
  have h3 : ds.length * b ≤ n * b := Nat.mul_le_mul_right _ hl
  refine ⟨?_, by simp only [PyData.depth]; omega, ?_, hc⟩
  · simp only [PyData.showable]
    exact showAll_of fun e he => (h e he).sh
  · simp only [PyData.shown]
    have q := tupleText_len_le (PyData.shownAll ds)
    rw [Nat.mul_add]
    omega
theorem Gd.lst {k b n : Nat} {ds : List PyData} (hl : ds.length ≤ n) (h : ∀ e ∈ ds, Gd k b e) : Gd (k + 1) (n * (b + 10) + 10) (.list ds) := by
  have hd := depAll_of (k := k) fun e he => (h e he).dp
  have hc : PyData.canLayAll0 ds = true := canLayAll_of fun e he => (h e he).cl
  obtain ⟨h1, h2⟩ := shownAll_sum (k := b) fun e he => (h e he).ln
  have h3 : ds.length * b ≤ n * b := Nat.mul_le_mul_right _ hl
  refine ⟨?_, by simp only [PyData.depth]; omega, ?_, hc⟩
  · simp only [PyData.showable]
    exact showAll_of fun e he => (h e he).sh
  · simp only [PyData.shown]
    have q := listText_len_le (PyData.shownAll ds)
    rw [Nat.mul_add]
    omega
theorem Gd.more {k b k' b' : Nat} {d : PyData} (h : Gd k b d) (hk : k ≤ k') (hb : b ≤ b') : Gd k' b' d := ⟨h.sh, Nat.le_trans h.dp hk, Nat.le_trans h.ln hb, h.cl⟩
def Four (d : PyData) : Prop := d.showable = true ∧ (d.hasDict = true → noLst d = true) ∧ d.depth < 60 ∧ d.shown.length ≤ sizeLine
theorem Gd.four {k b : Nat} {d : PyData} (h : Gd k b d) (hk : k < 60) (hb : b ≤ 16777216) : Four d := by
  refine ⟨h.sh, fun z => ?_, Nat.lt_of_le_of_lt h.dp hk, by rw [sizeLine_eq]; exact Nat.le_trans h.ln hb⟩
  rw [PyData.hasDict_of_canLay d h.cl] at z
  cases z
theorem fD_gd {f : List Str} (fr : FR f) : Gd 1 2800 (fD f) := by
  refine (Gd.tup (k := 0) (b := 300) (n := 9) (by rw [List.length_map, fr.len]; exact Nat.le_refl _) fun e he => ?_).more (Nat.le_refl _) (by decide)
  obtain ⟨x, hx, rfl⟩ := List.mem_map.mp he
  obtain ⟨nm, acc, e⟩ : ∃ nm acc, f = nm :: acc := by
    cases f with
    | nil => have := fr.len; cases this
    | cons a b => exact ⟨a, b, rfl⟩
  subst e
  rcases List.mem_cons.mp hx with z | z
  · subst z
    have h : isNm x = true := fr.nm
    exact Gd.str (Nat.le_trans (nm_len h) (by decide)) (nm_lay h)
  · have ok : AccOk acc := fr.ok
    refine Gd.str ?_ (ok.lay x z)
    rcases ok x z with y | y
    · rw [y]; decide
    · rw [sgn_len y]; decide
theorem mD_gd {m : Mak} (mr : MR m) : Gd 1 2800 (mD m) := by
  have n12 := ws_len mr.n
  have s12 := nm_len mr.s
  have t12 := nm_len mr.t
  have c12 := mr.c
  refine (Gd.tup (k := 0) (b := 300) (n := 9) (by show 4 ≤ 9; decide) fun e he => ?_).more (Nat.le_refl _) (by decide)
  simp only [List.mem_cons, List.not_mem_nil, or_false] at he
  rcases he with z | z | z | z
  · rw [z]; exact Gd.str (by omega) (ws_lay mr.n)
  · rw [z]; exact Gd.str (by omega) (nm_lay mr.s)
  · rw [z]; exact Gd.str (by omega) (nm_lay mr.t)
  · rw [z]; exact Gd.int (by omega)
theorem res_four {known : List Str} {res : Except (Nat × Nat) FM} (h : Bnd known res) : Four (resD res) := by
  cases res with
  | ok q =>
    obtain ⟨st, ln⟩ := h
    have g1 : Gd 2 150000 (.tuple (q.1.map fD)) := (Gd.tup (k := 1) (b := 2800) (n := 50) (by rw [List.length_map]; omega) fun e he => by
      obtain ⟨f, hf, rfl⟩ := List.mem_map.mp he
      exact fD_gd (st.f f hf)).more (Nat.le_refl _) (by decide)
    have g2 : Gd 2 150000 (.tuple (q.2.map mD)) := (Gd.tup (k := 1) (b := 2800) (n := 50) (by rw [List.length_map]; omega) fun e he => by
      obtain ⟨f, hf, rfl⟩ := List.mem_map.mp he
      exact mD_gd (st.m f hf)).more (Nat.le_refl _) (by decide)
    refine (Gd.tup (k := 2) (b := 150000) (n := 2) (Nat.le_refl _) fun e he => ?_).four (by decide) (by decide)
    rcases List.mem_cons.mp he with z | z
    · rw [z]; exact g1
    · rw [List.mem_singleton.mp z]; exact g2
  | error e =>
    obtain ⟨l, c⟩ := e
    obtain ⟨h1, h2⟩ := h
    have h1 : l ≤ 51 := h1
    have h2 : c ≤ 900000 := h2
    refine (Gd.tup (k := 0) (b := 300) (n := 3) (Nat.le_refl _) fun e he => ?_).four (by decide) (by decide)
    simp only [List.mem_cons, List.not_mem_nil, or_false] at he
    rcases he with z | z | z
    · rw [z]; exact Gd.str (by decide) (by decide +kernel)
    · rw [z]; exact Gd.int (by omega)
    · rw [z]; exact Gd.int (by omega)
/-! ### texts -/
def OkT (k : Nat) (x : Str) : Prop := x.length ≤ k ∧ 37 ∉ cp x
theorem OkT.app {a b : Nat} {x y : Str} (h : OkT a x) (g : OkT b y) : OkT (a + b) (x ++ y) := by
  refine ⟨?_, ?_⟩
  · have : (x ++ y : Str).length = x.length + y.length := strLen_append _ _
    have := h.1
    have := g.1
    omega
  · rw [cp_app]
    intro z
    rcases List.mem_append.mp z with z | z
    · exact h.2 z
    · exact g.2 z
theorem cutS_sub {x : Str} {lo hi : Option Int} : ∀ d ∈ cp (cutS x lo hi), d ∈ cp x := fun d hd => List.mem_of_mem_drop (List.mem_of_mem_take hd)
theorem sl_sT {K : PySem.W.Frag} {H : Hp} {Q : VK} {z : Str} {lo hi : Option Int} (h : z.length ≤ sizeLine) (q : Q (.str (cutS z lo hi)) H) : rSlU K (.str z) lo hi H Q := ⟨.inr (.inr ⟨z, rfl, h, q⟩)⟩
theorem cut_two (x : Str) {r j : Nat} (h : r ≤ x.length) : (cutS x none (some (r : Int))).length + (cutS x (some ((r + j : Nat) : Int)) none).length ≤ x.length := by
  have e1 : HT.sIx x.length x.length (some ((r : Nat) : Int)) = min r x.length := HT.sIx_nat _ _ r
  have e2 : HT.sIx x.length 0 (some ((r + j : Nat) : Int)) = min (r + j) x.length := HT.sIx_nat _ _ (r + j)
  rw [← cp_len, ← cp_len]
  unfold cutS
  show (List.take _ (List.drop _ _)).length + (List.take _ (List.drop _ _)).length ≤ _
  rw [List.length_take, List.length_take, e1, e2, HT.sIx_none, HT.sIx_none]
  omega
def oddT : List Str := [" ", "  ", "\n", "\t", "a", "0", "*", "!", "A", "", ""]
theorem oddT_ok : (oddT.all fun w => decide (w.length ≤ 2) && !decide (37 ∈ cp w)) = true := by decide +kernel
def spBroken : Sp := fun vs H Q _ => ∃ (u c : Addr) (x : Str) (n : Nat), vs = [.ref u, .str x] ∧ Urn c H u ∧ OkT n x ∧ n ≤ 700000 ∧ ∀ y H', GrM [u] H H' → Urn c H' u → OkT (n + 2) y → Q (.str y) H'
section
variable {P : Program} {w : World} {K : PySem.W.Frag} {mg : Str → Option Value} {base : Heap}
theorem ok_broken {fd : FuncData} (F : FnP K "_law_broken" s__law_broken fd) (T : TY K mg) (D__law_upto : Df P w K mg base "_law_upto" 2 p__law_upto spUpto) (D__law_choice : Df P w K mg base "_law_choice" 3 p__law_choice (spChoice K)) : FnOk P w K mg base CX0 4 (He.fAd K ("_law_broken", none)) fd p__law_broken spBroken := by
  refine okP F sc__law_broken (fun vs H Q E h => by obtain ⟨u, c, x, n, rfl, _⟩ := h; rfl) (fun A outer s H vs Q E hr h => ?_)
  obtain ⟨u, c, x, n, rfl, hu, hx, hn, k⟩ := h
  refine ⟨_, (pss_cons (ps_set (i := 2) sc__law_broken.nd rfl (by first | exact Or.inl rfl | exact Or.inr rfl) (pe_fn D__law_upto hr (by decide) rfl (pa_cons (pv 0) (pa_cons (pe_op (u_add (K := K) rfl) (pe_callB (k_len (K := K) rfl) rfl T.b_len (by decide +kernel) (pa_cons (pv 1) pa_nil)) pe_int) pa_nil))))
      (pss_cons (ps_set (i := 3) sc__law_broken.nd rfl (by first | exact Or.inl rfl | exact Or.inr rfl) (pe_lst (pa_cons pe_str (pa_cons pe_str (pa_cons pe_str (pa_cons pe_str (pa_cons pe_str (pa_cons pe_str (pa_cons pe_str (pa_cons pe_str (pa_cons pe_str (pa_cons pe_str (pa_cons pe_str pa_nil)))))))))))))
      (pss_one (ps_ret (pe_op (u_add (K := K) rfl) (pe_op (u_add (K := K) rfl) (pe_slice (u_sl (K := K) rfl) (pv 1) po_none (po_some (pv 2))) (pe_fn D__law_choice hr (by decide) rfl (pa_cons (pv 0) (pa_cons (pv 3) pa_nil)))) (pe_slice (u_sl (K := K) rfl) (pv 1) (po_some (pe_op (u_add (K := K) rfl) (pv 2) (pe_fn D__law_upto hr (by decide) rfl (pa_cons (pv 0) (pa_cons pe_int pa_nil))))) po_none)))))), ?_⟩
  have sl : ∀ {n : Nat}, n ≤ 1000 → n ≤ sizeLine := fun h => by rw [sizeLine_eq]; omega
  have xl := hx.1
  refine ⟨_, rfl, _, rfl, _, _, rfl, ⟨by rw [sizeLine_eq]; omega, rfl⟩, a_ii ⟨u, c, _, rfl, hu, by omega, by omega, fun r H1 r0 r1 g1 hu1 => ?_⟩⟩
  obtain ⟨r, rfl⟩ := Int.eq_ofNat_of_zero_le r0
  have r1 : r ≤ x.length := by omega
  have j1 := g1.m hu
  refine ⟨sl (Nat.le_of_ble_eq_true rfl), fun o1 ho1 => ?_⟩
  refine newH ho1 fun H2 g2 s2 => ?_
  have s2 : H2 o1 = some (.lst (strV oddT)) := s2
  have hu2 := hu1.gr g2
  refine ⟨_, rfl, _, rfl, _, rfl, sl_sT (by rw [sizeLine_eq]; omega) ?_⟩
  refine ⟨_, rfl, _, rfl, u, c, o1, _, rfl, hu2, hu1.ou ho1, .inl (SqL.of s2), by simp [strV, oddT], by decide, fun y H3 hy g3 hu3 => ?_⟩
  obtain ⟨wd0, hwd, rfl⟩ : ∃ t, t ∈ oddT ∧ y = .str t := by
    unfold strV at hy
    obtain ⟨t, ht, rfl⟩ := List.mem_map.mp hy
    exact ⟨t, ht, rfl⟩
  have ow : OkT 2 wd0 := by
    have q := List.all_eq_true.mp oddT_ok wd0 hwd
    rw [Bool.and_eq_true] at q
    exact ⟨of_decide_eq_true q.1, by simpa using q.2⟩
  have j3 := g3.m hu2
  have o1' : OkT (cutS x none (some ((r : Nat) : Int))).length (cutS x none (some ((r : Nat) : Int))) := ⟨Nat.le_refl _, fun z => hx.2 (cutS_sub _ z)⟩
  have lc := cut_two x (r := r) (j := 0) r1
  have w2 := ow.1
  refine a_ss (by rw [sizeLine_eq]; have := cut_two x (r := r) (j := 0) r1; omega) ?_
  refine ⟨_, rfl, _, rfl, _, rfl, u, c, 3, rfl, hu3, by decide, by decide, fun j H4 j0 j3' g4 hu4 => ?_⟩
  obtain ⟨j, rfl⟩ := Int.eq_ofNat_of_zero_le j0
  have j4 := g4.m hu3
  refine a_ii ⟨_, rfl, sl_sT (by rw [sizeLine_eq]; omega) ?_⟩
  have lc2 := cut_two x (r := r) (j := j) r1
  have o2' : OkT (cutS x (some ((r + j : Nat) : Int)) none).length (cutS x (some ((r + j : Nat) : Int)) none) := ⟨Nat.le_refl _, fun z => hx.2 (cutS_sub _ z)⟩
  have oa := (o1'.app ow).app o2'
  have la := oa.1
  refine a_ss ?_ ?_
  · have q := (o1'.app ow).1
    have e : (cutS x (some (((r : Nat) : Int) + ((j : Nat) : Int))) none).length = (cutS x (some ((r + j : Nat) : Int)) none).length := rfl
    rw [sizeLine_eq]
    omega
  · exact k _ H4 (((j1.trans g2.m).trans j3).trans j4) hu4 ⟨by have e : (cutS x none (some ((r : Nat) : Int)) ++ wd0 ++ cutS x (some (((r : Nat) : Int) + ((j : Nat) : Int))) none : Str) = cutS x none (some ((r : Nat) : Int)) ++ wd0 ++ cutS x (some ((r + j : Nat) : Int)) none := rfl
                                                               show (cutS x none (some ((r : Nat) : Int)) ++ wd0 ++ cutS x (some ((r + j : Nat) : Int)) none : Str).length ≤ n + 2
                                                               omega, oa.2⟩
end
end Vf
end
section
set_option Elab.async false
set_option linter.all false
set_option maxRecDepth 100000
set_option maxHeartbeats 4000000
namespace Vf
open PySem PySem.Spec PyProof.Rows L2 GxR GenW RZ
abbrev s_law : Stmt := top 65
abbrev n_law : List Str := ["script", "urn", "texts", "turn", "forms", "makers", "form", "maker", "lines", "again", "bent", "lap", "place", "fresh", "ahead", "rest", "ways", "words", "text", "known"]
abbrev p_law : List Str := ["script"]
theorem sc_law : FnScope n_law p_law (defScope s_law) := ⟨rfl, rfl, rfl, by decide +kernel, rfl, by decide +kernel, by decide +kernel⟩

def spLaw (K : PySem.W.Frag) : Sp := fun vs H Q _ => ∃ (a : Addr) (ns : List Int), vs = [.ref a] ∧ SqL K H a (ns.map V.int) ∧ ns.length ≤ 63 ∧ Tb3 K H ∧ ∀ H', Q (.bl true) H'
def PT : Hp → V → Prop := fun _ x => ∃ s, x = .str s ∧ OkT 700000 s
theorem PT_st : Stb PT := fun _ _ _ _ h => h
def PL (u : Addr) (n : Nat) : Hp → V → Prop := fun H x => ∃ l, x = .ref l ∧ l ≠ u ∧ LV PW H l n
theorem PL_st (u : Addr) (n : Nat) : Stb (PL u n) := fun x H H' g ⟨l, e, h1, h2⟩ => ⟨l, e, h1, h2.gr PW_st g⟩
theorem PL_m {u : Addr} {n : Nat} {H H' : Hp} (g : GrM [u] H H') : ∀ x, PL u n H x → PL u n H' x := fun x ⟨l, e, h1, h2⟩ => ⟨l, e, h1, h2.mv g (by simpa using h1) fun _ h => h⟩
theorem PL_up {u : Addr} {n m : Nat} {H : Hp} (hm : n ≤ m) : ∀ x, PL u n H x → PL u m H x := fun x ⟨l, e, h1, h2⟩ => ⟨l, e, h1, h2.up hm⟩
def kL : Nat → Nat
  | 0 => 10
  | t + 1 => 2 * kL t + 1
def kW : Nat → Nat
  | 0 => 16
  | t + 1 => 2 * kW t + 2
theorem k_bounds : ∀ t, t ≤ 3 → kL t ≤ 87 ∧ kW t ≤ 142 := by decide
theorem rep_ok {t : Str} {k : Nat} (e : cp t = (List.replicate k (cp "\n")).flatten) : OkT k t := by
  have e2 : (List.replicate k (cp "\n")).flatten = List.replicate k 10 := by
    clear e
    induction k with
    | zero => rfl
    | succ k ih => rw [List.replicate_succ, List.flatten_cons, ih]; rfl
  rw [e2] at e
  refine ⟨?_, ?_⟩
  · rw [← cp_len, e, List.length_replicate]; exact Nat.le_refl _
  · rw [e]
    intro z
    have := List.eq_of_mem_replicate z
    omega
theorem OkT.up {a b : Nat} {x : Str} (h : OkT a x) (hb : a ≤ b) : OkT b x := ⟨Nat.le_trans h.1 hb, h.2⟩
theorem lits_ok : (([("" : Str), "form f", "form", "program x", "form plain", "maker", "form f bold * bold + escape !", "form f link * + escape !"] : List Str).all fun w => decide (w.length ≤ 40) && !decide (37 ∈ cp w)) = true := by decide +kernel
theorem lit_ok {x : Str} (h : x ∈ ([("" : Str), "form f", "form", "program x", "form plain", "maker", "form f bold * bold + escape !", "form f link * + escape !"] : List Str)) : OkT 40 x := by
  have q := List.all_eq_true.mp lits_ok x h
  rw [Bool.and_eq_true] at q
  exact ⟨of_decide_eq_true q.1, by simpa using q.2⟩
/-- a join of what is without the sign -/
theorem join_pc {c : Nat} (hc : c ≠ 37) : ∀ l : List Str, (∀ x ∈ l, 37 ∉ cp x) → 37 ∉ cp (Txt.join ⟨#[c]⟩ l) := fun l h z => by
  have key : ∀ ps : List (List Nat), (∀ p ∈ ps, 37 ∉ p) → 37 ∉ ic c ps := fun ps => by
    induction ps with
    | nil => intro _ z; cases z
    | cons a r ih =>
      intro hp z
      cases r with
      | nil => exact hp a List.mem_cons_self z
      | cons b s =>
        have z : 37 ∈ a ++ c :: ic c (b :: s) := z
        rcases List.mem_append.mp z with z | z
        · exact hp a List.mem_cons_self z
        · rcases List.mem_cons.mp z with z | z
          · exact hc z.symm
          · exact ih (fun p hp' => hp p (List.mem_cons_of_mem _ hp')) z
  have e : cp (Txt.join ⟨#[c]⟩ l) = ic c (l.map cp) := by
    show cp (Builtin.Str.glued ⟨#[c]⟩ l) = _
    rw [StrLaws.glued_eq_join, cp_join]
  rw [e] at z
  refine key _ (fun p hp => ?_) z
  obtain ⟨x, hx, rfl⟩ := List.mem_map.mp hp
  exact h x hx
/-- the words of a list, as texts -/
theorem LV.texts {K : PySem.W.Frag} {H : Hp} {a : Addr} {k : Nat} (h : LV PW H a k) : ∃ ws : List Str, H a = some (.lst (strV ws)) ∧ ws.length ≤ k ∧ ∀ w ∈ ws, OkW w := by
  obtain ⟨xs, h1, h2, h3⟩ := h.ex
  have key : ∀ xs : List V, (∀ x ∈ xs, PW H x) → ∃ ws : List Str, xs = strV ws ∧ ∀ w ∈ ws, OkW w := fun xs => by
    induction xs with
    | nil => exact fun _ => ⟨[], rfl, by simp⟩
    | cons x r ih =>
      intro hx
      obtain ⟨w, rfl, hw⟩ := hx x List.mem_cons_self
      obtain ⟨ws, e, hws⟩ := ih fun y hy => hx y (List.mem_cons_of_mem _ hy)
      refine ⟨w :: ws, by rw [e]; rfl, fun y hy => ?_⟩
      rcases List.mem_cons.mp hy with z | z
      · rw [z]; exact hw
      · exact hws y z
  obtain ⟨ws, e, hws⟩ := key xs h3
  subst e
  refine ⟨ws, h1, ?_, hws⟩
  unfold strV at h2
  rw [List.length_map] at h2
  exact h2
theorem row_ok {ws : List Str} {k : Nat} (hl : ws.length ≤ k) (h : ∀ w ∈ ws, OkW w) : OkT (k * 14) (Txt.join " " ws) :=
  ⟨Nat.le_trans (join_len (b := 13) fun x hx => (h x hx).1) (Nat.mul_le_mul_right _ hl), join_pc (c := 32) (by decide) ws fun x hx => (h x hx).2⟩
theorem fw_ok {f : List Str} (fo : FOk f) : (fwords f).length ≤ 16 ∧ ∀ x ∈ fwords f, OkW x := ⟨fwords_len f, fun x hx => ⟨by have := (fwords_mem fo x hx).2; omega, (fwords_mem fo x hx).1.2.2.2⟩⟩
theorem mw_ok {m : Mak} (mo : MOk m) : (mwords m).length ≤ 16 ∧ ∀ x ∈ mwords m, OkW x := ⟨by show 8 ≤ 16; decide, fun x hx => ⟨by have := (mwords_mem mo x hx).2; omega, (mwords_mem mo x hx).1.2.2.2⟩⟩
theorem LV.of {H : Hp} {l : Addr} {ws : List Str} {k : Nat} (h : H l = some (.lst (strV ws))) (hl : ws.length ≤ k) (hw : ∀ w ∈ ws, OkW w) : LV PW H l k := by
  refine ⟨_, h, by unfold strV; rw [List.length_map]; exact hl, fun x hx => ?_⟩
  unfold strV at hx
  obtain ⟨w, hw', rfl⟩ := List.mem_map.mp hx
  exact ⟨w, rfl, hw w hw'⟩
/-- between two texts of the law -/
structure WI (K : PySem.W.Frag) (u c tx : Addr) (k : Nat) (H : Hp) : Prop where
  hu : Urn c H u
  tb : Tb3 K H
  ht : LV PT H tx k
  hn : tx ≠ u
theorem WI.gr {K : PySem.W.Frag} {u c tx : Addr} {k : Nat} {H H' : Hp} (h : WI K u c tx k H) (g : Gr H H') : WI K u c tx k H' := ⟨h.hu.gr g, h.tb.m (g.m (S := [])), h.ht.gr PT_st g, h.hn⟩
theorem WI.m {K : PySem.W.Frag} {u c tx : Addr} {k : Nat} {H H' : Hp} (h : WI K u c tx k H) (g : GrM [u] H H') (hu : Urn c H' u) : WI K u c tx k H' := ⟨hu, h.tb.m g, h.ht.mv g (by simpa using h.hn) (fun _ h => h), h.hn⟩
end Vf
end
section
set_option Elab.async false
set_option linter.all false
set_option maxRecDepth 100000
set_option maxHeartbeats 4000000
namespace Vf
open PySem PySem.Spec PyProof.Rows L2 GxR GenW RZ
section
variable {P : Program} {w : World} {K : PySem.W.Frag} {mg : Str → Option Value} {base : Heap}
theorem ok_law {fd : FuncData} (F : FnP K "law" s_law fd) (T : TY K mg) (D__law_urn_of : Df P w K mg base "_law_urn_of" 1 p__law_urn_of (spUrnOf K)) (D__law_upto : Df P w K mg base "_law_upto" 2 p__law_upto spUpto) (D__law_choice : Df P w K mg base "_law_choice" 3 p__law_choice (spChoice K))
    (D__law_some_program : Df P w K mg base "_law_some_program" 4 p__law_some_program (spProg K)) (D__law_form_words : Df P w K mg base "_law_form_words" 1 p__law_form_words spFW) (D__law_maker_words : Df P w K mg base "_law_maker_words" 1 p__law_maker_words spMW)
    (D__law_bent : Df P w K mg base "_law_bent" 4 p__law_bent spBent) (D__law_broken : Df P w K mg base "_law_broken" 4 p__law_broken spBroken) (D__law_equal : DfG P w K mg base "_law_equal" 1 p__law_equal (spEqual K))
    (D__law_outcome : Df P w K mg base "_law_outcome" 8 p__law_outcome (spOut K)) (D__law_told : Df P w K mg base "_law_told" 3 p__law_told (spTold K)) : FnG P w K mg base CX0 9 (He.fAd K ("law", none)) fd p_law (spLaw K) := by
  refine okQ F sc_law (fun vs H Q E h => by obtain ⟨a, ns, rfl, _⟩ := h; rfl) (fun A outer s H vs Q E hgu hr h => ?_)
  obtain ⟨a, ns, rfl, hS, hl, tb, k⟩ := h
  refine ⟨_, (pss_cons (ps_set (i := 1) sc_law.nd rfl (by first | exact Or.inl rfl | exact Or.inr rfl) (pe_fn D__law_urn_of hr (by decide) rfl (pa_cons (pv 0) pa_nil)))
      (pss_cons (ps_set (i := 2) sc_law.nd rfl (by first | exact Or.inl rfl | exact Or.inr rfl) (pe_lst (pa_cons pe_str (pa_cons (pe_op (u_mulX (K := K) rfl) pe_str pe_int) (pa_cons (pe_op (u_mulX (K := K) rfl) pe_str pe_int) (pa_cons (pe_op (u_add (K := K) rfl) (pe_op (u_mulX (K := K) rfl) pe_str pe_int) pe_str) (pa_cons (pe_op (u_add (K := K) rfl) (pe_op (u_mulX (K := K) rfl) pe_str pe_int) pe_str) (pa_cons pe_str (pa_cons pe_str pa_nil)))))))))
      (pss_cons (ps_set (i := 2) sc_law.nd rfl (by first | exact Or.inl rfl | exact Or.inr rfl) (pe_op (u_add (K := K) rfl) (pv 2) (pe_lst (pa_cons pe_str (pa_cons pe_str (pa_cons pe_str (pa_cons pe_str pa_nil)))))))
      (pss_cons (ps_for PassesOwn.never rfl (pi_range1 rfl T.b_range (pa_cons pe_int pa_nil)) (pg_name (i := 3) sc_law.nd rfl (by first | exact Or.inl rfl | exact Or.inr rfl))
      (pss_cons (ps_asg (pe_fn D__law_some_program hr (by decide) rfl (pa_cons (pv 1) (pa_cons (pe_lst (pa_cons pe_str pa_nil)) pa_nil))) (kg_tup 2 (K := K) rfl rfl (pgs_cons (pg_name (i := 4) sc_law.nd rfl (by first | exact Or.inl rfl | exact Or.inr rfl)) (pgs_cons (pg_name (i := 5) sc_law.nd rfl (by first | exact Or.inl rfl | exact Or.inr rfl)) pgs_nil))))
      (pss_cons (ps_set (i := 8) sc_law.nd rfl (by first | exact Or.inl rfl | exact Or.inr rfl) (pe_op (u_add (K := K) rfl) (pe_lc (own := [("form", 6)]) (g := gName 6) (tt := tYes) rfl sc_law.nd (k_tup (K := K) rfl (pv 4)) (blkOk_by (own := [("form", 6)]) (N := n_law) (sc := defScope s_law) (by decide +kernel)) (fun _ _ _ _ _ => (pg_name (i := 6) sc_law.nd rfl (by first | exact Or.inl rfl | exact Or.inr rfl))) (fun _ _ _ _ _ => pts_nil) (fun _ _ _ _ _ => (pe_fn D__law_form_words hr (by decide) rfl (pa_cons (pv 6) pa_nil)))) (pe_lc (own := [("maker", 7)]) (g := gName 7) (tt := tYes) rfl sc_law.nd (k_tup (K := K) rfl (pv 5)) (blkOk_by (own := [("maker", 7)]) (N := n_law) (sc := defScope s_law) (by decide +kernel)) (fun _ _ _ _ _ => (pg_name (i := 7) sc_law.nd rfl (by first | exact Or.inl rfl | exact Or.inr rfl))) (fun _ _ _ _ _ => pts_nil) (fun _ _ _ _ _ => (pe_fn D__law_maker_words hr (by decide) rfl (pa_cons (pv 7) pa_nil))))))
      (pss_one (ps_for PassesOwn.never rfl (pi_range1 rfl T.b_range (pa_cons pe_int pa_nil)) (pg_name (i := 9) sc_law.nd rfl (by first | exact Or.inl rfl | exact Or.inr rfl))
      (pss_cons (ps_set (i := 10) sc_law.nd rfl (by first | exact Or.inl rfl | exact Or.inr rfl) (pe_callTy (call_listU (K := K) rfl rfl) rfl T.b_list (by decide +kernel) (pa_cons (pv 8) pa_nil)))
      (C8.pss_cut (ps_for PassesOwn.never rfl (pi_range1 rfl T.b_range (pa_cons (pe_ifExp (pt_cmpR (u_neW (K := K) rfl hr.units) (pv 10) (pe_lst pa_nil) (nomark _)) (pe_op (u_add (K := K) rfl) pe_int (pe_fn D__law_upto hr (by decide) rfl (pa_cons (pv 1) (pa_cons pe_int pa_nil)))) pe_int) pa_nil)) (pg_name (i := 11) sc_law.nd rfl (by first | exact Or.inl rfl | exact Or.inr rfl))
      (pss_cons (ps_set (i := 12) sc_law.nd rfl (by first | exact Or.inl rfl | exact Or.inr rfl) (pe_fn D__law_upto hr (by decide) rfl (pa_cons (pv 1) (pa_cons (pe_callB (k_len (K := K) rfl) rfl T.b_len (by decide +kernel) (pa_cons (pv 10) pa_nil)) pa_nil))))
      (pss_cons (ps_set (i := 13) sc_law.nd rfl (by first | exact Or.inl rfl | exact Or.inr rfl) (pe_lst (pa_cons (pe_fn D__law_bent hr (by decide) rfl (pa_cons (pv 1) (pa_cons (pe_ix (u_ix (K := K) rfl) (pv 10) (pv 12) (fun _ _ => rfl)) pa_nil))) pa_nil)))
      (pss_one (ps_set (i := 10) sc_law.nd rfl (by first | exact Or.inl rfl | exact Or.inr rfl) (pe_op (u_add (K := K) rfl) (pe_op (u_add (K := K) rfl) (pe_slice (u_sl (K := K) rfl) (pv 10) po_none (po_some (pv 12))) (pv 13)) (pe_slice (u_sl (K := K) rfl) (pv 10) (po_some (pe_op (u_add (K := K) rfl) (pv 12) pe_int)) po_none)))))))
      (pss_cons (ps_set (i := 12) sc_law.nd rfl (by first | exact Or.inl rfl | exact Or.inr rfl) (pe_fn D__law_upto hr (by decide) rfl (pa_cons (pv 1) (pa_cons (pe_op (u_add (K := K) rfl) (pe_callB (k_len (K := K) rfl) rfl T.b_len (by decide +kernel) (pa_cons (pv 10) pa_nil)) pe_int) pa_nil))))
      (pss_cons (ps_par (i := 14) (j := 15) (by rfl) sc_law.nd rfl rfl (by decide) rfl rfl (pa_cons (pe_slice (u_sl (K := K) rfl) (pv 10) po_none (po_some (pv 12))) (pa_cons (pe_slice (u_sl (K := K) rfl) (pv 10) (po_some (pv 12)) po_none) pa_nil)) (by rfl))
      (pss_cons (ps_set (i := 16) sc_law.nd rfl (by first | exact Or.inl rfl | exact Or.inr rfl) (pe_lst (pa_cons (pv 10) (pa_cons (pv 10) (pa_cons (pe_op (u_add (K := K) rfl) (pv 14) (pe_slice (u_sl (K := K) rfl) (pv 15) (po_some pe_int) po_none)) pa_nil)))))
      (pss_cons (ps_set (i := 10) sc_law.nd rfl (by first | exact Or.inl rfl | exact Or.inr rfl) (pe_fn D__law_choice hr (by decide) rfl (pa_cons (pv 1) (pa_cons (pe_op (u_add (K := K) rfl) (pv 16) (pe_lst (pa_cons (pe_op (u_add (K := K) rfl) (pv 10) (pv 14)) (pa_cons (pe_op (u_add (K := K) rfl) (pe_revL (pv 14)) (pv 15)) pa_nil)))) pa_nil))))
      (pss_cons (ps_set (i := 18) sc_law.nd rfl (by first | exact Or.inl rfl | exact Or.inr rfl) (k_join (K := K) rfl pe_str (pe_lc (own := [("words", 17)]) (g := gName 17) (tt := tYes) rfl sc_law.nd (k_list (K := K) rfl (pv 10)) (blkOk_by (own := [("words", 17)]) (N := n_law) (sc := defScope s_law) (by decide +kernel)) (fun _ _ _ _ _ => (pg_name (i := 17) sc_law.nd rfl (by first | exact Or.inl rfl | exact Or.inr rfl))) (fun _ _ _ _ _ => pts_nil) (fun _ _ _ _ _ => (k_join (K := K) rfl pe_str (pv 17))))))
      (pss_one (ps_set (i := 2) sc_law.nd rfl (by first | exact Or.inl rfl | exact Or.inr rfl) (pe_op (u_add (K := K) rfl) (pv 2) (pe_lst (pa_cons (pv 18) (pa_cons (pe_fn D__law_broken hr (by decide) rfl (pa_cons (pv 1) (pa_cons (pv 18) pa_nil))) pa_nil))))))))))))))))))
      (pss_cons (ps_for PassesOwn.never rfl (k_list (K := K) rfl (pv 2)) (pg_name (i := 18) sc_law.nd rfl (by first | exact Or.inl rfl | exact Or.inr rfl))
      (pss_cons (ps_set (i := 19) sc_law.nd rfl (by first | exact Or.inl rfl | exact Or.inr rfl) (pe_fn D__law_choice hr (by decide) rfl (pa_cons (pv 1) (pa_cons (pe_lst (pa_cons (pe_lst (pa_cons pe_str pa_nil)) (pa_cons (pe_lst pa_nil) pa_nil))) pa_nil))))
      (pss_one (ps_if (pt_not (pt_val (pe_fnG hgu D__law_equal hr (by decide) rfl (pa_cons (pe_fn D__law_outcome hr (by decide) rfl (pa_cons (pv 18) (pa_cons (pv 19) pa_nil))) (pa_cons (pe_fn D__law_told hr (by decide) rfl (pa_cons (pv 18) (pa_cons (pv 19) pa_nil))) pa_nil)))))
      (pss_one (ps_ret pe_bl))
      pss_nil))))
      (pss_one (ps_ret pe_bl))))))), ?_⟩
  have sl : ∀ {n : Nat}, n ≤ 1000 → n ≤ sizeLine := fun h => by rw [sizeLine_eq]; omega
  refine ⟨_, rfl, a, ns, rfl, hS, hl, fun u c H1 hu0 hc0 g1 hu1 => ?_⟩
  have tb1 := tb.m (g1.m (S := []))
  -- the first texts
  refine mx_s (k := 49) (by decide) (by decide) (by decide) fun t1 e1 => ?_
  refine mx_s (k := 50) (by decide) (by decide) (by decide) fun t2 e2 => ?_
  refine mx_s (k := 49) (by decide) (by decide) (by decide) fun t3 e3 => ?_
  have o1 := rep_ok e1
  have o2 := rep_ok e2
  have o3 := rep_ok e3
  have f6 : ("form f" : Str).length = 6 ∧ ("form" : Str).length = 4 := by decide +kernel
  refine a_ss (by rw [f6.1, sizeLine_eq]; have := o3.1; omega) ?_
  refine mx_s (k := 50) (by decide) (by decide) (by decide) fun t4 e4 => ?_
  have o4 := rep_ok e4
  refine a_ss (by rw [f6.2, sizeLine_eq]; have := o4.1; omega) ?_
  refine ⟨sl (Nat.le_of_ble_eq_true rfl), fun l1 hl1 => ?_⟩
  refine newH hl1 fun H2 g2 s2 => ?_
  refine ⟨_, rfl, sl (Nat.le_of_ble_eq_true rfl), fun l2 hl2 => ?_⟩
  refine newH hl2 fun H3 g3 s3 => ?_
  have lt1 : LV PT H2 l1 7 := ⟨_, s2, Nat.le_refl _, fun x hx => by
    simp only [List.mem_cons, List.not_mem_nil, or_false] at hx
    rcases hx with rfl | rfl | rfl | rfl | rfl | rfl | rfl
    · exact ⟨_, rfl, (lit_ok (by simp)).up (by decide)⟩
    · exact ⟨_, rfl, o1.up (by decide)⟩
    · exact ⟨_, rfl, o2.up (by decide)⟩
    · exact ⟨_, rfl, (o3.app (lit_ok (x := "form f") (by simp))).up (by decide)⟩
    · exact ⟨_, rfl, (o4.app (lit_ok (x := "form") (by simp))).up (by decide)⟩
    · exact ⟨_, rfl, (lit_ok (by simp)).up (by decide)⟩
    · exact ⟨_, rfl, (lit_ok (by simp)).up (by decide)⟩⟩
  have lt2 : LV PT H3 l2 4 := ⟨_, s3, Nat.le_refl _, fun x hx => by
    simp only [List.mem_cons, List.not_mem_nil, or_false] at hx
    rcases hx with rfl | rfl | rfl | rfl
    · exact ⟨_, rfl, (lit_ok (by simp)).up (by decide)⟩
    · exact ⟨_, rfl, (lit_ok (by simp)).up (by decide)⟩
    · exact ⟨_, rfl, (lit_ok (by simp)).up (by decide)⟩
    · exact ⟨_, rfl, (lit_ok (by simp)).up (by decide)⟩⟩
  refine (lt1.gr PT_st g3).add lt2 PT_st (by decide) fun tx H4 g4 ntx htx => ?_
  have g24 := (g2.trans g3).trans g4
  have wi : WI K u c tx 11 H4 := ⟨hu1.gr g24, tb1.m (g24.m (S := [])), htx, (hu1.gr (g2.trans g3)).ou ntx⟩
  refine ⟨10, rfl, by decide, by decide, ?_⟩
  refine for_range (lo := 0) (n := 10) (fun i σ H' => ∃ tx o3 o4 o5 o8 o9 oa ob oc od oe of og oi oj, σ = [some (.ref a), some (.ref u), some (.ref tx), o3, o4, o5, none, none, o8, o9, oa, ob, oc, od, oe, of, og, none, oi, oj] ∧ WI K u c tx (11 + 10 * i) H')
    ⟨tx, none, none, none, none, none, none, none, none, none, none, none, none, none, none, rfl, wi⟩ ?_ ?_
  · rintro i σ H5 hi ⟨tx, o3, o4, o5, o8, o9, oa, ob, oc, od, oe, of, og, oi, oj, rfl, wi⟩
    -- a program
    refine ⟨_, rfl, sl (Nat.le_of_ble_eq_true rfl), fun kl hkl => ?_⟩
    have nkl := wi.hu.ou hkl
    refine newH hkl fun H6 g6 s6 => ?_
    have wi6 := wi.gr g6
    refine ⟨u, c, kl, ["own"], rfl, wi6.hu, s6, nkl, by decide, fun tp tf tm fv mv FF M H7 g7 hu7 htp htf HF htm HM pr => ?_⟩
    have wi7 := wi6.m (g7.m wi6.hu) hu7
    refine ⟨tp, _, rfl, SqT.of htp, rfl, _, _, rfl, _, _, rfl, rfl, ?_⟩
    -- its lines
    have fl := pr.fl
    have ml := pr.ml
    refine ⟨_, rfl, tf, rfl, ⟨_, SqT.of htf⟩, fun D1 hD1 => ?_⟩
    have D1u := hu7.ou hD1
    refine lc_tup (K := K) (a := tf) (xs := fv) (fun i H' => Gr H7 H' ∧ ∃ ys, H' D1 = some (.lst ys) ∧ ys.length ≤ i ∧ ∀ y ∈ ys, ∃ l, y = .ref l ∧ l ≠ u ∧ l ≠ D1 ∧ LV PW H' l 16) ⟨Gr.new hD1, [], upd_same, Nat.le_refl _, by simp⟩ ?_ ?_ ?_
    · rintro i H' _ ⟨g, _⟩
      exact SqT.of (g.tup htf)
    · rintro i x H' hx ⟨g, ys, hL, hn, hy⟩
      obtain ⟨f, t, hf, rfl, ht⟩ := (HF.m (g.m (S := []))).at hx
      have il := (List.getElem?_eq_some_iff.mp hf).1
      have fo := pr.fo f (List.mem_of_getElem? hf)
      refine ⟨rfl, ?_⟩
      refine ⟨_, rfl, t, f, rfl, ht, fo.len, fun lw H9 g9 hlw slw => ?_⟩
      have hL9 := g9.lst hL
      have nlx : lw ≠ D1 := Ne.symm (ne_of_none hL hlw)
      have nlu : lw ≠ u := (hu7.gr g).ou hlw
      refine ⟨ys, hL9, by rw [sizeLine_eq]; omega, (g.trans g9).upd' hD1, _, upd_same, by rw [List.length_append]; exact Nat.succ_le_succ hn, fun y hy' => ?_⟩
      have gu : GrM [D1] H9 (upd H9 D1 (.lst (ys ++ [V.ref lw]))) := (GrM.refl _ _).upd (by simp) (Mu.lst hL9)
      rcases List.mem_append.mp hy' with z | z
      · obtain ⟨l, e, n1, n2, h⟩ := hy y z
        exact ⟨l, e, n1, n2, (h.gr PW_st g9).mv gu (by simpa using n2) fun _ h => h⟩
      · exact ⟨lw, List.mem_singleton.mp z, nlu, nlx, (LV.of slw (fw_ok fo).1 (fw_ok fo).2).mv gu (by simpa using nlx) fun _ h => h⟩
    rintro H8 ⟨g8, ys1, hL1, hn1, hy1⟩
    rw [HF.1] at hn1
    have wi8 := wi7.gr g8
    have lv1 : LV (PL u 16) H8 D1 4 := ⟨_, hL1, by omega, fun y hy => by
      obtain ⟨l, e, n1, _, h⟩ := hy1 y hy
      exact ⟨l, e, n1, h⟩⟩
    refine ⟨_, rfl, tm, rfl, ⟨_, SqT.of (g8.tup htm)⟩, fun D2 hD2 => ?_⟩
    refine lc_tup (K := K) (a := tm) (xs := mv) (fun i H' => Gr H8 H' ∧ ∃ ys, H' D2 = some (.lst ys) ∧ ys.length ≤ i ∧ ∀ y ∈ ys, ∃ l, y = .ref l ∧ l ≠ u ∧ l ≠ D2 ∧ LV PW H' l 16) ⟨Gr.new hD2, [], upd_same, Nat.le_refl _, by simp⟩ ?_ ?_ ?_
    · rintro i H' _ ⟨g, _⟩
      exact SqT.of (g.tup (g8.tup htm))
    · rintro i x H' hx ⟨g, ys, hL, hn, hy⟩
      obtain ⟨m, t, hm, rfl, ht⟩ := (HM.m ((g8.trans g).m (S := []))).at hx
      have il := (List.getElem?_eq_some_iff.mp hm).1
      have mo := pr.mo m (List.mem_of_getElem? hm)
      refine ⟨rfl, ?_⟩
      refine ⟨_, rfl, t, m, rfl, ht, (cost_facts _ mo.c).2.2.2.2.1, fun lw H9 g9 hlw slw => ?_⟩
      have hL9 := g9.lst hL
      have nlx : lw ≠ D2 := Ne.symm (ne_of_none hL hlw)
      have nlu : lw ≠ u := (wi8.hu.gr g).ou hlw
      refine ⟨ys, hL9, by rw [sizeLine_eq]; omega, (g.trans g9).upd' hD2, _, upd_same, by rw [List.length_append]; exact Nat.succ_le_succ hn, fun y hy' => ?_⟩
      have gu : GrM [D2] H9 (upd H9 D2 (.lst (ys ++ [V.ref lw]))) := (GrM.refl _ _).upd (by simp) (Mu.lst hL9)
      rcases List.mem_append.mp hy' with z | z
      · obtain ⟨l, e, n1, n2, h⟩ := hy y z
        exact ⟨l, e, n1, n2, (h.gr PW_st g9).mv gu (by simpa using n2) fun _ h => h⟩
      · exact ⟨lw, List.mem_singleton.mp z, nlu, nlx, (LV.of slw (mw_ok mo).1 (mw_ok mo).2).mv gu (by simpa using nlx) fun _ h => h⟩
    rintro H9 ⟨g9, ys2, hL2, hn2, hy2⟩
    rw [HM.1] at hn2
    have wi9 := wi8.gr g9
    have lv2 : LV (PL u 16) H9 D2 6 := ⟨_, hL2, by omega, fun y hy => by
      obtain ⟨l, e, n1, _, h⟩ := hy2 y hy
      exact ⟨l, e, n1, h⟩⟩
    refine (lv1.gr (PL_st u 16) g9).add lv2 (PL_st u 16) (by decide) fun L Ha ga nL hL => ?_
    have wia := wi9.gr ga
    have Lu : L ≠ u := wi9.hu.ou nL
    refine ⟨5, rfl, by decide, by decide, ?_⟩
    refine for_range (lo := 0) (n := 5) (fun j σ H' => ∃ tx o9 oa ob oc od oe of og oi, σ = [some (.ref a), some (.ref u), some (.ref tx), some (.int (0 + (i : Nat))), some (.ref tf), some (.ref tm), none, none, some (.ref L), o9, oa, ob, oc, od, oe, of, og, none, oi, oj] ∧ WI K u c tx (11 + 10 * i + 2 * j) H' ∧ LV (PL u 16) H' L 10)
      ⟨tx, _, _, _, _, _, _, _, _, _, rfl, wia, hL⟩ ?_ ?_
    · rintro j σ Hb hj ⟨tx, o9, oa, ob, oc, od, oe, of, og, oi, rfl, wib, hLb⟩
      obtain ⟨lx, hlx1, hlx2, hlx3⟩ := hLb.ex
      refine ⟨_, rfl, lsU_q (.inl (SqL.of hlx1)) fun b0 hb0 => ?_⟩
      refine newH hb0 fun Hc gc sc => ?_
      have wic := wib.gr gc
      have hLc := hLb.gr (PL_st u 16) gc
      have hx0 : ∀ x ∈ lx, PL u (kW 0) Hc x := fun x hx => PL_st u 16 x _ _ gc (hlx3 x hx)
      -- some laps
      have nb0 : b0 ≠ u := wib.hu.ou hb0
      refine ⟨fun σ H' => ∃ b ob oc od, σ = [some (.ref a), some (.ref u), some (.ref tx), some (.int (0 + (i : Nat))), some (.ref tf), some (.ref tm), none, none, some (.ref L), some (.int (0 + (j : Nat))), some (.ref b), ob, oc, od, oe, of, og, none, oi, oj] ∧
        WI K u c tx (11 + 10 * i + 2 * j) H' ∧ LV (PL u 16) H' L 10 ∧ LV (PL u 142) H' b 87 ∧ b ≠ u, ?_, ?_⟩
      · refine ⟨_, rfl, Nat.zero_le _, fun l0 hl0 => ?_⟩
        refine newH hl0 fun Hd gd sd => ?_
        have wid := wic.gr gd
        have hLd := hLc.gr (PL_st u 16) gd
        have scd := gd.lst sc
        have hx0d : ∀ x ∈ lx, PL u (kW 0) Hd x := fun x hx => PL_st u 16 x _ _ gd (hx0 x hx)
        refine wn_nil (SqL.of scd) (SqL.of sd) ⟨_, rfl, ite2 (fun h1 => ?_) (fun h1 => ?_)⟩
        · have ne : lx ≠ [] := fun z => by
            rw [decide_eq_true z] at h1
            cases h1
          refine ⟨_, rfl, u, c, 3, rfl, wid.hu, by decide, by decide, fun r He r0 r3 ge hue => ?_⟩
          obtain ⟨r, rfl⟩ := Int.eq_ofNat_of_zero_le r0
          have je := ge.m wid.hu
          refine a_ii ⟨((1 + r : Nat) : Int), rfl, by omega, by omega, ?_⟩
          refine for_range (lo := 0) (n := 1 + r) (fun t σ H' => ∃ b ob oc od xs, σ = [some (.ref a), some (.ref u), some (.ref tx), some (.int (0 + (i : Nat))), some (.ref tf), some (.ref tm), none, none, some (.ref L), some (.int (0 + (j : Nat))), some (.ref b), ob, oc, od, oe, of, og, none, oi, oj] ∧
              WI K u c tx (11 + 10 * i + 2 * j) H' ∧ LV (PL u 16) H' L 10 ∧ H' b = some (.lst xs) ∧ xs ≠ [] ∧ xs.length ≤ kL t ∧ (∀ x ∈ xs, PL u (kW t) H' x) ∧ b ≠ u)
            ⟨b0, _, _, _, lx, rfl, wid.m je hue, hLd.mv je (by simpa using Lu) (PL_m je), je.keep (by simpa using nb0) scd (fun _ z => by cases z), ne, hlx2, fun x hx => PL_m je x (hx0d x hx), nb0⟩ ?_ ?_
          · rintro t σ Hf ht ⟨b, ob, oc, od, xs, rfl, wif, hLf, hb, ne, hlen, hxs, nbu⟩
            obtain ⟨bl, bw⟩ := k_bounds t (by omega)
            have lpos : 0 < xs.length := List.length_pos_iff.mpr ne
            refine ⟨_, rfl, _, rfl, _, _, rfl, .inl ⟨_, SqL.of hb, rfl⟩, u, c, _, rfl, wif.hu, by omega, by omega, fun p Hg p0 p1 gg hug => ?_⟩
            obtain ⟨p, rfl⟩ := Int.eq_ofNat_of_zero_le p0
            have p1 : p < xs.length := by omega
            have jg := gg.m wif.hu
            have wig := wif.m jg hug
            have hbg := jg.keep (by simpa using nbu) hb (fun _ z => by cases z)
            have hxg : ∀ x ∈ xs, PL u (kW t) Hg x := fun x hx => PL_m jg x (hxs x hx)
            obtain ⟨l, hl, nlu, hlv⟩ := hxg xs[p] (List.getElem_mem p1)
            have ep : xs[p]? = some (.ref l) := by rw [List.getElem?_eq_getElem p1, hl]
            refine ⟨_, rfl, _, rfl, _, rfl, x_l (SqL.of hbg) (atI_nat ep) ⟨u, c, l, kW t, rfl, wig.hu, hlv, nlu, by omega, fun l' Hh jh huh nl' hl' => ?_⟩⟩
            refine ⟨sl (Nat.le_of_ble_eq_true rfl), fun fr hfr => ?_⟩
            refine newH hfr fun Hi gi si => ?_
            have jgi : GrM [u] Hg Hi := jh.trans gi.m
            have hbi := jgi.keep (by simpa using nbu) hbg (fun _ z => by cases z)
            refine ⟨_, rfl, _, rfl, _, rfl, sl_l (SqL.of hbi) fun s1 hs1 => ?_⟩
            refine newH hs1 fun Hj gj sj => ?_
            have c1 := cutV_length xs none (some ((p : Nat) : Int))
            refine ⟨_, rfl, a_ll sj (gj.lst si) (by rw [sizeLine_eq]; show _ + 1 ≤ _; omega) fun m1 hm1 => ?_⟩
            refine newH hm1 fun Hk gk sk => ?_
            refine ⟨_, rfl, _, rfl, a_ii ⟨_, rfl, sl_l (SqL.of ((gj.trans gk).lst hbi)) fun s2 hs2 => ?_⟩⟩
            refine newH hs2 fun Hl gl sl2 => ?_
            have c2 := cutV_length xs (some (((p : Nat) : Int) + 1)) none
            refine a_ll (gl.lst sk) sl2 (by rw [sizeLine_eq, List.length_append]; show _ + 1 + _ ≤ _; omega) fun b2 hb2 => ?_
            refine newH hb2 fun Hm gm sm => ?_
            have gim := ((gj.trans gk).trans gl).trans gm
            have jgm : GrM [u] Hg Hm := jgi.trans gim.m
            have hum := huh.gr (gi.trans gim)
            refine ⟨b2, _, _, _, _, rfl, wig.m jgm hum, (hLf.mv jg (by simpa using Lu) (PL_m jg)).mv jgm (by simpa using Lu) (PL_m jgm), sm, by simp, ?_, fun x hx => ?_, (huh.gr (gi.trans ((gj.trans gk).trans gl))).ou hb2⟩
            · show (cutV xs none (some ((p : Nat) : Int)) ++ [V.ref l'] ++ cutV xs (some (((p : Nat) : Int) + 1)) none).length ≤ 2 * kL t + 1
              rw [List.length_append, List.length_append]
              show _ + 1 + _ ≤ _
              omega
            · have old : ∀ x ∈ xs, PL u (kW (t + 1)) Hm x := fun x hx => PL_up (by show kW t ≤ 2 * kW t + 2; omega) x (PL_m jgm x (hxg x hx))
              rcases List.mem_append.mp hx with z | z
              · rcases List.mem_append.mp z with z | z
                · exact old x (cut_mem z)
                · exact ⟨l', List.mem_singleton.mp z, nl', hl'.gr PW_st (gi.trans gim)⟩
              · exact old x (cut_mem z)
          · rintro σ Hf ⟨b, ob, oc, od, xs, rfl, wif, hLf, hb, ne, hlen, hxs, nbu⟩
            obtain ⟨bl, bw⟩ := k_bounds (1 + r) (by omega)
            exact ⟨b, _, _, _, rfl, wif, hLf, ⟨xs, hb, by omega, fun x hx => PL_up bw x (hxs x hx)⟩, nbu⟩
        · refine ⟨0, rfl, by decide, by decide, ?_⟩
          refine for_range (lo := 0) (n := 0) (fun t σ H' => ∃ ob oc od, σ = [some (.ref a), some (.ref u), some (.ref tx), some (.int (0 + (i : Nat))), some (.ref tf), some (.ref tm), none, none, some (.ref L), some (.int (0 + (j : Nat))), some (.ref b0), ob, oc, od, oe, of, og, none, oi, oj] ∧ H' = Hd)
            ⟨_, _, _, rfl, rfl⟩ (fun i _ _ hi => absurd hi (Nat.not_lt_zero _)) ?_
          rintro σ Hf ⟨ob, oc, od, rfl, rfl⟩
          exact ⟨b0, _, _, _, rfl, wid, hLd, ⟨lx, scd, by omega, fun x hx => PL_up (by decide) x (hx0d x hx)⟩, nb0⟩
      · rintro σ Hd ⟨b, ob, oc, od, rfl, wid, hLd, hbd, nbu⟩
        obtain ⟨xs, hb, hlen, hxs⟩ := hbd.ex
        have st := PL_st u 142
        refine ⟨_, rfl, _, rfl, _, _, rfl, .inl ⟨_, SqL.of hb, rfl⟩, a_ii ⟨u, c, _, rfl, wid.hu, by omega, by omega, fun p He p0 p1 ge hue => ?_⟩⟩
        have je := ge.m wid.hu
        have wie := wid.m je hue
        have hbe := hbd.mv je (by simpa using nbu) (PL_m je)
        have hLe := hLd.mv je (by simpa using Lu) (PL_m je)
        refine ⟨_, rfl, _, rfl, _, rfl, hbe.cut st fun ah Hf gf nah hah => ?_⟩
        refine ⟨_, rfl, _, rfl, _, rfl, (hbe.gr st gf).cut st fun re Hg gg nre hre => ?_⟩
        refine ⟨_, _, rfl, ?_⟩
        have ah0 := hah.gr st gg
        -- the ways
        refine ⟨_, rfl, _, rfl, _, rfl, _, rfl, _, rfl, hre.cut st fun r1 Hh gh _ hr1 => ?_⟩
        refine (ah0.gr st gh).add hr1 st (by decide) fun w1 Hi gi nw1 hw1 => ?_
        refine ⟨sl (Nat.le_of_ble_eq_true rfl), fun W1 hW1 => ?_⟩
        refine newH hW1 fun Hj gj sj => ?_
        have G1 := (gh.trans gi).trans gj
        have be1 := (hbe.gr st (gf.trans gg)).gr st G1
        refine ⟨_, rfl, _, rfl, _, rfl, _, rfl, be1.add (ah0.gr st G1) st (by decide) fun w2 Hk gk nw2 hw2 => ?_⟩
        obtain ⟨ys, y1, y2, y3⟩ := ((ah0.gr st G1).gr st gk).ex
        refine ⟨_, rfl, ah, ys, rfl, SqL.of y1, fun rv hrv => ?_⟩
        refine newH hrv fun Hl gl sl' => ?_
        have hrv' : LV (PL u 142) Hl rv 87 := ⟨_, sl', by rw [List.length_reverse]; exact y2, fun x hx => st x _ _ gl (y3 x (List.mem_reverse.mp hx))⟩
        refine ⟨_, rfl, hrv'.add (((hre.gr st G1).gr st gk).gr st gl) st (by decide) fun w3 Hm gm nw3 hw3 => ?_⟩
        refine ⟨sl (Nat.le_of_ble_eq_true rfl), fun W2 hW2 => ?_⟩
        refine newH hW2 fun Hn gn sn => ?_
        have gjn := ((gk.trans gl).trans gm).trans gn
        refine a_ll (gjn.lst sj) sn (sl (Nat.le_of_ble_eq_true rfl)) fun W3 hW3 => ?_
        refine newH hW3 fun Ho go so => ?_
        have gEo := (gf.trans gg).trans ((G1.trans gjn).trans go)
        have wio := wie.gr gEo
        have hue' := wie.hu
        have u1 : w1 ≠ u := (hue'.gr ((gf.trans gg).trans gh)).ou nw1
        have u2 : w2 ≠ u := (hue'.gr ((gf.trans gg).trans G1)).ou nw2
        have u3 : w3 ≠ u := (hue'.gr (((gf.trans gg).trans G1).trans (gk.trans gl))).ou nw3
        have u4 : W3 ≠ u := (hue'.gr ((gf.trans gg).trans (G1.trans gjn))).ou hW3
        refine ⟨u, c, W3, _, rfl, wio.hu, u4, .inl (SqL.of so), by simp, by show 5 < 1073741824; decide, fun x Hp' hx gp hup => ?_⟩
        have jp := gp.m wio.hu
        have wip := wio.m jp hup
        obtain ⟨bb, rfl, nbb, hbb⟩ : ∃ bb, x = .ref bb ∧ bb ≠ u ∧ LV (PL u 142) Hp' bb 174 := by
          have k1 : LV (PL u 142) Ho b 174 := (hbe.gr st gEo).up (by decide)
          have k2 : LV (PL u 142) Ho w1 174 := (hw1.gr st ((gj.trans gjn).trans go)).up (by decide)
          have k3 : LV (PL u 142) Ho w2 174 := (hw2.gr st (((gl.trans gm).trans gn).trans go)).up (by decide)
          have k4 : LV (PL u 142) Ho w3 174 := (hw3.gr st (gn.trans go)).up (by decide)
          simp only [List.mem_append, List.mem_cons, List.not_mem_nil, or_false, List.cons_append, List.nil_append] at hx
          rcases hx with z | z | z | z | z
          · exact ⟨b, z, nbu, k1.mv jp (by simpa using nbu) (PL_m jp)⟩
          · exact ⟨b, z, nbu, k1.mv jp (by simpa using nbu) (PL_m jp)⟩
          · exact ⟨w1, z, u1, k2.mv jp (by simpa using u1) (PL_m jp)⟩
          · exact ⟨w2, z, u2, k3.mv jp (by simpa using u2) (PL_m jp)⟩
          · exact ⟨w3, z, u3, k4.mv jp (by simpa using u3) (PL_m jp)⟩
        have hLp := (hLe.gr (PL_st u 16) gEo).mv jp (by simpa using Lu) (PL_m jp)
        -- the text
        obtain ⟨zs, z1, z2, z3⟩ := hbb.ex
        refine ⟨⟨_, rfl⟩, _, rfl, bb, rfl, ⟨_, SqL.of z1⟩, fun D hD => ?_⟩
        refine lc_list (K := K) (a := bb) (xs := zs) (fun m H' => Gr Hp' H' ∧ ∃ rows : List Str, H' D = some (.lst (strV rows)) ∧ rows.length ≤ m ∧ ∀ r ∈ rows, OkT (142 * 14) r) ⟨Gr.new hD, [], upd_same, Nat.le_refl _, by simp⟩ ?_ ?_ ?_
        · rintro m H' _ ⟨g, _⟩
          exact SqL.of (g.lst z1)
        · rintro m y H' hy ⟨g, rows, hR, hn, hr⟩
          have ml := (List.getElem?_eq_some_iff.mp hy).1
          obtain ⟨l, rfl, nl, hlv⟩ := z3 y (List.mem_of_getElem? hy)
          obtain ⟨ws, w1', w2', w3'⟩ := (hlv.gr PW_st g).texts (K := K)
          refine ⟨rfl, ?_⟩
          refine ⟨⟨_, rfl⟩, _, rfl, " ", l, ws, rfl, rfl, .inl (SqL.of w1'), ?_, ?_⟩
          · have h1 := sum_le (b := 13) fun x hx => (w3' x hx).1
            have h2 : ws.length * 13 ≤ 142 * 13 := Nat.mul_le_mul_right _ w2'
            show _ + ws.length * 1 ≤ _
            omega
          refine ⟨_, hR, ?_, g.upd' hD, rows ++ [Txt.join " " ws], ?_, by rw [List.length_append]; exact Nat.succ_le_succ hn, fun r hr' => ?_⟩
          · show (List.map V.str _).length < _
            rw [List.length_map, sizeLine_eq]
            omega
          · rw [upd_same]
            unfold strV
            rw [List.map_append]; rfl
          · rcases List.mem_append.mp hr' with z | z
            · exact hr r z
            · rw [List.mem_singleton.mp z]
              exact row_ok w2' w3'
        rintro Hq ⟨gq, rows, hR, hn, hr⟩
        have hn : rows.length ≤ 174 := by omega
        refine ⟨"\n", D, rows, rfl, rfl, .inl (SqL.of hR), ?_, ?_⟩
        · have h1 := sum_le (b := 142 * 14) fun x hx => (hr x hx).1
          have h2 : rows.length * (142 * 14) ≤ 174 * (142 * 14) := Nat.mul_le_mul_right _ hn
          show _ + rows.length * 1 ≤ _
          omega
        have okt : OkT 346086 (Txt.join "\n" rows) := ⟨by
          have h1 := join_len (sep := "\n") (b := 142 * 14) fun x hx => (hr x hx).1
          have h2 : rows.length * (142 * 14 + 1) ≤ 174 * (142 * 14 + 1) := Nat.mul_le_mul_right _ hn
          have h3 : (Txt.join "\n" rows).length ≤ rows.length * (142 * 14 + 1) := h1
          omega, join_pc (c := 10) (by decide) rows fun x hx => (hr x hx).2⟩
        have wiq := wip.gr gq
        refine ⟨_, rfl, _, rfl, _, rfl, _, rfl, u, c, _, 346086, rfl, wiq.hu, okt, by decide, fun y Hr jr hur oy => ?_⟩
        have wir := wiq.m jr hur
        have hLr := (hLp.gr (PL_st u 16) gq).mv jr (by simpa using Lu) (PL_m jr)
        refine ⟨sl (Nat.le_of_ble_eq_true rfl), fun l2 hl2 => ?_⟩
        refine newH hl2 fun Hs gs ss => ?_
        have lv2 : LV PT Hs l2 2 := ⟨_, ss, Nat.le_refl _, fun x hx => by
          rcases List.mem_cons.mp hx with z | z
          · exact ⟨_, z, okt.up (by decide)⟩
          · exact ⟨_, List.mem_singleton.mp z, oy.up (by decide)⟩⟩
        have wis := wir.gr gs
        refine wis.ht.add lv2 PT_st (by omega) fun tx2 Ht gt ntx2 htx2 => ?_
        have wit := wis.gr gt
        exact ⟨tx2, _, _, _, _, _, _, _, _, _, rfl, ⟨wit.hu, wit.tb, htx2.up (by omega), wis.hu.ou ntx2⟩, (hLr.gr (PL_st u 16) gs).gr (PL_st u 16) gt⟩
    · rintro σ Hb ⟨tx, o9, oa, ob, oc, od, oe, of, og, oi, rfl, wib, hLb⟩
      exact ⟨tx, _, _, _, _, _, _, _, _, _, _, _, _, _, _, rfl, ⟨wib.hu, wib.tb, wib.ht.up (by omega), wib.hn⟩⟩
  · rintro σ H5 ⟨tx, o3, o4, o5, o8, o9, oa, ob, oc, od, oe, of, og, oi, oj, rfl, wi⟩
    obtain ⟨xs, hx1, hx2, hx3⟩ := wi.ht.ex
    refine ⟨_, rfl, tx, rfl, ⟨_, SqL.of hx1⟩, ?_⟩
    refine for_list (K := K) (a := tx) (xs := xs) (fun j σ H' => ∃ oi oj, σ = [some (.ref a), some (.ref u), some (.ref tx), o3, o4, o5, none, none, o8, o9, oa, ob, oc, od, oe, of, og, none, oi, oj] ∧ GrM [u] H5 H' ∧ Urn c H' u)
      ⟨_, _, rfl, GrM.refl _ _, wi.hu⟩ ?_ ?_ ?_
    · rintro j σ H' _ ⟨oi, oj, rfl, g, _⟩
      exact SqL.of (g.keep (by simpa using wi.hn) hx1 (fun _ z => by cases z))
    · rintro j x σ H' hx ⟨oi, oj, rfl, g, hu'⟩
      obtain ⟨s, rfl, hs⟩ := hx3 x (List.mem_of_getElem? hx)
      have s7 := hs.1
      refine ⟨_, rfl, sl (Nat.le_of_ble_eq_true rfl), fun p1 hp1 => ?_⟩
      refine newH hp1 fun H6 g6 s6 => ?_
      refine ⟨Nat.zero_le _, fun p2 hp2 => ?_⟩
      refine newH hp2 fun H7 g7 s7' => ?_
      refine ⟨sl (Nat.le_of_ble_eq_true rfl), fun p3 hp3 => ?_⟩
      refine newH hp3 fun H8 g8 s8 => ?_
      have hu8 := hu'.gr ((g6.trans g7).trans g8)
      refine ⟨u, c, p3, _, rfl, hu8, (hu'.gr (g6.trans g7)).ou hp3, .inl (SqL.of s8), by simp, by show 2 < 1073741824; decide, fun x H9 hx g9 hu9 => ?_⟩
      have j9 := g9.m hu8
      obtain ⟨kl, kn, rfl, hkn, hk⟩ : ∃ (kl : Addr) (kn : List Str), x = .ref kl ∧ (kn = ([("own" : Str)] : List Str) ∨ kn = []) ∧ H9 kl = some (.lst (strV kn)) := by
        rcases List.mem_cons.mp hx with z | z
        · exact ⟨p1, ["own"], z, .inl rfl, j9.keep (by simpa using hu'.ou hp1) ((g7.trans g8).lst s6) (fun _ z => by cases z)⟩
        · exact ⟨p2, [], List.mem_singleton.mp z, .inr rfl, j9.keep (by simpa using (hu'.gr g6).ou hp2) (g8.lst s7') (fun _ z => by cases z)⟩
      have knm : ∀ x ∈ kn, isNm x = true := by
        rcases hkn with z | z
        · rw [z]; decide +kernel
        · rw [z]; simp
      have kln : kn.length ≤ 1000 := by
        rcases hkn with z | z
        · rw [z]; decide
        · rw [z]; decide
      have J9 : GrM [u] H5 H9 := (g.trans (((g6.trans g7).trans g8).m)).trans j9
      have tb9 := wi.tb.m J9
      refine ⟨_, rfl, _, rfl, s, kl, kn, rfl, hk, by omega, hs.2, knm, kln, tb9, fun v1 Ha ga d1 => ?_⟩
      refine ⟨_, rfl, _, rfl, s, kl, kn, rfl, ga.lst hk, by omega, hs.2, knm, kln, fun v2 Hb gb d2 bd => ?_⟩
      have fr := res_four bd
      refine ⟨_, _, _, _, rfl, gb.dd _ _ d1, d2, fr, fr, ⟨_, rfl, ?_⟩⟩
      rw [decide_eq_true rfl]
      exact iteF ⟨_, _, rfl, J9.trans (ga.trans gb).m, hu9.gr (ga.trans gb)⟩
    · rintro σ H' ⟨oi, oj, rfl, g, hu'⟩
      exact k _
end
end Vf
end
section
set_option Elab.async false
set_option linter.all false
set_option maxRecDepth 100000
set_option maxHeartbeats 0
namespace Vf
open PySem PySem.Spec PyProof.Rows L2 GxR GenW RZ
/-! ### a constant tuple in a tuple -/
/-- what the i-th place of the tuple at a names -/
def itA (K : PySem.W.Frag) (a : Addr) (i : Nat) : Addr := match (K.lookup a).map (fun o : Obj => o.data) with
  | some (.seq its _) => (match its.toList[i]? with
    | some (.ref b) => b
    | _ => 0)
  | _ => 0
def tupAt (K : PySem.W.Frag) (a : Addr) (vs : List V) : Bool := match K.lookup a with
  | none => false
  | some ob => decide (ob.cls = .type "tuple") && (match ob.data with
    | .seq its _ => He.relAll vs its.toList && decide (its.size ≤ sizeLine)
    | _ => false)
theorem tupAt_ok {K : PySem.W.Frag} {a : Addr} {vs : List V} (h : tupAt K a vs = true) (H : Hp) : SqT K H a vs := by
  unfold tupAt at h
  split at h
  · cases h
  · rename_i ob q
    obtain ⟨h1, h2⟩ := He.ba h
    split at h2
    · rename_i its n e
      obtain ⟨h3, h4⟩ := He.ba h2
      exact .inr ⟨ob, its, n, q, of_decide_eq_true h1, e, of_decide_eq_true h4, He.relAll_ok h3⟩
    · cases h2
abbrev pT (K : PySem.W.Frag) (i : Nat) : Addr := itA K (He.ga K "PARTS") i
abbrev pP (K : PySem.W.Frag) (i : Nat) : Addr := itA K (pT K i) 1
def ptsB (K : PySem.W.Frag) : Bool := tupAt K (He.ga K "PARTS") ((List.range 6).map fun i => V.ref (pT K i)) && (List.range 6).all fun i => match parts[i]? with
  | some r => tupAt K (pT K i) [.str r.1, .ref (pP K i)] && tupAt K (pP K i) (r.2.map fun n => V.int (n : Nat))
  | none => true
theorem ptsB_ok {K : PySem.W.Frag} (h : ptsB K = true) : PtsAt K (He.ga K "PARTS") (pT K) (pP K) := by
  obtain ⟨h1, h2⟩ := He.ba h
  have r : ∀ i w ps, parts[i]? = some (w, ps) → tupAt K (pT K i) [.str w, .ref (pP K i)] = true ∧ tupAt K (pP K i) (ps.map fun n => V.int (n : Nat)) = true := fun i w ps e => by
    have hi : i < 6 := (List.getElem?_eq_some_iff.mp e).1
    have h3 := List.all_eq_true.mp h2 i (List.mem_range.mpr hi)
    rw [e] at h3
    exact He.ba h3
  exact ⟨tupAt_ok h1, fun H i w ps e => tupAt_ok (r i w ps e).1 H, fun H i w ps e => tupAt_ok (r i w ps e).2 H⟩
/-! ### the head: what stands where the law is called -/
def dd (x : Str) (st : Stmt) : He.DefD := ⟨(x, none), x, x, defArgs st, defBody st, defScope st, [], []⟩
def dm (m q : Str) (st : Stmt) : He.DefD := ⟨("LineReader", some m), m, q, defArgs st, defBody st, defScope st, [], []⟩
def dSP : He.DefD := ⟨("SyntaxProblem", some "__init__"), "__init__", "SyntaxProblem.__init__", defArgs s_SyntaxProblem____init__, defBody s_SyntaxProblem____init__, defScope s_SyntaxProblem____init__, [], []⟩
def fns : List He.DefD := [dd "is_word" s_is_word, dd "is_form_name" s_is_form_name, dd "is_sign" s_is_sign, dd "words_of" s_words_of, dd "parse_program" s_parse_program, dd "read_form" s_read_form, dd "read_part" s_read_part, dd "read_maker" s_read_maker, dd "is_cost" s_is_cost, dd "_law_churned" s__law_churned, dd "_law_urn_of" s__law_urn_of, dd "_law_upto" s__law_upto, dd "_law_choice" s__law_choice, dd "_law_equal" s__law_equal, dd "_law_some_set" s__law_some_set, dd "_law_all_signs" s__law_all_signs, dd "_law_some_form" s__law_some_form, dd "_law_form_words" s__law_form_words, dd "_law_maker_words" s__law_maker_words, dd "_law_some_program" s__law_some_program, dd "_law_words" s__law_words, dd "_law_is_name" s__law_is_name, dd "_law_is_cost" s__law_is_cost, dd "_law_read_form" s__law_read_form, dd "_law_read_maker" s__law_read_maker, dd "_law_told" s__law_told, dd "_law_outcome" s__law_outcome, dd "_law_bent" s__law_bent, dd "_law_broken" s__law_broken, dd "law" s_law,
  dm "__init__" "LineReader.__init__" s_LineReader____init__, dm "ahead" "LineReader.ahead" s_LineReader__ahead, dm "take" "LineReader.take" s_LineReader__take, dm "refuse" "LineReader.refuse" s_LineReader__refuse, dm "need" "LineReader.need" s_LineReader__need, dm "take_only" "LineReader.take_only" s_LineReader__take_only, dSP]
def fcs : List He.Fa := [.glo "is_word", .glo "is_form_name", .glo "is_sign", .glo "words_of", .glo "parse_program", .glo "read_form", .glo "read_part", .glo "read_maker", .glo "is_cost", .glo "_law_churned", .glo "_law_urn_of", .glo "_law_upto", .glo "_law_choice", .glo "_law_equal", .glo "_law_some_set", .glo "_law_all_signs", .glo "_law_some_form", .glo "_law_form_words", .glo "_law_maker_words", .glo "_law_some_program", .glo "_law_words", .glo "_law_is_name", .glo "_law_is_cost", .glo "_law_read_form", .glo "_law_read_maker", .glo "_law_told", .glo "_law_outcome", .glo "_law_bent", .glo "_law_broken", .glo "law", .glo "LineReader", .glo "PLAIN", .glo "PARTS", .glo "SyntaxProblem", .glo "ClipError",
  .free "range", .free "abs", .free "enumerate", .free "len", .free "int", .free "repr", .free "isinstance", .free "all", .free "str", .free "tuple", .free "list", .free "zip",
  .int "MOST_WORD_CHARACTERS" 12, .int "MOST_COST" 1000, .int "MOST_PROGRAM_LINES" 50, .int "FORM_STRINGS" 9, .int "MOST_NAME_CHARACTERS" 8, .int "ESCAPE" 8,
  .str "NAME_LETTERS" "abcdefghijklmnopqrstuvwxyz", .str "DIGITS" "0123456789", .str "WORD_CHARACTERS" "abcdefghijklmnopqrstuvwxyz0123456789", .str "LETTERS_AND_DIGITS" "0123456789ABCDEFGHIJKLMNOPQRSTUVWXYZabcdefghijklmnopqrstuvwxyz",
  .meth "LineReader" "ahead", .meth "LineReader" "take", .meth "LineReader" "refuse", .meth "LineReader" "need", .meth "LineReader" "take_only",
  .cls "LineReader", .mkr "LineReader", .noat "LineReader" "number", .noat "LineReader" "words", .noat "LineReader" "at", .meth "SyntaxProblem" "__init__", .noat "SyntaxProblem" "line", .noat "SyntaxProblem" "column"]
def exs (K : PySem.W.Frag) : Bool := He.tupB K "PLAIN" [.str "plain", .str "", .str "", .str "", .str "", .str "", .str "", .str "", .str ""] && ptsB K && oexB K (CS K) && excCB K (CS K) && xfB K (CS K) && decide (PySem.W.kitOne K (.ref (CS K)) (.ref (CS K)) = some true) && decide (PySem.W.exmOne K (.ref (CS K)) (.ref (CE K)) = some true)
def tfs : List He.Defn := [("is_word", none), ("is_form_name", none), ("is_cost", none)]
abbrev R : PySem.W.OpenRow := PySem.W.OpenLaw.row PySem.Challenge.rw_clipforms_k71_whole_programs_refused
abbrev hk : PySem.W.Hook := He.hookX 5 fcs fns [] tfs exs
def ob (s : PySem.W.SharedT) : He.AlX := He.obsX 5 fcs fns [] tfs exs (HandSHeadRun.getT s)
theorem ob_eq (s : PySem.W.SharedT) : ob s = hk.obs s.abs := He.obsX_eq (HandSHeadRun.getT_eq s)
def loose : List Str := (["DIGITS", "WORD_CHARACTERS", "MOST_WORD_CHARACTERS", "is_word", "ClipError", "SyntaxProblem", "PLAIN", "CELL", "LEVEL", "BOLD", "SLANT", "OPENING", "MIDDLE", "END", "ESCAPE", "FORM_STRINGS", "NAME_LETTERS", "MOST_NAME_CHARACTERS", "LETTERS_AND_DIGITS", "is_form_name"] : List Str) ++ (["is_sign", "MOST_COST", "MOST_PROGRAM_LINES", "PARTS", "LineReader", "words_of", "parse_program", "read_form", "read_part", "read_maker", "is_cost", "_law_churned", "_law_urn_of", "_law_upto", "_law_choice", "_law_equal", "_law_some_text", "_law_some_marks", "_law_joined", "_law_some_cell"] : List Str) ++ (["_law_some_line", "_law_some_content", "_law_dropped", "_law_keeping", "_law_features_of", "_law_some_set", "_law_all_signs", "_law_some_form", "_law_form_words", "_law_maker_words", "_law_some_program", "_law_words", "_law_is_name", "_law_read_form", "_law_read_maker", "_law_is_cost", "_law_told", "_law_outcome", "_law_bent", "_law_broken"] : List Str) ++ ([] : List Str)
theorem run (w : World) : HandSHeadRun.RunEq R (PySem.W.view R.prog [65]) hk ob 40000 loose w := by
  intro os
  kernel_rfl
end Vf
end
section
set_option Elab.async false
set_option linter.all false
set_option maxRecDepth 100000
set_option maxHeartbeats 0
namespace Vf
open PySem PySem.Spec PyProof.Rows L2 GxR GenW RZ
section
variable {P : Program} {w : World} {K : PySem.W.Frag} {h : Heap} {mg : Str → Option Value} {base : Heap}
theorem fnd (c : He.SaysD fcs fns K) {x : Str} {st : Stmt} (hm : dd x st ∈ fns) : ∃ fd, FnP K x st fd := c.defs hm
theorem fndM (c : He.SaysD fcs fns K) {m q : Str} {st : Stmt} (hm : dm m q st ∈ fns) : ∃ fd, FmP K m q st fd := c.defs hm
theorem mk1 {x : Str} {st : Stmt} {k : Nat} {ps : List Str} {sp : Sp} {fd : FuncData} (X : K.In h) (G : h.Ns mainGlobals mg) (c : He.SaysD fcs fns K) (F : FnP K x st fd) (hg : He.Fa.glo x ∈ fcs) (O : FnOk P w K mg base CX0 k (He.fAd K (x, none)) fd ps sp)
    (hb : ∀ (kV doc pm : Value) (an : Option Addr) (cdv ct : Value) (us : List Value), us.length = ps.length → bindArgs (PySem.W.fnOf x x (defArgs st) (defBody st) (defScope st) .none kV doc pm an cdv ct) ⟨us, []⟩ = pure (ps.zip us)) : Df P w K mg base x k ps sp :=
  ⟨⟨_, fd, O, He.glo_ok X G (c.facts hg), F.kp, F.bindsN hb⟩⟩
theorem mk2 {x : Str} {st : Stmt} {k : Nat} {ps : List Str} {sp : Sp} {fd : FuncData} (X : K.In h) (G : h.Ns mainGlobals mg) (c : He.SaysD fcs fns K) (F : FnP K x st fd) (hg : He.Fa.glo x ∈ fcs) (O : FnG P w K mg base CX0 k (He.fAd K (x, none)) fd ps sp)
    (hb : ∀ (kV doc pm : Value) (an : Option Addr) (cdv ct : Value) (us : List Value), us.length = ps.length → bindArgs (PySem.W.fnOf x x (defArgs st) (defBody st) (defScope st) .none kV doc pm an cdv ct) ⟨us, []⟩ = pure (ps.zip us)) : DfG P w K mg base x k ps sp :=
  ⟨⟨_, fd, O, He.glo_ok X G (c.facts hg), F.kp, F.bindsN hb⟩⟩
theorem mkM {m q : Str} {st : Stmt} {k : Nat} {ps : List Str} {sp : Sp} {fd : FuncData} (c : He.SaysD fcs fns K) (F : FmP K m q st fd) (hg : He.Fa.meth "LineReader" m ∈ fcs) (O : FnOk P w K mg base CX0 k (He.fAd K ("LineReader", some m)) fd ps sp)
    (hb : ∀ (kV doc pm : Value) (an : Option Addr) (cdv ct : Value) (us : List Value), us.length = ps.length → bindArgs (PySem.W.fnOf m q (defArgs st) (defBody st) (defScope st) .none kV doc pm an cdv ct) ⟨us, []⟩ = pure (ps.zip us)) : Mf P w K mg base (LR K) m k ps sp :=
  ⟨⟨_, fd, O, He.meth_ok (c.facts hg), F.bindsN hb⟩⟩
theorem mkC {q : Str} {st : Stmt} {k : Nat} {ps : List Str} {sp : Sp} {fd : FuncData} (X : K.In h) (G : h.Ns mainGlobals mg) (c : He.SaysD fcs fns K) (F : FmP K "__init__" q st fd) (O : FnOk P w K mg base CX0 k (He.fAd K ("LineReader", some "__init__")) fd ps sp)
    (hb : ∀ (kV doc pm : Value) (an : Option Addr) (cdv ct : Value) (us : List Value), us.length = ps.length → bindArgs (PySem.W.fnOf "__init__" q (defArgs st) (defBody st) (defScope st) .none kV doc pm an cdv ct) ⟨us, []⟩ = pure (ps.zip us)) : Cf P w K mg base (LR K) "LineReader" k ps sp :=
  ⟨⟨_, fd, O, He.mkr_ok (c.facts (f := .mkr "LineReader") (by simp [fcs])), He.glo_ok X G (c.facts (f := .glo "LineReader") (by simp [fcs])), F.bindsN hb⟩⟩
theorem mkX {x : Str} {st : Stmt} {k : Nat} {ps : List Str} {sp : Sp} {fd : FuncData} (X : K.In h) (G : h.Ns mainGlobals mg) (c : He.SaysD fcs fns K) (F : FnP K x st fd) (hg : He.Fa.glo x ∈ fcs) (O : FnOk P w K mg base (L2.CX P w) k (He.fAd K (x, none)) fd ps sp)
    (hb : ∀ (kV doc pm : Value) (an : Option Addr) (cdv ct : Value) (us : List Value), us.length = ps.length → bindArgs (PySem.W.fnOf x x (defArgs st) (defBody st) (defScope st) .none kV doc pm an cdv ct) ⟨us, []⟩ = pure (ps.zip us)) : Dx P w K mg base x k ps sp :=
  ⟨⟨_, fd, O, He.glo_ok X G (c.facts hg), F.kp, F.bindsN hb⟩⟩
theorem mkMX {m q : Str} {st : Stmt} {k : Nat} {ps : List Str} {sp : Sp} {fd : FuncData} (c : He.SaysD fcs fns K) (F : FmP K m q st fd) (hg : He.Fa.meth "LineReader" m ∈ fcs) (O : FnOk P w K mg base (L2.CX P w) k (He.fAd K ("LineReader", some m)) fd ps sp)
    (hb : ∀ (kV doc pm : Value) (an : Option Addr) (cdv ct : Value) (us : List Value), us.length = ps.length → bindArgs (PySem.W.fnOf m q (defArgs st) (defBody st) (defScope st) .none kV doc pm an cdv ct) ⟨us, []⟩ = pure (ps.zip us)) : Mx P w K mg base (LR K) m k ps sp :=
  ⟨⟨_, fd, O, He.meth_ok (c.facts hg), F.bindsN hb⟩⟩
theorem fndI (c : He.SaysD fcs fns K) (hm : dSP ∈ fns) : ∃ fd, FmS K "__init__" "SyntaxProblem.__init__" s_SyntaxProblem____init__ fd := c.defs hm
theorem mkI {ps : List Str} {sp : Sp} {fd : FuncData} (T : TY K mg) (c : He.SaysD fcs fns K) (F : FmS K "__init__" "SyntaxProblem.__init__" s_SyntaxProblem____init__ fd) (O : FnOk P w K mg base CX0 1 (He.fAd K ("SyntaxProblem", some "__init__")) fd ps sp)
    (hb : ∀ (kV doc pm : Value) (an : Option Addr) (cdv ct : Value) (us : List Value), us.length = ps.length → bindArgs (PySem.W.fnOf "__init__" "SyntaxProblem.__init__" (defArgs s_SyntaxProblem____init__) (defBody s_SyntaxProblem____init__) (defScope s_SyntaxProblem____init__) .none kV doc pm an cdv ct) ⟨us, []⟩ = pure (ps.zip us)) : DfI P w K mg base "SyntaxProblem" (CS K) 1 ps sp := by
  have M := He.meth_ok (c.facts (f := .meth "SyntaxProblem" "__init__") (by simp [fcs]))
  exact ⟨⟨_, fd, T.oS, T.g_SyntaxProblem, M.at_, beq_iff_eq.mp M.fn, O, F.bindsN hb⟩⟩
theorem ty_of (X : K.In h) (G : h.Ns mainGlobals mg) (c : He.SaysD fcs fns K) (m : exs K = true) : TY K mg := by
  have fr : ∀ {x : Str}, He.Fa.free x ∈ fcs → mg x = none := fun hx => He.free_ok X G (c.facts hx)
  have it : ∀ {x : Str} {i : Int}, He.Fa.int x i ∈ fcs → ∃ u, mg x = some u ∧ RelV (.int i) u := fun hx => by
    obtain ⟨t, e⟩ := He.int_ok X G (c.facts hx)
    exact ⟨_, e, t, rfl⟩
  have sr : ∀ {x z : Str}, He.Fa.str x z ∈ fcs → ∃ u, mg x = some u ∧ RelV (.str z) u := fun hx => by
    obtain ⟨t, e⟩ := He.str_ok X G (c.facts hx)
    exact ⟨_, e, t, rfl⟩
  have go : ∀ {x : Str}, He.Fa.glo x ∈ fcs → mg x = some (.ref (He.ga K x)) := fun hx => He.glo_ok X G (c.facts hx)
  have no : ∀ {f : Str}, He.Fa.noat "LineReader" f ∈ fcs → NoAttr K (LR K) f := fun hx => He.noat_ok (c.facts hx)
  obtain ⟨m, m7⟩ := He.ba m
  obtain ⟨m, m6⟩ := He.ba m
  obtain ⟨m, m5⟩ := He.ba m
  obtain ⟨m, m4⟩ := He.ba m
  obtain ⟨m, m3⟩ := He.ba m
  obtain ⟨m1, m2⟩ := He.ba m
  exact { b_range := fr (by simp [fcs]), b_abs := fr (by simp [fcs]), b_enumerate := fr (by simp [fcs]), b_len := fr (by simp [fcs]), b_int := fr (by simp [fcs]), b_repr := fr (by simp [fcs]), b_isinstance := fr (by simp [fcs]), b_all := fr (by simp [fcs]), b_str := fr (by simp [fcs]), b_tuple := fr (by simp [fcs]), b_list := fr (by simp [fcs]), b_zip := fr (by simp [fcs]), c_MOST_WORD_CHARACTERS := it (by simp [fcs]), c_MOST_COST := it (by simp [fcs]), c_MOST_PROGRAM_LINES := it (by simp [fcs]), c_FORM_STRINGS := it (by simp [fcs]), c_MOST_NAME_CHARACTERS := it (by simp [fcs]), c_ESCAPE := it (by simp [fcs]), c_NAME_LETTERS := sr (by simp [fcs]), c_DIGITS := sr (by simp [fcs]), c_WORD_CHARACTERS := sr (by simp [fcs]), c_LETTERS_AND_DIGITS := sr (by simp [fcs]), c_PLAIN := ⟨_, go (by simp [fcs]), fun H => He.tupB_ok m1 H⟩, c_PARTS := ⟨_, _, _, go (by simp [fcs]), ptsB_ok m2⟩, cl := He.cls_ok (c.facts (f := .cls "LineReader") (by simp [fcs])), nN := no (by simp [fcs]), nW := no (by simp [fcs]), nA := no (by simp [fcs]), g_SyntaxProblem := go (by simp [fcs]), g_ClipError := go (by simp [fcs]), oS := oexB_ok m3, eS := excCB_ok m4, xS := xfB_ok m5, lS := He.noat_ok (c.facts (f := .noat "SyntaxProblem" "line") (by simp [fcs])), uS := He.noat_ok (c.facts (f := .noat "SyntaxProblem" "column") (by simp [fcs])), kS := of_decide_eq_true m6, mS := of_decide_eq_true m7 }
theorem law_base (X : K.In h) (G : h.Ns mainGlobals mg) (c : He.SaysD fcs fns K) (T : TY K mg) (TB : ∀ p ∈ tfs.map (He.cT K), TabB base mg p.1 p.2) {fd : FuncData} (FL : FnP K "law" s_law fd) : FnG P w K mg base CX0 9 (He.fAd K ("law", none)) fd p_law (spLaw K) := by
  have tb_is_word : TBx K mg base "is_word" := TB (He.cT K ("is_word", none)) (by simp [tfs])
  have tb_is_form_name : TBx K mg base "is_form_name" := TB (He.cT K ("is_form_name", none)) (by simp [tfs])
  have tb_is_cost : TBx K mg base "is_cost" := TB (He.cT K ("is_cost", none)) (by simp [tfs])
  obtain ⟨f_is_word, F_is_word⟩ := fnd (x := "is_word") (st := s_is_word) c (by simp [fns])
  obtain ⟨f_is_form_name, F_is_form_name⟩ := fnd (x := "is_form_name") (st := s_is_form_name) c (by simp [fns])
  obtain ⟨f_is_sign, F_is_sign⟩ := fnd (x := "is_sign") (st := s_is_sign) c (by simp [fns])
  obtain ⟨f_words_of, F_words_of⟩ := fnd (x := "words_of") (st := s_words_of) c (by simp [fns])
  obtain ⟨f_parse_program, F_parse_program⟩ := fnd (x := "parse_program") (st := s_parse_program) c (by simp [fns])
  obtain ⟨f_read_form, F_read_form⟩ := fnd (x := "read_form") (st := s_read_form) c (by simp [fns])
  obtain ⟨f_read_part, F_read_part⟩ := fnd (x := "read_part") (st := s_read_part) c (by simp [fns])
  obtain ⟨f_read_maker, F_read_maker⟩ := fnd (x := "read_maker") (st := s_read_maker) c (by simp [fns])
  obtain ⟨f_is_cost, F_is_cost⟩ := fnd (x := "is_cost") (st := s_is_cost) c (by simp [fns])
  obtain ⟨f__law_churned, F__law_churned⟩ := fnd (x := "_law_churned") (st := s__law_churned) c (by simp [fns])
  obtain ⟨f__law_urn_of, F__law_urn_of⟩ := fnd (x := "_law_urn_of") (st := s__law_urn_of) c (by simp [fns])
  obtain ⟨f__law_upto, F__law_upto⟩ := fnd (x := "_law_upto") (st := s__law_upto) c (by simp [fns])
  obtain ⟨f__law_choice, F__law_choice⟩ := fnd (x := "_law_choice") (st := s__law_choice) c (by simp [fns])
  obtain ⟨f__law_equal, F__law_equal⟩ := fnd (x := "_law_equal") (st := s__law_equal) c (by simp [fns])
  obtain ⟨f__law_some_set, F__law_some_set⟩ := fnd (x := "_law_some_set") (st := s__law_some_set) c (by simp [fns])
  obtain ⟨f__law_all_signs, F__law_all_signs⟩ := fnd (x := "_law_all_signs") (st := s__law_all_signs) c (by simp [fns])
  obtain ⟨f__law_some_form, F__law_some_form⟩ := fnd (x := "_law_some_form") (st := s__law_some_form) c (by simp [fns])
  obtain ⟨f__law_form_words, F__law_form_words⟩ := fnd (x := "_law_form_words") (st := s__law_form_words) c (by simp [fns])
  obtain ⟨f__law_maker_words, F__law_maker_words⟩ := fnd (x := "_law_maker_words") (st := s__law_maker_words) c (by simp [fns])
  obtain ⟨f__law_some_program, F__law_some_program⟩ := fnd (x := "_law_some_program") (st := s__law_some_program) c (by simp [fns])
  obtain ⟨f__law_words, F__law_words⟩ := fnd (x := "_law_words") (st := s__law_words) c (by simp [fns])
  obtain ⟨f__law_is_name, F__law_is_name⟩ := fnd (x := "_law_is_name") (st := s__law_is_name) c (by simp [fns])
  obtain ⟨f__law_is_cost, F__law_is_cost⟩ := fnd (x := "_law_is_cost") (st := s__law_is_cost) c (by simp [fns])
  obtain ⟨f__law_read_form, F__law_read_form⟩ := fnd (x := "_law_read_form") (st := s__law_read_form) c (by simp [fns])
  obtain ⟨f__law_read_maker, F__law_read_maker⟩ := fnd (x := "_law_read_maker") (st := s__law_read_maker) c (by simp [fns])
  obtain ⟨f__law_told, F__law_told⟩ := fnd (x := "_law_told") (st := s__law_told) c (by simp [fns])
  obtain ⟨f__law_outcome, F__law_outcome⟩ := fnd (x := "_law_outcome") (st := s__law_outcome) c (by simp [fns])
  obtain ⟨f__law_bent, F__law_bent⟩ := fnd (x := "_law_bent") (st := s__law_bent) c (by simp [fns])
  obtain ⟨f__law_broken, F__law_broken⟩ := fnd (x := "_law_broken") (st := s__law_broken) c (by simp [fns])
  obtain ⟨f_m__init__, F_m__init__⟩ := fndM (m := "__init__") (q := "LineReader.__init__") (st := s_LineReader____init__) c (by simp [fns])
  obtain ⟨f_mahead, F_mahead⟩ := fndM (m := "ahead") (q := "LineReader.ahead") (st := s_LineReader__ahead) c (by simp [fns])
  obtain ⟨f_mtake, F_mtake⟩ := fndM (m := "take") (q := "LineReader.take") (st := s_LineReader__take) c (by simp [fns])
  obtain ⟨f_mrefuse, F_mrefuse⟩ := fndM (m := "refuse") (q := "LineReader.refuse") (st := s_LineReader__refuse) c (by simp [fns])
  obtain ⟨f_mneed, F_mneed⟩ := fndM (m := "need") (q := "LineReader.need") (st := s_LineReader__need) c (by simp [fns])
  obtain ⟨f_mtake_only, F_mtake_only⟩ := fndM (m := "take_only") (q := "LineReader.take_only") (st := s_LineReader__take_only) c (by simp [fns])
  have d__law_churned := mk1 X G c F__law_churned (by simp [fcs]) (ok_churned F__law_churned T.toTX (P := P) (w := w) (base := base)) fun _ _ _ _ _ _ us hl => match us, hl with | [_, _], _ => rfl
  have d__law_urn_of := mk1 X G c F__law_urn_of (by simp [fcs]) (ok_urn_of F__law_urn_of T.toTX (P := P) (w := w) (base := base)) fun _ _ _ _ _ _ us hl => match us, hl with | [_], _ => rfl
  have d__law_upto := mk1 X G c F__law_upto (by simp [fcs]) (ok_upto F__law_upto T.toTX d__law_churned) fun _ _ _ _ _ _ us hl => match us, hl with | [_, _], _ => rfl
  have d__law_choice := mk1 X G c F__law_choice (by simp [fcs]) (ok_choice F__law_choice T.toTX d__law_upto) fun _ _ _ _ _ _ us hl => match us, hl with | [_, _], _ => rfl
  have d__law_equal := mk2 X G c F__law_equal (by simp [fcs]) (ok_equal F__law_equal T.toTX (P := P) (w := w) (base := base)) fun _ _ _ _ _ _ us hl => match us, hl with | [_, _], _ => rfl
  have d_is_word := mk1 X G c F_is_word (by simp [fcs]) (ok_word F_is_word T tb_is_word (P := P) (w := w)) fun _ _ _ _ _ _ us hl => match us, hl with | [_], _ => rfl
  have d_is_sign := mk1 X G c F_is_sign (by simp [fcs]) (ok_is_sign F_is_sign T (P := P) (w := w) (base := base)) fun _ _ _ _ _ _ us hl => match us, hl with | [_], _ => rfl
  have d_is_form_name := mk1 X G c F_is_form_name (by simp [fcs]) (ok_name F_is_form_name T tb_is_form_name (P := P) (w := w)) fun _ _ _ _ _ _ us hl => match us, hl with | [_], _ => rfl
  have d__law_all_signs := mk1 X G c F__law_all_signs (by simp [fcs]) (ok_all_signs F__law_all_signs T (P := P) (w := w) (base := base)) fun _ _ _ _ _ _ us hl => match us, hl with | [], _ => rfl
  have d__law_some_set := mk1 X G c F__law_some_set (by simp [fcs]) (ok_some_set F__law_some_set T d__law_upto) fun _ _ _ _ _ _ us hl => match us, hl with | [_], _ => rfl
  have d__law_some_form := mk1 X G c F__law_some_form (by simp [fcs]) (ok_some_form F__law_some_form T d__law_upto d__law_all_signs) fun _ _ _ _ _ _ us hl => match us, hl with | [_, _, _], _ => rfl
  have d_words_of := mk1 X G c F_words_of (by simp [fcs]) (ok_words_of F_words_of T (P := P) (w := w) (base := base)) fun _ _ _ _ _ _ us hl => match us, hl with | [_], _ => rfl
  have d_LineReader := mkC X G c F_m__init__ (ok_init F_m__init__ T d_words_of) fun _ _ _ _ _ _ us hl => match us, hl with | [_, _, _], _ => rfl
  have d_ahead := mkM c F_mahead (by simp [fcs]) (ok_ahead F_mahead T (P := P) (w := w) (base := base)) fun _ _ _ _ _ _ us hl => match us, hl with | [_], _ => rfl
  have d_take := mkM c F_mtake (by simp [fcs]) (ok_take F_mtake T d_ahead) fun _ _ _ _ _ _ us hl => match us, hl with | [_], _ => rfl
  obtain ⟨f_SP, F_SP⟩ := fndI c (by simp [fns])
  have d_SyntaxProblem := mkI T c F_SP (ok_SyntaxProblem F_SP T (P := P) (w := w) (base := base)) fun _ _ _ _ _ _ us hl => match us, hl with | [_, _, _], _ => rfl
  have d_refuse := mkMX c F_mrefuse (by simp [fcs]) (ok_refuse F_mrefuse T d_SyntaxProblem) fun _ _ _ _ _ _ us hl => match us, hl with | [_], _ => rfl
  have d_need := mkMX c F_mneed (by simp [fcs]) (ok_need F_mneed T d_refuse) fun _ _ _ _ _ _ us hl => match us, hl with | [_, _], _ => rfl
  have d_take_only := mkMX c F_mtake_only (by simp [fcs]) (ok_only F_mtake_only T d_ahead d_need d_take) fun _ _ _ _ _ _ us hl => match us, hl with | [_, _], _ => rfl
  have d_read_part := mkX X G c F_read_part (by simp [fcs]) (ok_part F_read_part T d_is_sign d_ahead d_need d_take) fun _ _ _ _ _ _ us hl => match us, hl with | [_, _, _], _ => rfl
  have d_read_form := mkX X G c F_read_form (by simp [fcs]) (ok_form F_read_form T d_is_form_name d_read_part d_ahead d_need d_take d_take_only) fun _ _ _ _ _ _ us hl => match us, hl with | [_, _], _ => rfl
  have d_is_cost := mk1 X G c F_is_cost (by simp [fcs]) (ok_cost F_is_cost T tb_is_cost (P := P) (w := w)) fun _ _ _ _ _ _ us hl => match us, hl with | [_], _ => rfl
  have d_read_maker := mkX X G c F_read_maker (by simp [fcs]) (ok_maker F_read_maker T d_is_word d_is_cost d_ahead d_need d_take d_take_only) fun _ _ _ _ _ _ us hl => match us, hl with | [_, _, _], _ => rfl
  have d_parse_program := mkX X G c F_parse_program (by simp [fcs]) (ok_parse F_parse_program T d_SyntaxProblem d_LineReader d_read_form d_read_maker d_ahead d_take_only) fun _ _ _ _ _ _ us hl => match us, hl with | [_, _], _ => rfl
  have d__law_maker_words := mk1 X G c F__law_maker_words (by simp [fcs]) (ok_maker_words F__law_maker_words T (P := P) (w := w) (base := base)) fun _ _ _ _ _ _ us hl => match us, hl with | [_], _ => rfl
  have d__law_form_words := mk1 X G c F__law_form_words (by simp [fcs]) (ok_lform_words F__law_form_words T (P := P) (w := w) (base := base)) fun _ _ _ _ _ _ us hl => match us, hl with | [_], _ => rfl
  have d__law_some_program := mk1 X G c F__law_some_program (by simp [fcs]) (ok_prog F__law_some_program T d__law_upto d__law_choice d__law_some_set d__law_some_form) fun _ _ _ _ _ _ us hl => match us, hl with | [_, _], _ => rfl
  have d__law_words := mk1 X G c F__law_words (by simp [fcs]) (ok_lwords F__law_words T (P := P) (w := w) (base := base)) fun _ _ _ _ _ _ us hl => match us, hl with | [_], _ => rfl
  have d__law_is_name := mk1 X G c F__law_is_name (by simp [fcs]) (ok_lname F__law_is_name T (P := P) (w := w) (base := base)) fun _ _ _ _ _ _ us hl => match us, hl with | [_, _], _ => rfl
  have d__law_is_cost := mk1 X G c F__law_is_cost (by simp [fcs]) (ok_lcost F__law_is_cost T (P := P) (w := w) (base := base)) fun _ _ _ _ _ _ us hl => match us, hl with | [_], _ => rfl
  have d__law_read_form := mk1 X G c F__law_read_form (by simp [fcs]) (ok_lform F__law_read_form T d__law_is_name d__law_all_signs) fun _ _ _ _ _ _ us hl => match us, hl with | [_, _], _ => rfl
  have d__law_read_maker := mk1 X G c F__law_read_maker (by simp [fcs]) (ok_lmaker F__law_read_maker T d__law_is_name d__law_is_cost) fun _ _ _ _ _ _ us hl => match us, hl with | [_, _, _], _ => rfl
  have d__law_told := mk1 X G c F__law_told (by simp [fcs]) (ok_told F__law_told T d__law_words d__law_read_form d__law_read_maker) fun _ _ _ _ _ _ us hl => match us, hl with | [_, _], _ => rfl
  have d__law_outcome := mk1 X G c F__law_outcome (by simp [fcs]) (ok_outcome F__law_outcome T d_parse_program) fun _ _ _ _ _ _ us hl => match us, hl with | [_, _], _ => rfl
  have d__law_bent := mk1 X G c F__law_bent (by simp [fcs]) (ok_bent F__law_bent T d__law_upto d__law_choice) fun _ _ _ _ _ _ us hl => match us, hl with | [_, _], _ => rfl
  have d__law_broken := mk1 X G c F__law_broken (by simp [fcs]) (ok_broken F__law_broken T d__law_upto d__law_choice) fun _ _ _ _ _ _ us hl => match us, hl with | [_, _], _ => rfl
  exact ok_law FL T d__law_urn_of d__law_upto d__law_choice d__law_some_program d__law_form_words d__law_maker_words d__law_bent d__law_broken d__law_equal d__law_outcome d__law_told
end
abbrev LW : PySem.W.OpenLaw := PySem.Challenge.rw_clipforms_k71_whole_programs_refused
theorem law_at {w : World} {mg : Str → Option Value} {fa : Addr} {h : Heap} (Y : hk.says w h) (G : h.Ns mainGlobals mg) (hmg : mg "law" = some (.ref fa)) : ∃ K : PySem.W.Frag, K.In h ∧ LawAtG LW w K CX0 9 63 "script" mg fa h := by
  obtain ⟨K, X, s⟩ := Y
  have c := s.t.d
  have T := ty_of X G c s.more
  obtain ⟨fd, FL⟩ := fnd (x := "law") (st := s_law) c (by simp [fns])
  have e := hmg.symm.trans (He.glo_ok X G (c.facts (f := .glo "law") (by simp [fcs])))
  cases e
  have inT : ∀ p ∈ tfs.map (He.cT K), ∃ q ∈ tfs, He.cT K q = p := fun p hp => List.mem_map.mp hp
  refine ⟨K, X, fd, tfs.map (He.cT K), spLaw K, fun p hp => ?_, fun p hp => ?_, fun p hp => ?_, fun s v => ?_, fun H a ns hl _ hT _ hS => ?_, fun base Xb Gb TB => ?_⟩
  · obtain ⟨q, hq, rfl⟩ := inT p hp
    exact s.empty q hq
  · obtain ⟨q, hq, rfl⟩ := inT p hp
    exact s.out q hq
  · obtain ⟨q, hq, rfl⟩ := inT p hp
    exact PySem.W.codeHd_of_K X (s.hd q hq)
  · exact (FunD.bindsA (ps := ["script"]) FL fun _ _ _ _ _ _ us hl => match us, hl with | [_], _ => rfl) s [v] rfl
  · have tt : ∀ q ∈ tfs, TabG H (He.cT K q).2 := fun q hq => ⟨#[], hT (He.cT K q) (List.mem_map.mpr ⟨q, hq, rfl⟩), by first | exact .nil | trivial | (intro z; simp at z) | simp [TriplesOk]⟩
    exact ⟨a, ns, rfl, hS, hl, ⟨tt ("is_form_name", none) (by simp [tfs]), tt ("is_word", none) (by simp [tfs]), tt ("is_cost", none) (by simp [tfs])⟩, fun _ => rfl⟩
  · exact law_base X G c T TB FL
end Vf
end
section
set_option Elab.async false
set_option linter.all false
set_option maxRecDepth 100000
set_option maxHeartbeats 0
open PySem PySem.W PySem.Calls PyProof.Rows
theorem PySem.Challenge.cw_clipforms_k71_whole_programs_refused_holds : PySem.Challenge.rw_clipforms_k71_whole_programs_refused.Holds := by
  w_on; o_law
  refine HandSHeadRun.head_any (r := OpenLaw.row PySem.Challenge.rw_clipforms_k71_whole_programs_refused) (q := view (OpenLaw.row PySem.Challenge.rw_clipforms_k71_whole_programs_refused).prog [65]) (H := Vf.hk) (ob := Vf.ob) (M := 40000) (loose := Vf.loose) (d := HandSHeadRun.topDef (OpenLaw.row PySem.Challenge.rw_clipforms_k71_whole_programs_refused).prog 65) (kwd := []) Vf.ob_eq
    (by kernel_rfl) (fun s => by kernel_rfl) Vf.run (by kernel_rfl) (by kernel_rfl) (by kernel_rfl) (by rfl) (by first | assumption | decide +kernel) (by decide +kernel) ⟨rfl, rfl, rfl, rfl, rfl, by decide +kernel⟩ ?hw ?hc
  case hw => w_witness2
  case hc =>
    refine Vf.walkG (l := PySem.Challenge.rw_clipforms_k71_whole_programs_refused) (n := 63) (k := 9) (x := "script") (CX := fun _ => L2.CX0) rfl (by decide) (by kernel_rfl) ⟨rfl, by decide, by decide⟩ ?F (fun _ _ _ _ _ z => z)
    intro w mg fa h Y G hmg0
    have hmg : mg ("law" : PySem.Str) = some (.ref fa) := by
      have e : (HandSHeadRun.topDef (OpenLaw.row PySem.Challenge.rw_clipforms_k71_whole_programs_refused).prog 65).name = ("law" : PySem.Str) := by kernel_rfl
      rw [← e]
      exact hmg0
    exact Vf.law_at Y G hmg
end
