import PyProof.Rows.All
import Wide.All
import OpenK.AllK
import Wide.FinOn
import Lean
import HandS.ForMost
import HandS.Strs
import HandS.Conv
import HandS.TupAny
import HandS.TupMul
import HandS.Zip
import HandS.Deep
import HandS.Codes
import HandS.Wide
import HandS.IsInst
import HandS.AnyAll
import HandS.GenList
import HandS.Defaults
import HandS.Head0
import HandS.Head1
import HandS.Head2
import HandS.HeadEnd
import HandS.HeadHook1
import HandS.HeadHook2
import HandS.HeadHook4
import HandS.HeadWalk
import HandS.EndTab
import PyProof.ReprRoads
import HandS.ExcInit
import HandS.ExcValue
import HandS.ExcIs
import HandS.ExcField
import HandS.NoneIn
import PySem.Challenge.RW_clipforms_k06_errors
import PyProof.ReprLen
import PyProof.P3Eq
import HandS.NestedK
section
set_option Elab.async false
set_option linter.all false
set_option maxRecDepth 100000
set_option maxHeartbeats 4000000
/-! Own layer: defs that are called where no repr runs (FnG), repr of data, unions. -/
namespace Vf
open PySem PySem.Spec PyProof.Rows L2

/-- as FnOk, for calls where no repr is under way -/
structure FnG (P : Program) (w : World) (K : PySem.W.Frag) (mg : Str → Option Value) (base : Heap) (CX : CXT) (k : Nat) (f : Addr) (fd : FuncData) (ps : List Str) (sp : Sp) : Prop where
  len : ∀ vs H Q E, sp vs H Q E → vs.length = ps.length
  run : ∀ (A : Around) (outer : List Env) (s : Shared) (H : Hp) (args : Args) (us : List Value) (vs : List V) (Q : VK) (E : XK), A.guards = some [] → Room k A → Env0 P w K mg base A outer s H →
    BindsTo s fd args (ps.zip us) → Vals vs us → sp vs H Q E → codeAny (model P w) A (.call (.ref f) args) (CR CX outer P w H s Q E) s
section
variable {P : Program} {w : World} {K : PySem.W.Frag} {mg : Str → Option Value} {base : Heap} {CX : CXT} {k : Nat} {f : Addr} {fd : FuncData} {ps : List Str} {sp : Sp}
theorem FnG.of (F : FnOk P w K mg base CX k f fd ps sp) : FnG P w K mg base CX k f fd ps sp :=
  ⟨F.len, fun A outer s H args us vs Q E _ => F.run A outer s H args us vs Q E⟩
theorem deeper_guards {A : Around} {env : Env} (h : A.guards = some []) : (A.deeper env).guards = some [] := h

/-- a def's body where no repr is under way -/
theorem okG {x qual : Str} {params : Arguments} {body : List Stmt} {scope : Scope} {dvs : List V} {kws : List (Str × V)} {N : List Str}
    (F : FunD K x qual params body scope dvs kws f fd) (S : FnScope N ps scope) (len : ∀ vs H Q E, sp vs H Q E → vs.length = ps.length)
    (hbody : ∀ (cdv : Value) (hcv : fd.code = cdv) (A : Around) (outer : List Env) (s : Shared) (H : Hp) (vs : List V) (Q : VK) (E : XK), A.guards = some [] → Room k (A.deeper (envOfC qual scope s.heap.objs.size f cdv)) → sp vs H Q E →
      ∃ t, PSs (cxOf CX P w K mg base N qual scope f cdv A outer s H E) body t ∧ t { nx := fun _ H' => Q .non H', rt := Q } (start N vs) H) :
    FnG P w K mg base CX (k + 1) f fd ps sp := by
  obtain ⟨oc, od, dV, kV, doc, pm, an, cdv, ct, osl, rfl, lk, hcd, _, _⟩ := F.ex
  refine ⟨len, ?_⟩
  intro A outer s H args us vs Q E hg hr e0 hb r hsp
  have inS : K.In s.heap := e0.mod.kin.keeps (fun b o e => (e0.bs b o e).1)
  have noL : s.heap.NoLimit := e0.mod.nolimit.keeps (fun b o e => (e0.bs b o e).1)
  obtain ⟨t, ht, hq⟩ := hbody cdv rfl A outer s H vs Q E hg (hr.deeper _) hsp
  refine codeAny_call_function hr.depth (inS _ _ lk) rfl S.co S.gen rfl (PySem.W.codeRec_of inS hcd) (hb _ _ _ _ (wpAny_newFunctionEnv_cells S.kind ?_ ?_))
  · rintro ⟨n, v⟩ hy
    rcases S.par n (List.of_mem_zip hy).1 with q | q
    · exact Or.inl q
    · exact Or.inr ⟨q, PySem.W.cellsFrom_some _ _ _ (Or.inl q)⟩
  · intro env he s1 x
    subst he
    have I := inv_start (CX := CX) (E := E) (f := f) (cd := cdv) (qual := qual) S hr.hd e0 (len _ _ _ _ hsp) r x
    refine ⟨noL.keeps x.toInCall.keep, codeAny_func (wpAny_mono (ht.run [] s1 (start N vs) H _ I hq) ?_ (fun e s' hs => hs))⟩
    intro fl s' hs
    cases fl with
    | ret u =>
      obtain ⟨v, σ', H', J, rv, q⟩ := hs
      exact ⟨v, H', J.os, J.bare, J.base, J.hok, rv, q⟩
    | next =>
      obtain ⟨σ', H', J, q⟩ := hs
      exact ⟨V.non, H', J.os, J.bare, J.base, J.hok, rfl, q⟩
    | brk => exact hs.elim fun _ z => z.elim fun _ y => y.2.elim
    | cont => exact hs.elim fun _ z => z.elim fun _ y => y.2.elim
end

section
variable {X : Cx} {CX : CXT} {k : Nat} {f : Addr} {fd : FuncData} {ps : List Str} {sp : Sp} {dvs : List V} {ds : List Value} {E : XK} {x : Str} {p pos : Pos} {e : Expr} {es : List Expr} {t : TA}
/-- f(e, ..), f a def of this kind -/
theorem pe_callG (hgu : X.A.guards = some []) (F : FnG X.prog X.w X.K X.mg X.base CX k f fd ps sp) (hr : Room k X.A) (hg : Gl X x) (hm : X.mg x = some (.ref f)) (hk : PySem.W.keepIn X.K (.ref f) = true) (hb : Binds X.K fd ps ds)
    (hd : Vals dvs ds) (hx : Passes CX X E) (ha : PA X (e :: es) t) (hdb : (x == ("__debug__" : Str)) = false := by decide) (he : starEach (e :: es) X.env = (false, eval e X.env) :: starEach es X.env := by rfl)
    (hpl : (backTo pos (starEach es X.env)).any (·.1) = false := by rfl) : PE X (.Call (.Name x p) (e :: es) [] pos) (tCall sp dvs E t) := by
  refine ⟨fun pins s σ H Q I h => wpAny_Call_Name_kw (ld_glob I hg hm ?_ hdb)⟩
  refine PySem.W.callWith_K (h₀ := X.base) I.ok.mod.kin hk (thn (ha.run pos pins s σ H _ I h) ?_) he hpl
  rintro us s1 ⟨vs, H1, I1, r, q⟩
  refine ⟨I1.kIn, ?_⟩
  have r2 : Vals (vs ++ dvs) (us ++ ds) := r.append hd
  have hl : (us ++ ds).length = ps.length := by rw [← r2.length]; exact F.len _ _ _ _ q
  refine wpAny_call (codeAny_mono (F.run X.A X.stack s1 H1 ⟨us, []⟩ (us ++ ds) (vs ++ dvs) Q E hgu hr I1.env0 (hb s1 us I1.kIn hl) r2 q) ?_)
  intro r s' hq
  cases r with
  | error e => exact hx pins σ H1 s1 e s' I1 hq
  | ok fl =>
    cases fl with
    | ret u => exact I1.after hq
    | next => exact hq.elim
    | brk => exact hq.elim
    | cont => exact hq.elim

end
/-! ### data, empty dicts too -/
mutual
inductive Dd (K : PySem.W.Frag) (H : Hp) : V → PyData → Prop
  | non : Dd K H .non .none
  | bl (b : Bool) : Dd K H (.bl b) (.bool b)
  | int (i : Int) : Dd K H (.int i) (.int i)
  | str (x : Str) : Dd K H (.str x) (.str x)
  | lst {a : Addr} {xs : List V} {ds : List PyData} : SqL K H a xs → DdAll K H xs ds → Dd K H (.ref a) (.list ds)
  | tup {a : Addr} {xs : List V} {ds : List PyData} : SqT K H a xs → DdAll K H xs ds → Dd K H (.ref a) (.tuple ds)
  | dct {a : Addr} : H a = some (.dK []) → Dd K H (.ref a) (.dict [])
inductive DdAll (K : PySem.W.Frag) (H : Hp) : List V → List PyData → Prop
  | nil : DdAll K H [] []
  | cons {v : V} {vs : List V} {d : PyData} {ds : List PyData} : Dd K H v d → DdAll K H vs ds → DdAll K H (v :: vs) (d :: ds)
end
mutual
/-- no list within -/
def noLst : PyData → Bool
  | .list _ => false
  | .tuple ds => noLstA ds
  | _ => true
def noLstA : List PyData → Bool
  | [] => true
  | d :: ds => noLst d && noLstA ds
end
section
variable {X : Cx} {pins : List (Addr × Obj)} {σ : L2.St} {H : Hp} {s : Shared}
mutual
theorem Dd.reads (I : Inv X pins σ H s) : ∀ (d : PyData) (v : V) (u : Value), Dd X.K H v d → RelV v u → ∃ as, Reads s.heap u d as ∧ (noLst d = true → sysModules ∉ as)
  | .none, _, _, h, r => by
    cases h; cases r
    exact ⟨_, Reads.none, fun _ => by simp⟩
  | .bool b, _, _, h, r => by
    cases h; cases r
    exact ⟨_, Reads.bool b, fun _ => by simp⟩
  | .int i, _, _, h, r => by
    cases h
    obtain ⟨t, rfl⟩ := r
    exact ⟨_, Reads.int i t, fun _ => by simp⟩
  | .str x, _, _, h, r => by
    cases h
    obtain ⟨t, rfl⟩ := r
    exact ⟨_, Reads.str x t, fun _ => by simp⟩
  | .list ds, _, _, h, r => by
    cases h with
    | lst hs ha =>
      cases r
      obtain ⟨its, rv, ⟨o, n, ho, hc, _, hd⟩, _⟩ := I.list hs
      obtain ⟨as, hr, _⟩ := DdAll.reads I ds _ its ha rv
      exact ⟨_, Reads.list ho hc hd hr, fun z => by simp [noLst] at z⟩
  | .tuple ds, _, _, h, r => by
    cases h with
    | tup hs ha =>
      cases r
      obtain ⟨its, rv, ⟨o, ho, hc, n, hd⟩, _⟩ := I.tuple hs
      obtain ⟨as, hr, hn⟩ := DdAll.reads I ds _ its ha rv
      exact ⟨_, Reads.tuple ho hc hd hr, fun z => hn (by simpa [noLst] using z)⟩
  | .dict kvs, _, _, h, r => by
    cases h with
    | dct hs =>
      cases r
      obtain ⟨_, hne, vs, kv, hd⟩ := I.hok _ _ hs
      cases kv
      obtain ⟨o, es, ep, ho, hx, hda, _, hp, _⟩ := hd
      have e0 : es.toList = [] := by
        generalize es.toList = l at hp
        cases hp
        rfl
      refine ⟨_, Reads.dict (kvs := []) ho hx.1 hda (by rw [e0]; exact ReadsAll.nil) (by rw [e0]; exact ReadsAll.nil), fun _ z => ?_⟩
      simp at z
      rw [← z] at hne
      simp at hne
theorem DdAll.reads (I : Inv X pins σ H s) : ∀ (ds : List PyData) (vs : List V) (us : List Value), DdAll X.K H vs ds → Vals vs us → ∃ as, ReadsAll s.heap us ds as ∧ (noLstA ds = true → sysModules ∉ as)
  | [], _, _, h, r => by
    cases h; cases r
    exact ⟨_, ReadsAll.nil, fun _ => by simp⟩
  | d :: ds, _, _, h, r => by
    cases h with
    | cons h1 h2 =>
      cases r with
      | cons r1 r2 =>
        obtain ⟨as, q1, n1⟩ := Dd.reads I d _ _ h1 r1
        obtain ⟨bs, q2, n2⟩ := DdAll.reads I ds _ _ h2 r2
        refine ⟨_, ReadsAll.cons q1 q2, fun z => ?_⟩
        simp only [noLstA, Bool.and_eq_true] at z
        intro m
        rcases List.mem_append.mp m with m | m
        · exact n1 z.1 m
        · exact n2 z.2 m
end
/-- repr(x) of data -/
theorem call_reprD (hgu : X.A.guards = some []) (hu : X.A.units + 64 < cLine) : CallR X (.builtin "repr") (fun xs H Q => ∃ v d, xs = [v] ∧ Dd X.K H v d ∧ d.showable = true ∧ (d.hasDict = true → noLst d = true) ∧ d.depth < 60 ∧ d.shown.length ≤ sizeLine ∧ Q (.str d.shown) H) := by
  intro pins s σ H xs us Q I r h
  obtain ⟨v, d, rfl, hd, hs, hdd, hdp, hz, q⟩ := h
  obtain ⟨u, rfl, rv⟩ := vals1 r
  have fin : ∀ a as, u = .ref a → Reads s.heap (.ref a) d as → (noLst d = true → sysModules ∉ as) → wpAny (model X.prog X.w) X.A (call (.builtin "repr") [u]) (EP X pins σ Q) X.xe s := by
    rintro a as rfl rd hn
    refine PySem.repr_of_reads' rd hs (fun z => hn (hdd z)) hgu (by omega) (fun _ _ e => e) (fun h' u tk k => ?_) hz
    exact ⟨.str d.shown, H, I.kept k, ⟨_, rfl⟩, q⟩
  cases hd with
  | non => cases rv; exact PySem.P.repr_of_none ⟨.str _, H, I.tok _, ⟨_, rfl⟩, q⟩
  | bl b => cases rv; exact PySem.P.repr_of_bool ⟨.str _, H, I.tok _, ⟨_, rfl⟩, q⟩
  | int i => obtain ⟨t, rfl⟩ := rv; exact PySem.P.repr_of_int (by simpa [PyData.showable] using hs) ⟨.str _, H, I.tok _, ⟨_, rfl⟩, q⟩
  | str y => obtain ⟨t, rfl⟩ := rv; exact PySem.P.repr_of_str ⟨.str _, H, I.tok _, ⟨_, rfl⟩, q⟩ hz
  | lst h1 h2 =>
    obtain ⟨as, rd, hn⟩ := Dd.reads I _ _ _ (Dd.lst h1 h2) rv
    cases rv
    exact fin _ as rfl rd hn
  | tup h1 h2 =>
    obtain ⟨as, rd, hn⟩ := Dd.reads I _ _ _ (Dd.tup h1 h2) rv
    cases rv
    exact fin _ as rfl rd hn
  | dct h1 =>
    obtain ⟨as, rd, hn⟩ := Dd.reads I _ _ _ (Dd.dct h1) rv
    cases rv
    exact fin _ as rfl rd hn
end
end Vf
end
section
set_option Elab.async false
set_option linter.all false
set_option maxRecDepth 100000
set_option maxHeartbeats 4000000
/-! The end of a law's row whose law is such a def. -/
namespace Vf
open PySem PySem.Spec PyProof.Rows L2 GxR
section
variable {P : Program} {w : World} {K : PySem.W.Frag} {mg mb : Str → Option Value} {CX : CXT} {k : Nat} {fa a : Addr} {cs : List (Addr × Addr)} {fd : FuncData} {x : Str} {sp : Sp} {s₁ : Shared} {vs : List Value} {ns : List Int}

/-- the script's own object -/
abbrev lo (vs : List Value) : Obj := { cls := .type "list", data := .seq vs.toArray }
/-- what is tracked where the law is called -/
def H1st (K : PySem.W.Frag) (T : List Addr) (a : Addr) (vs : List Value) (ns : List Int) : Hp := fun b =>
  if b ∈ T then some (.tbl #[]) else if b = a ∧ K.lookup a = none then some (.frz (lo vs) (.lst (ns.map V.int))) else none
theorem H1st_tab {T : List Addr} {b : Addr} (h : b ∈ T) : H1st K T a vs ns b = some (.tbl #[]) := if_pos h
theorem H1st_cases (T : List Addr) (b : Addr) : (b ∈ T ∧ H1st K T a vs ns b = some (.tbl #[])) ∨ (b ∉ T ∧ b = a ∧ K.lookup a = none ∧ H1st K T a vs ns b = some (.frz (lo vs) (.lst (ns.map V.int)))) ∨ (b ∉ T ∧ H1st K T a vs ns b = none) := by
  unfold H1st
  by_cases h1 : b ∈ T
  · exact Or.inl ⟨h1, if_pos h1⟩
  · by_cases h2 : b = a ∧ K.lookup a = none
    · exact Or.inr (Or.inl ⟨h1, h2.1, h2.2, by rw [if_neg h1, if_pos h2]⟩)
    · exact Or.inr (Or.inr ⟨h1, by rw [if_neg h1, if_neg h2]⟩)

theorem law_callG (inK : K.In s₁.heap) (gl : s₁.heap.Ns mainGlobals mg) (bl : s₁.heap.Ns builtinsNs mb) (bb : ∀ x : Str, x ≠ "__name__" → mb x = bootBuiltins x) (nl : s₁.heap.NoLimit) (ge : s₁.gens = #[])
    (tE : ∀ p ∈ cs, s₁.heap.get? p.2 = some { cls := .none, data := .fields #[] }) (tK : ∀ p ∈ cs, K.lookup p.2 = none) (cH : ∀ p ∈ cs, PySem.W.CodeHd s₁.heap p.1 p.2)
    (bM : ∃ (bm : Addr) (ob : Obj), mg "__builtins__" = some (.ref bm) ∧ bm ≠ builtinsNs ∧ s₁.heap.get? bm = some ob ∧ ob.cls = .type "module" ∧ ob.dict = some builtinsNs ∧ ob.data = .plain)
    (aL : s₁.heap.get? a = some (lo vs)) (iA : IntsAre vs ns) (nz : ns.length ≤ sizeLine) (hr : Room k callerA)
    (F : ∀ base : Heap, K.In base → base.Ns mainGlobals mg → (∀ p ∈ cs, TabB base mg p.1 p.2) → FnG P w K mg base CX k fa fd [x] sp) (bnd : ∀ (s : Shared) (u : Value), BindsTo s fd ⟨[u], []⟩ [(x, u)])
    (hsp : ∀ H : Hp, (∀ p ∈ cs, H p.2 = some (.tbl #[])) → (∀ b, H b = none ∨ b ∈ cs.map (·.2) ∨ b = a) → SqL K H a (ns.map V.int) → sp [.ref a] H (fun v _ => v = .bl true) fun _ _ _ => False)
    (nX : ∀ H e s', CX [] H s₁ (fun _ _ _ => False) e s' → False) :
    codeAny (model P w) callerA (.call (.ref fa) ⟨[.ref a], []⟩) (fun r s' => r = .ok (.ret (.bool true)) ∧ OldK s₁.heap s'.heap ∧ s'.os = s₁.os ∧ AllBare s'.gens) s₁ := by
  have vl := vals_ints iA
  have ln := iA.length
  generalize eT : cs.map (·.2) = T at hsp
  have inT : ∀ p ∈ cs, p.2 ∈ T := fun p hp => eT ▸ List.mem_map.mpr ⟨p, hp, rfl⟩
  have ofT : ∀ b ∈ T, ∃ p ∈ cs, p.2 = b := fun b hb => by
    rw [← eT] at hb
    exact List.mem_map.mp hb
  have tO : ∀ b ∈ T, s₁.heap.get? b = some { cls := .none, data := .fields #[] } := fun b hb => by
    obtain ⟨p, hp, rfl⟩ := ofT b hb
    exact tE p hp
  have aT : a ∉ T := fun z => by
    have q := tO a z
    rw [aL] at q
    exact nomatch congrArg Obj.data (Option.some.inj q)
  generalize eH : H1st K T a vs ns = H
  have cas := fun b => eH ▸ H1st_cases (K := K) (a := a) (vs := vs) (ns := ns) T b
  have hT : ∀ b ∈ T, H b = some (.tbl #[]) := fun b hb => eH ▸ H1st_tab hb
  -- an object that is neither a list nor an empty record is not tracked
  have plainO : ∀ {b : Addr} {o : Obj}, s₁.heap.get? b = some o → (∀ ys m, o.data ≠ .seq ys m) → o.data ≠ .fields #[] → H b = none := by
    intro b o e h1 h2
    rcases cas b with ⟨hb, _⟩ | ⟨_, rfl, _, _⟩ | ⟨_, h⟩
    · rw [tO b hb] at e
      exact (h2 (Option.some.inj e ▸ rfl)).elim
    · rw [aL] at e
      cases e
      exact (h1 _ _ rfl).elim
    · exact h
  have nsT : ∀ {b : Addr} {m : Str → Option Value}, s₁.heap.Ns b m → (hidT s₁.heap H).Ns b m := by
    rintro b m ⟨o, es, ep, e, d, r⟩
    exact ⟨o, es, ep, hidT_get e (plainO e (fun ys m z => nomatch d.symm.trans z) fun z => nomatch d.symm.trans z), d, r⟩
  have inB : K.In (hidT s₁.heap H) := fun b o e => by
    refine hidT_get (inK b o e) ?_
    rcases cas b with ⟨hb, _⟩ | ⟨_, rfl, h, _⟩ | ⟨_, h⟩
    · obtain ⟨p, hp, rfl⟩ := ofT b hb
      exact nomatch (tK p hp).symm.trans e
    · exact nomatch h.symm.trans e
    · exact h
  have M : L2.Mod K mg (hidT s₁.heap H) := by
    refine ⟨inB, nsT gl, ⟨mb, nsT bl, bb⟩, ?_⟩
    obtain ⟨mc, h1, h2⟩ := nl
    exact ⟨mc, nsT h1, h2⟩
  have TB : ∀ p ∈ cs, TabB (hidT s₁.heap H) mg p.1 p.2 := by
    intro p hp
    refine ⟨?_, ?_, ?_⟩
    · obtain ⟨o, us, file, tf, flags, tg, inF, text, tt, e1, r1, r2, r3, rest⟩ := cH p hp
      exact ⟨o, us, file, tf, flags, tg, inF, text, tt, hidT_get e1 (plainO e1 (fun ys m z => nomatch r2.symm.trans z) fun z => by
        rw [r2] at z
        injection z with z
        rw [z] at r3
        simp at r3), r1, r2, r3, rest⟩
    · obtain ⟨bm, ob, b1, b2, b3, b4, b5, b6⟩ := bM
      have d1 : ∀ ys m, ob.data ≠ .seq ys m := fun ys m z => nomatch b6.symm.trans z
      have d2 : ob.data ≠ .fields #[] := fun z => nomatch b6.symm.trans z
      refine ⟨bm, ob, b1, b2, ?_, ?_, hidT_get b3 (plainO b3 d1 d2), b4, b5, b6⟩
      · rintro rfl
        obtain ⟨o, es, ep, e, hd, _⟩ := gl
        rw [b3] at e
        rw [Option.some.inj e] at b6
        exact nomatch hd.symm.trans b6
      · rintro rfl
        rw [tE p hp] at b3
        exact d2 (Option.some.inj b3 ▸ rfl)
    · intro z
      obtain ⟨o, es, ep, e, hd, _⟩ := gl
      rw [z, tE p hp] at e
      rw [← Option.some.inj e] at hd
      exact nomatch hd
  have ok : HOk P w H s₁.heap := fun b u e => by
    rcases cas b with ⟨hb, h⟩ | ⟨_, rfl, _, h⟩ | ⟨_, h⟩
    · rw [h] at e
      cases e
      exact tO b hb
    · rw [h] at e
      cases e
      exact ⟨aL, by rw [List.length_map]; exact nz, vs, _, vl, aL⟩
    · rw [h] at e
      cases e
  have SQ : SqL K H a (ns.map V.int) := by
    rcases cas a with ⟨hb, _⟩ | ⟨_, _, _, h⟩ | ⟨_, h⟩
    · exact (aT hb).elim
    · exact Or.inl (Or.inr ⟨_, h⟩)
    · cases q : K.lookup a with
      | none =>
        rw [← eH] at h
        unfold H1st at h
        rw [if_neg aT, if_pos ⟨rfl, q⟩] at h
        cases h
      | some o =>
        have e := inK a o q
        rw [aL] at e
        cases e
        exact Or.inr ⟨_, vs.toArray, _, q, rfl, rfl, rfl, by rw [List.size_toArray, ln]; exact nz, by simpa using vl⟩
  have E0 : Env0 P w K mg (hidT s₁.heap H) callerA [] s₁ H := ⟨rfl, M, fun b o e => of_hidT e, Nat.le_of_eq (hidT_size _ _), trivial, fun b hb => absurd (show b ∈ ([] : List Addr) from hb) (by simp), ok, AllBare.of_eq ge⟩
  have go := (F _ inB (nsT gl) TB).run callerA [] s₁ H ⟨[.ref a], []⟩ [.ref a] [.ref a] _ _ rfl hr E0 (bnd s₁ (.ref a)) (.cons rfl .nil) (hsp H (fun p hp => hT _ (inT p hp)) (fun b => by
    rcases cas b with ⟨hb, _⟩ | ⟨_, h, _, _⟩ | ⟨_, h⟩
    · exact Or.inr (Or.inl hb)
    · exact Or.inr (Or.inr h)
    · exact Or.inl h) SQ)
  refine codeAny_mono go ?_
  intro r s' h
  cases r with
  | error e => exact (nX H e s' h).elim
  | ok fl =>
    cases fl with
    | next => exact h.elim
    | brk => exact h.elim
    | cont => exact h.elim
    | ret u =>
      obtain ⟨v, H', os, bare, un, ok', r', q⟩ := h
      cases (show v = .bl true from q)
      cases (show u = Value.bool true from r')
      have same : ∀ b o, b ∉ T → s₁.heap.get? b = some o → s'.heap.get? b = some o := by
        intro b o nb e
        rcases cas b with ⟨hb, _⟩ | ⟨_, rfl, _, h⟩ | ⟨_, h⟩
        · exact (nb hb).elim
        · rw [aL] at e
          cases e
          exact (ok' b _ (un.frzs b _ _ h)).1
        · exact un.keep b o e h (fun z => absurd (show b ∈ ([] : List Addr) from z) (by simp)) (by simp)
      have grew : ∀ b ∈ T, ∃ more : Array Value, s'.heap.get? b = some { cls := .none, data := .fields more } := fun b hb => by
        obtain ⟨more, z⟩ := un.tbls b #[] (hT b hb)
        exact ⟨_, ok' b _ z⟩
      refine ⟨rfl, ⟨?_, ?_⟩, os, bare⟩
      · intro b o e
        by_cases hb : b ∈ T
        · obtain ⟨more, hm⟩ := grew b hb
          rw [tO b hb] at e
          cases e
          obtain ⟨p, hp, rfl⟩ := ofT b hb
          exact Or.inr (Or.inl ⟨((cH p hp).tab (tE p hp)).isCodeTable, rfl, #[], more, rfl, by rw [Array.empty_append]; exact hm⟩)
        · exact Or.inl (same b o hb e)
      · intro b o e
        by_cases hb : b ∈ T
        · obtain ⟨more, hm⟩ := grew b hb
          exact ⟨_, hm⟩
        · exact ⟨o, same b o hb e⟩
end
/-- what is known of the law at the head's heap -/
def LawAtG (l : PySem.W.OpenLaw) (w : World) (K : PySem.W.Frag) (CX : CXT) (k n : Nat) (x : Str) (mg : Str → Option Value) (fa : Addr) (h : Heap) : Prop :=
  ∃ (fd : FuncData) (cs : List (Addr × Addr)) (sp : Sp), (∀ p ∈ cs, h.get? p.2 = some { cls := .none, data := .fields #[] }) ∧ (∀ p ∈ cs, K.lookup p.2 = none) ∧ (∀ p ∈ cs, PySem.W.CodeHd h p.1 p.2) ∧
    (∀ (s : Shared) (u : Value), BindsTo s fd ⟨[u], []⟩ [(x, u)]) ∧
    (∀ (H : Hp) (a : Addr) (ns : List Int), ns.length ≤ n → (∀ z ∈ ns, Builtin.Int.intBits z ≤ 1048576) → (∀ p ∈ cs, H p.2 = some (.tbl #[])) → (∀ b, H b = none ∨ b ∈ cs.map (·.2) ∨ b = a) → SqL K H a (ns.map V.int) →
      sp [.ref a] H (fun v _ => v = .bl true) fun _ _ _ => False) ∧
    ∀ base : Heap, K.In base → base.Ns mainGlobals mg → (∀ p ∈ cs, TabB base mg p.1 p.2) → FnG l.prog w K mg base CX k fa fd [x] sp
theorem walkG {l : PySem.W.OpenLaw} {n k : Nat} {q : Program} {loose : List Str} {XP : (Str → Option Value) → Heap → Prop} {YP : World → Heap → Prop} {d : DefRec} {CX : World → CXT} {x : Str}
    (hn : l.most = some n) (n2 : n ≤ sizeLine) (nd : d.params.defaults = []) (hr : Room k callerA)
    (F : ∀ (w : World) (mg : Str → Option Value) (fa : Addr) (h : Heap), YP w h → h.Ns mainGlobals mg → mg d.name = some (.ref fa) → ∃ K : PySem.W.Frag, K.In h ∧ LawAtG l w K (CX w) k n x mg fa h)
    (nX : ∀ (w : World) (H : Hp) (s : Shared) (e : Value) (s' : Shared), CX w [] H s (fun _ _ _ => False) e s' → False) :
    PySem.W.WalkO q loose XP YP l.row.toRowW d [] (fun f vs => PySem.call f vs) := by
  refine Att.attach_callB hn nd ?_
  intro w s₀ s₁ mg mb fa o pm cd doc a vs ns G Y ho hd hcd hmg hobj hints hlen hbits hg
  obtain ⟨K, KX, fd, cs, sp, h1, h2, h3, h4, h5, h6⟩ := F w mg fa _ Y G.T.g hmg
  exact law_callG KX G.T.g G.T.b G.T.builtins G.T.nolimit hg h1 h2 h3 G.T.bmain hobj hints (Nat.le_trans hlen n2) hr h6 h4 (fun H hH hO hS => h5 H a ns hlen hbits hH hO hS) fun H e s' => nX w H s₁ e s'
end Vf
end
section
set_option Elab.async false
set_option linter.all false
set_option maxRecDepth 100000
set_option maxHeartbeats 4000000
/-! any, all of a generator expression whose element may call defs. -/
namespace Vf
open PySem PySem.Spec PyProof.Rows L2 GxR

/-- a generator expression's own names, over the names N of the def around (scope sc): own, the slots that it hides -/
structure GOk (N : List Str) (sc scope : Scope) (x : Str) (own : List Nat) : Prop where
  kind : scope.kind = .function
  co : scope.isCoroutine = false
  cell : ∀ y ∈ scope.names, y.2 ≠ .cell
  dot : scope.names.lookup (".0" : Str) = some NameKind.local
  loc : scope.names.lookup x = some .local
  free : ∀ y ∈ scope.names, y.2 = .free → sc.names.lookup y.1 = some .cell ∨ sc.names.lookup y.1 = some .free
  own : ∀ p ∈ N.zipIdx, scope.names.lookup p.1 = some .local → p.2 ∈ own
def gokB (N : List Str) (sc scope : Scope) (x : Str) (own : List Nat) : Bool :=
  (match scope.kind with | .function => true | _ => false) && !scope.isCoroutine && scope.names.all (fun y => decide (y.2 ≠ .cell)) && decide (scope.names.lookup (".0" : Str) = some NameKind.local) && decide (scope.names.lookup x = some .local) &&
  scope.names.all (fun y => decide (y.2 ≠ .free) || decide (sc.names.lookup y.1 = some .cell) || decide (sc.names.lookup y.1 = some .free)) &&
  N.zipIdx.all (fun p => decide (scope.names.lookup p.1 ≠ some .local) || own.contains p.2)
theorem gok_by {N : List Str} {sc scope : Scope} {x : Str} {own : List Nat} (h : gokB N sc scope x own = true) : GOk N sc scope x own := by
  unfold gokB at h
  simp only [Bool.and_eq_true, List.all_eq_true, decide_eq_true_eq, Bool.or_eq_true, Bool.not_eq_true'] at h
  obtain ⟨⟨⟨⟨⟨⟨h1, h2⟩, h3⟩, h4⟩, h5⟩, h6⟩, h7⟩ := h
  refine ⟨?_, h2, h3, h4, h5, fun y hy e => ?_, fun p hp e => ?_⟩
  · split at h1
    · assumption
    · cases h1
  · rcases h6 y hy with (q | q) | q
    · exact absurd e q
    · exact Or.inl q
    · exact Or.inr q
  · rcases h7 p hp with q | q
    · exact absurd e q
    · exact List.contains_iff_mem.mp q

/-- the frame of the generator while it runs: A around it, s and H where it was made, fp its iterator's objects -/
abbrev gcx (X : Cx) (A : Around) (s : Shared) (H : Hp) (genv : Env) (fp : List Addr) : Cx :=
  { X with A := A, s_0 := s, H_0 := H, env := genv, outer := X.stack, stack := genv :: X.stack, ex := fp, fn := fun _ => false, calm := true, pn := [], xe := fun _ _ => False }

theorem over_comp {A : Around} {elt tg iter : Expr} {ifs : List Expr} {scope : Scope} {pos : Pos} {it acc : Value} {env : Env} :
    A.over (.compLoop (.GeneratorExp elt [⟨tg, iter, ifs, 0⟩] scope pos) 0 it acc env) [] = A.deeper env := by
  first
    | rfl
    | (obtain ⟨hd, d, fr, gs, u⟩ := A; simp [Around.over, Around.deeper, marksOver, frameCount, unitsOf, envsOf, guardsOf, pushEnvs, pushGuards, Code.envs, Code.env?, Code.isFrame, Code.guards, Code.isGuard, Code.weight, Code.frames, Code.isCreation, Code.isCaller, Code.cUnits])
theorem over_start {A : Around} {elt tg iter : Expr} {ifs : List Expr} {scope : Scope} {pos : Pos} {it acc : Value} {env : Env} :
    A.over (.compStart (.GeneratorExp elt [⟨tg, iter, ifs, 0⟩] scope pos) 0 it acc env) [] = A.deeper env := by
  first
    | rfl
    | (obtain ⟨hd, d, fr, gs, u⟩ := A; simp [Around.over, Around.deeper, marksOver, frameCount, unitsOf, envsOf, guardsOf, pushEnvs, pushGuards, Code.envs, Code.env?, Code.isFrame, Code.guards, Code.isGuard, Code.weight, Code.frames, Code.isCreation, Code.isCaller, Code.cUnits])

section
variable {X : Cx} {pins : List (Addr × Obj)} {σ : L2.St} {H : Hp} {s : Shared}

/-- the generator's frame as it is made -/
theorem gen_start {A : Around} {scope : Scope} {x : Str} {own : List Nat} {fp : List Addr} {it : Value} {code : Value} {h' h5 : Heap} {g5 : Array GenState} {t5 : Nat} {go : Obj} {a : Addr}
    (hA : A.handled = none) (hAf : A.frames = some (genEnv scope (cloFrom X.env.cells scope.names []) s.heap.objs.size code builtinsNs X.env :: X.stack))
    (I : Inv X pins σ H s) (ok : GOk X.N X.env.scope scope x own) (hfp : ∀ b ∈ fp, FpOk X pins H b ∧ b < s.heap.objs.size)
    (k5 : ∀ b o, s.heap.get? b = some o → h5.get? b = some o) (n5 : h5.Ns s.heap.objs.size (fun y => if y = (".0" : Str) then some it else none)) (b5 : AllBare g5)
    (ha : s.heap.objs.size < a) (ga : h5.get? a = some go) (gd : ∀ v, go.data ≠ .cell v) :
    Inv (gcx X A s H (genEnv scope (cloFrom X.env.cells scope.names []) s.heap.objs.size code builtinsNs X.env) fp) [(a, go)] (wipe σ own) H { s with heap := h5, gens := g5, toks := t5 } := by
  have hfree : ∀ y, (y, NameKind.free) ∈ scope.names → ∃ c, X.env.cells.lookup y = some c := fun y hy => by
    rcases ok.free _ hy rfl with k | k
    · exact I.ok.has _ (.inl k)
    · exact I.ok.has _ (.inr k)
  have cm : ∀ {y c}, (y, c) ∈ cloFrom X.env.cells scope.names [] → X.env.cells.lookup y = some c := fun {y c} hm => by
    rcases cloFrom_mem hm with hm | ⟨h1, rfl⟩
    · cases hm
    · obtain ⟨c, hc⟩ := hfree _ h1
      rw [hc]; rfl
  have cl : ∀ {y c}, (cloFrom X.env.cells scope.names []).lookup y = some c → X.env.cells.lookup y = some c := fun {y c} e => cm (PySem.mem_of_lookup e)
  have lk : ∀ {y}, scope.names.lookup y = some .free → ∃ c, (cloFrom X.env.cells scope.names []).lookup y = some c ∧ X.env.cells.lookup y = some c := fun {y} hl => by
    obtain ⟨c', e'⟩ := mem_lookup (cloFrom_has (cells := X.env.cells) (acc := []) (PySem.mem_of_lookup hl))
    exact ⟨c', e', cl e'⟩
  have nC : ∀ b, b ∈ fp → b ≠ s.heap.objs.size := fun b hb => Nat.ne_of_lt (hfp b hb).2
  refine ⟨⟨I.ok.mod, ok.kind, I.ok.glob, rfl, Nat.le_refl _, fun y z c e1 e2 => I.ok.inj y z c (cl e1) (cl e2), fun y hy => ?_, fun y c e => Bool.noConfusion (show false = true from e), fun _ => hA, hAf, .inr ⟨rfl, rfl⟩, fun b hb => ⟨nC b hb, fun y c e z => ?_⟩, I.bs,
      Nat.le_trans I.ok.bsz I.sz, fun b o e hb => ?_, fun b hb z => ?_, I.stack, I.stkFree⟩, rfl, b5, Un.kept k5, ⟨_, n5, fun i y v e1 e2 e3 => ?_⟩, fun y c e => ?_, I.hok.fresh (Nat.le_refl _), fun y c e => I.freeC y c (cl e), fun p hp => ?_, I.hok.kept k5, by rw [wipe_length]; exact I.len⟩
  · have hy : scope.names.lookup y = some .cell ∨ scope.names.lookup y = some .free := hy
    rcases hy with hy | hy
    · exact absurd rfl (ok.cell _ (PySem.mem_of_lookup hy))
    · obtain ⟨c, h1, _⟩ := lk hy
      exact ⟨c, h1⟩
  · exact (hfp b hb).1.2.2.2.2.1 y c (cl e) z
  · rcases (hfp b hb).1.2.2.2.1 with z | z
    · exact I.ok.noex b o e z
    · exact absurd (Nat.lt_of_lt_of_le (Heap.lt_size e) (Nat.le_trans I.ok.bsz z)) (Nat.lt_irrefl _)
  · rcases List.mem_cons.mp (I.stkSub b z) with z | z
    · exact (hfp b hb).1.2.1 z
    · exact (hfp b hb).1.2.2.1 z
  · obtain ⟨e2, hne⟩ := wipe_some e2
    have e3 : scope.names.lookup y = some .local ∨ scope.names.lookup y = some .cell ∨ scope.names.lookup y = some .free := e3
    have e1' : X.N[i]? = some y := e1
    rcases e3 with e3 | e3 | e3
    · have hm : (y, i) ∈ X.N.zipIdx := by
        rw [List.mem_zipIdx_iff_getElem?]
        exact e1'
      exact absurd (ok.own _ hm e3) hne
    · exact absurd rfl (ok.cell _ (PySem.mem_of_lookup e3))
    · obtain ⟨m, hn, hl⟩ := I.loc
      have hsc := ok.free _ (PySem.mem_of_lookup e3) rfl
      obtain ⟨u, r, q⟩ := hl i y v e1' e2 (hsc.elim (fun k => .inr (.inl k)) fun k => .inr (.inr k))
      obtain ⟨c, h1, h2⟩ := lk e3
      refine ⟨u, r, .inr ⟨.inr e3, c, h1, ?_⟩⟩
      rcases q with ⟨k, _⟩ | ⟨_, c', e', z⟩
      · have k : X.env.scope.names.lookup y = some .local := k
        rcases hsc with k' | k' <;> (have k' : X.env.scope.names.lookup y = _ := k'; rw [k] at k'; cases k')
      · rw [h2] at e'; cases e'
        exact z.keeps k5
  · obtain ⟨v, z⟩ := I.cell y c (cl e)
    exact ⟨v, z.keeps k5⟩
  · have hp : p ∈ ([] : List (Addr × Obj)) ++ [(a, go)] := hp
    simp only [List.nil_append, List.mem_singleton] at hp
    subst hp
    refine ⟨ga, I.hok.fresh (Nat.le_of_lt ha), Nat.ne_of_gt ha, fun z => ?_, gd⟩
    have z : a ∈ frs X.stack := z
    rcases List.mem_cons.mp (I.stkSub a z) with z | z
    · have := I.lt
      rw [← z] at this
      exact absurd (Nat.lt_trans this ha) (Nat.lt_irrefl _)
    · exact I.nofs (Nat.le_of_lt ha) z
end
end Vf
end
section
set_option Elab.async false
set_option linter.all false
set_option maxRecDepth 100000
set_option maxHeartbeats 4000000
namespace Vf
open PySem PySem.Spec PyProof.Rows L2 GxR

/-- while the generator sleeps nothing happens to the heap -/
structure Slp (s s' : Shared) : Prop where
  os : s'.os = s.os
  bare : AllBare s'.gens
  heap : s'.heap = s.heap
theorem Inv.slp {X : Cx} {pins : List (Addr × Obj)} {σ : L2.St} {H : Hp} {s s' : Shared} (I : Inv X pins σ H s) (z : Slp s s') : Inv X pins σ H s' := by
  obtain ⟨h1, h2, h3⟩ := z
  exact I.call' (ch := []) h1 (by rw [h3]; exact Un.refl) (by rw [h3]; exact I.hok) h2 (fun b hb => absurd hb (by simp))

/-- what the turns of an any (cont false), an all (cont true) are to reach -/
def Turns (cont : Bool) (j : Nat) (σ0 : L2.St) (tt : TT) (te : TE) (J : It) (Q : VK) (W : Nat → Nat → Hp → Prop) : Prop :=
  ∀ i m H, W i m H → (J.stop i H ∧ Q (.bl cont) H) ∨ (J.go i H ∧ ∃ Nx : Hp → Prop, (∀ H', Nx H' → ∃ m', m' < m ∧ W (i + 1) m' H') ∧ ∀ y H', J.yld i H y H' →
    tt (σ0.set j (some y)) H' fun b H3 => if b = true then te (σ0.set j (some y)) H3 fun z H4 => ∃ c, z = .bl c ∧ (if c = cont then Nx H4 else Q (.bl (!cont)) H4) else Nx H3)
def GPr (Xg : Cx) (pin : List (Addr × Obj)) (σ0 : L2.St) (Q : VK) (cont : Bool) : Protocol := fun n s₀ v s kap =>
  ∃ c H, v = .bool c ∧ Inv Xg pin σ0 H s ∧ (if c = cont then ∀ s', Slp s s' → kap (.send .none) s' else Q (.bl (!cont)) H)
def GRe (Xg : Cx) (pin : List (Addr × Obj)) (σ0 : L2.St) (Q : VK) (cont : Bool) : GenEnd := fun n s₀ r s => r = .ok .next ∧ ∃ H, Inv Xg pin σ0 H s ∧ Q (.bl cont) H

section
variable {Xg : Cx} {A : Around} {elt iter : Expr} {ifs : List Expr} {x : Str} {px : Pos} {scope : Scope} {pos : Pos} {it : Addr} {fp : List Addr} {tn : Nat → Heap → Prop} {J : It} {pin : List (Addr × Obj)} {j : Nat} {tt : TT} {te : TE} {σ0 : L2.St}
  {Q : VK} {W : Nat → Nat → Hp → Prop} {cont : Bool}
theorem seg_gl (hc : Xg.calm = true) (hov : A.deeper Xg.env = Xg.A) (T : Turn Xg.prog Xg.w Xg.K (.Name x px) J fp it tn) (hpn : Xg.pn = []) (hex : Xg.ex = fp) (hpin : ∀ p ∈ pin, p.1 ∉ fp)
    (pg : PG Xg (.Name x px) (gName j)) (pt : PTs Xg ifs tt) (pe : PE Xg elt te) (h0 : ∀ v, σ0[j]? ≠ some (some v)) (hco : Xg.env.scope.isCoroutine = false) (hxe : Xg.xe = fun _ _ => False) (tu : Turns cont j σ0 tt te J Q W) :
    ∀ (m n i : Nat) (s₀ s : Shared) (H : Hp), m < n → Inv Xg pin σ0 H s → tn i s.heap → (∀ b ∈ fp, H b = none) → W i m H →
      Seg (model Xg.prog Xg.w) A (GRe Xg pin σ0 Q cont) (GPr Xg pin σ0 Q cont) n s₀ (.compLoop (.GeneratorExp elt [⟨.Name x px, iter, ifs, 0⟩] scope pos) 0 (.ref it) .none Xg.env)
        ((model Xg.prog Xg.w).den (.compLoop (.GeneratorExp elt [⟨.Name x px, iter, ifs, 0⟩] scope pos) 0 (.ref it) .none Xg.env)) [] s := by
  have stat : ∀ {σ' : L2.St} {H' : Hp} {s' : Shared}, Inv Xg pin σ' H' s' → (∀ b ∈ fp, H' b = none) → ∀ b ∈ fp, FpOk Xg pin H' b := fun {σ' H' s'} I' hn b hb => by
    have hb' : b ∈ Xg.ex := hex ▸ hb
    refine ⟨hn b hb, (I'.ok.exf b hb').1, I'.ok.exfs b hb', .inl hb', fun x c e => (I'.ok.exf b hb').2 x c e, fun p hp z => ?_⟩
    rw [hpn, List.nil_append] at hp
    exact hpin p hp (z ▸ hb)
  have oA : A.over (.compLoop (.GeneratorExp elt [⟨.Name x px, iter, ifs, 0⟩] scope pos) 0 (.ref it) .none Xg.env) [] = Xg.A := over_comp.trans hov
  intro m
  induction m using Nat.strongRecOn with
  | _ m ih =>
  intro n i s₀ s H hmn I st nf w
  show Seg _ A _ _ _ s₀ _ ((compTurn (.GeneratorExp elt [⟨.Name x px, iter, ifs, 0⟩] scope pos) 0 (.ref it) .none Xg.env).onRaise (leaving Xg.env)) [] s
  rw [compTurn_gen, Sem.onRaise_eq_wrap]
  refine seg_bind_wrap (wpAny_standAt ?_)
  rcases tu i m H w with ⟨stop, qq⟩ | ⟨go, Nx, hNx, step⟩
  · refine seg_bind_wrap ?_
    rw [oA]
    refine thnF (T.done Xg rfl rfl rfl hc i pin s _ H (fun _ _ => False) I (stat I nf) st stop) fun r s1 ⟨hr, I1⟩ => ?_
    subst hr
    exact seg_end (.ok .next) ⟨rfl, H, I1, qq⟩
  · refine seg_bind_wrap ?_
    rw [oA]
    refine thnF (T.item Xg rfl rfl rfl hc i pin s _ H (fun _ _ => False) I (stat I nf) st go) fun r s1 ⟨u, hr, h1⟩ => ?_
    subst hr
    refine seg_bind_wrap ?_
    rw [oA]
    refine thnF h1 fun _ s2 ⟨y, H2, I2, r2, y2, st2, n2⟩ => ?_
    have I2' := I2.pinned (stat I2 n2) (T.obj _ _ st2)
    refine seg_bind_wrap ?_
    rw [oA]
    refine wpAny_mono (pg.run _ s2 _ H2 y u (fun σ' H' => σ' = σ0.set j (some y) ∧ H' = H2) I2' r2 ⟨rfl, rfl⟩) (fun _ s3 ⟨σ3, H3, I3, e3, e4⟩ => ?_) (fun e s' z => by rw [hxe] at z; exact z.elim)
    subst e3
    subst e4
    -- the turn's end
    have fin : ∀ {s' : Shared} {H' : Hp}, Inv Xg (pin ++ pinsAt fp s2.heap) (σ0.set j (some y)) H' s' → Inv Xg pin σ0 H' s' ∧ tn (i + 1) s'.heap ∧ ∀ b ∈ fp, H' b = none := fun {s' H'} I' => by
      have pin' : ∀ b ∈ fp, ∀ o, s2.heap.get? b = some o → s'.heap.get? b = some o ∧ H' b = none := fun b hb o e =>
        let z := I'.pin (b, o) (List.mem_append_right _ (List.mem_append_right _ (mem_pinsAt hb e)))
        ⟨z.1, z.2.1⟩
      refine ⟨I'.unpinned.weak (by rw [List.length_set]) (fun k v e => ?_), T.keep _ _ _ st2 fun b hb o e => (pin' b hb o e).1, fun b hb => ?_⟩
      · by_cases hk : j = k
        · subst hk
          exact absurd e (h0 v)
        · rw [List.getElem?_set_ne hk]
          exact e
      · obtain ⟨o, e, _⟩ := T.obj _ _ st2 b hb
        exact (pin' b hb o e).2
    refine seg_bind_wrap ?_
    rw [oA]
    refine wpAny_mono (pt.run _ s3 _ H3 _ I3 (step y H3 y2)) (fun b s4 ⟨H4, I4, q4⟩ => ?_) (fun e s' z => by rw [hxe] at z; exact z.elim)
    cases b with
    | false =>
      simp only [Bool.false_eq_true, if_false] at q4 ⊢
      obtain ⟨m', hm, w'⟩ := hNx _ q4
      obtain ⟨I5, st5, n5⟩ := fin I4
      exact seg_again rfl (ih m' hm n (i + 1) s₀ s4 H4 (by omega) I5 st5 n5 w')
    | true =>
      simp only [if_true] at q4 ⊢
      have hy : ∀ v, yieldOut Xg.env v = yieldValue v := fun v => by simp only [yieldOut, hco, Bool.false_eq_true, if_false]
      simp only [hy]
      rw [Sem.bind_eq_wrap', Sem.bind_eq_wrap', Sem.wrap_wrap, Sem.wrap_wrap]
      refine seg_wrap ?_
      rw [oA]
      refine wpAny_mono (pe.run _ s4 _ H4 _ I4 q4) (fun v s5 ⟨z, H5, I5, r5, c, hz, q5⟩ => ?_) (fun e s' z => by rw [hxe] at z; exact z.elim)
      subst hz
      cases r5
      obtain ⟨I6, st6, n6⟩ := fin I5
      obtain ⟨n', rfl⟩ : ∃ n', n = n' + 1 := ⟨n - 1, by omega⟩
      refine seg_at (seg_yield rfl rfl rfl ⟨c, H5, rfl, I6, ?_⟩)
      by_cases hcc : c = cont
      · rw [if_pos hcc] at q5 ⊢
        intro s6 z6
        obtain ⟨m', hm, w'⟩ := hNx _ q5
        exact seg_again rfl (ih m' hm n' (i + 1) s6 s6 H5 (by omega) (Inv.slp I6 z6) (by rw [z6.heap]; exact st6) n6 w')
      · rw [if_neg hcc] at q5 ⊢
        exact q5
end
end Vf
end
section
set_option Elab.async false
set_option linter.all false
set_option maxRecDepth 100000
set_option maxHeartbeats 4000000
namespace Vf
open PySem PySem.Spec PyProof.Rows L2 GxR GenW
section
variable {Xg : Cx} {A : Around} {elt iter : Expr} {ifs : List Expr} {x : Str} {px : Pos} {scope : Scope} {pos : Pos} {it : Addr} {fp : List Addr} {tn : Nat → Heap → Prop} {J : It} {pin : List (Addr × Obj)} {j : Nat} {tt : TT} {te : TE} {σ0 : L2.St}
  {Q : VK} {W : Nat → Nat → Hp → Prop} {cont : Bool}
theorem seg_gst (hov : A.deeper Xg.env = Xg.A) (T : Turn Xg.prog Xg.w Xg.K (.Name x px) J fp it tn) {n : Nat} {s₀ s : Shared} (st : tn 0 s.heap)
    (loop : Seg (model Xg.prog Xg.w) A (GRe Xg pin σ0 Q cont) (GPr Xg pin σ0 Q cont) n s₀ (.compLoop (.GeneratorExp elt [⟨.Name x px, iter, ifs, 0⟩] scope pos) 0 (.ref it) .none Xg.env)
        ((model Xg.prog Xg.w).den (.compLoop (.GeneratorExp elt [⟨.Name x px, iter, ifs, 0⟩] scope pos) 0 (.ref it) .none Xg.env)) [] s) :
      Seg (model Xg.prog Xg.w) A (GRe Xg pin σ0 Q cont) (GPr Xg pin σ0 Q cont) n s₀ (.compStart (.GeneratorExp elt [⟨.Name x px, iter, ifs, 0⟩] scope pos) 0 (.ref it) .none Xg.env)
        ((model Xg.prog Xg.w).den (.compStart (.GeneratorExp elt [⟨.Name x px, iter, ifs, 0⟩] scope pos) 0 (.ref it) .none Xg.env)) [] s := by
  show Seg _ A _ _ _ s₀ _ ((compStart (.GeneratorExp elt [⟨.Name x px, iter, ifs, 0⟩] scope pos) 0 (.ref it) .none Xg.env).onRaise (leaving Xg.env)) [] s
  unfold compStart
  rw [Sem.onRaise_eq_wrap]
  show Seg _ A _ _ _ s₀ _ ((ask >>= _).wrap _ _ _ _) [] s
  refine seg_bind_wrap (wpAny_askSetting ?_)
  split
  · exact seg_again rfl loop
  · first
      | exact seg_bind_wrap (wpAny_rule (seg_bind_wrap (wpAny_standAt (seg_bind_wrap (T.self _ 0 s _ _ st (seg_again rfl loop))))))
      | (refine seg_bind_wrap (wpAny_rule ?_); show Seg _ A _ _ _ s₀ _ ((standAt iter.pos >>= _).wrap _ _ _ _) [] s; exact seg_bind_wrap (wpAny_standAt (seg_bind_wrap (T.self _ 0 s _ _ st (seg_again rfl loop)))))

/-- all over such a generator -/
theorem all_loop {R : Result → Shared → Prop} {a : Addr} {g : Nat} {go : Obj} (hh : A.handled = none) (hd : A.depth < recursionLimit) (hgo : ∀ h : Heap, h.get? a = some go → h.IsGen a g)
    (hR : ∀ b H' s', Inv Xg [(a, go)] σ0 H' s' → Q (.bl b) H' → R (.ok (.ret (.bool b))) s') :
    ∀ (n : Nat) (s : Shared) (H : Hp), Inv Xg [(a, go)] σ0 H s →
      (∃ gs, s.gens[g]? = some gs ∧ gs.Goes (model Xg.prog Xg.w) A.in1.in1 (GRe Xg [(a, go)] σ0 Q true) (GPr Xg [(a, go)] σ0 Q true) n (.send .none) (s.setGen g .running)) →
      codeAny (model Xg.prog Xg.w) A (.builtin "all.loop" ⟨[.ref a], []⟩) R s := by
  intro n
  induction n with
  | zero =>
    intro s H I ⟨gs, hgs, go1⟩
    have pa : s.heap.get? a = some go := (I.pin (a, go) (List.mem_append_right _ (List.mem_singleton.mpr rfl))).1
    refine codeAny_builtin F.entry_all_loop ?_
    rw [Around.under_plainId F.plain_all_loop _]
    show wpAny _ A.in1 (pyNext (.ref a) >>= _) _ _ s
    refine wpAny_bind (wpAny_pyNext_genexpQ (A := A.in1) (P := fun n s₀ s₁ => ∃ H', Inv Xg [(a, go)] σ0 H' s₁ ∧ Q (.bl true) H') hh I.nolimit hd (hgo _ pa) hgs go1 (fun v s1 gs' hb hv => ?_) (fun s1 hp h' hk => ?_))
    · obtain ⟨c, H1, rfl, I1, q1⟩ := hv
      by_cases hc : c = true
      · rw [if_pos hc] at q1
        exact (q1 s1 ⟨rfl, I1.bare, rfl⟩).elim
      · rw [if_neg hc] at q1
        have hc' : c = false := by simpa using hc
        subst hc'
        refine wpAny_bind (wpAny_holding (wpAny_truthy_bool ?_))
        refine wpAny_bind (wpAny_letGo ?_)
        simp only [Bool.false_eq_true, if_false]
        exact wpAny_bind (wpAny_rule (wpAny_pure (hR false H1 _ (Inv.slp I1 ⟨rfl, allBare_setGen I1.bare hb, rfl⟩) q1)))
    · obtain ⟨H1, I1, q1⟩ := hp
      refine wpAny_bind (wpAny_rule (wpAny_pure (hR true H1 _ ?_ q1)))
      exact I1.call' (ch := []) rfl (Un.kept hk) (I1.hok.kept hk) (allBare_setGen I1.bare rfl) (fun b hb => absurd hb (by simp))
  | succ m ih =>
    intro s H I ⟨gs, hgs, go1⟩
    have pa : s.heap.get? a = some go := (I.pin (a, go) (List.mem_append_right _ (List.mem_singleton.mpr rfl))).1
    have hgl : g < s.gens.size := (Array.getElem?_eq_some_iff.mp hgs).1
    refine codeAny_builtin F.entry_all_loop ?_
    rw [Around.under_plainId F.plain_all_loop _]
    show wpAny _ A.in1 (pyNext (.ref a) >>= _) _ _ s
    refine wpAny_bind (wpAny_gsz (n := g + 1) hgl (wpAny_pyNext_genexpQ (A := A.in1) (P := fun n s₀ s₁ => ∃ H', Inv Xg [(a, go)] σ0 H' s₁ ∧ Q (.bl true) H') hh I.nolimit hd (hgo _ pa) hgs go1 (fun v s1 gs' hb hv => ?_) (fun s1 hp h' hk => ?_)))
    · intro hsz
      obtain ⟨c, H1, rfl, I1, q1⟩ := hv
      have I2 := Inv.slp I1 (s' := s1.setGen g gs') ⟨rfl, allBare_setGen I1.bare hb, rfl⟩
      by_cases hc : c = true
      · rw [if_pos hc] at q1
        subst hc
        refine wpAny_bind (wpAny_holding (wpAny_truthy_bool ?_))
        refine wpAny_bind (wpAny_letGo ?_)
        simp only [if_true]
        have hsz1 : g < s1.gens.size := by
          have q : (s1.setGen g gs').gens.size = s1.gens.size := setGen_size _ _ _
          have hsz' : g + 1 ≤ (s1.setGen g gs').gens.size := hsz
          omega
        refine wpAny_pure ⟨plainId_quiet F.plain_all_loop _, ih _ H1 I2 ⟨gs', setGen_at hsz1, ?_⟩⟩
        exact q1 _ ⟨rfl, allBare_setGen (s := s1.setGen g gs') (allBare_setGen I1.bare hb) rfl, rfl⟩
      · rw [if_neg hc] at q1
        have hc' : c = false := by simpa using hc
        subst hc'
        refine wpAny_bind (wpAny_holding (wpAny_truthy_bool ?_))
        refine wpAny_bind (wpAny_letGo ?_)
        simp only [Bool.false_eq_true, if_false]
        exact wpAny_bind (wpAny_rule (wpAny_pure (hR false H1 _ I2 q1)))
    · intro _
      obtain ⟨H1, I1, q1⟩ := hp
      refine wpAny_bind (wpAny_rule (wpAny_pure (hR true H1 _ ?_ q1)))
      exact I1.call' (ch := []) rfl (Un.kept hk) (I1.hok.kept hk) (allBare_setGen I1.bare rfl) (fun b hb => absurd hb (by simp))
/-- any over such a generator -/
theorem any_loop {R : Result → Shared → Prop} {a : Addr} {g : Nat} {go : Obj} (hh : A.handled = none) (hd : A.depth < recursionLimit) (hgo : ∀ h : Heap, h.get? a = some go → h.IsGen a g)
    (hR : ∀ b H' s', Inv Xg [(a, go)] σ0 H' s' → Q (.bl b) H' → R (.ok (.ret (.bool b))) s') :
    ∀ (n : Nat) (s : Shared) (H : Hp), Inv Xg [(a, go)] σ0 H s →
      (∃ gs, s.gens[g]? = some gs ∧ gs.Goes (model Xg.prog Xg.w) A.in1.in1 (GRe Xg [(a, go)] σ0 Q false) (GPr Xg [(a, go)] σ0 Q false) n (.send .none) (s.setGen g .running)) →
      codeAny (model Xg.prog Xg.w) A (.builtin "any.loop" ⟨[.ref a], []⟩) R s := by
  intro n
  induction n with
  | zero =>
    intro s H I ⟨gs, hgs, go1⟩
    have pa : s.heap.get? a = some go := (I.pin (a, go) (List.mem_append_right _ (List.mem_singleton.mpr rfl))).1
    refine codeAny_builtin F.entry_any_loop ?_
    rw [Around.under_plainId F.plain_any_loop _]
    show wpAny _ A.in1 (pyNext (.ref a) >>= _) _ _ s
    refine wpAny_bind (wpAny_pyNext_genexpQ (A := A.in1) (P := fun n s₀ s₁ => ∃ H', Inv Xg [(a, go)] σ0 H' s₁ ∧ Q (.bl false) H') hh I.nolimit hd (hgo _ pa) hgs go1 (fun v s1 gs' hb hv => ?_) (fun s1 hp h' hk => ?_))
    · obtain ⟨c, H1, rfl, I1, q1⟩ := hv
      by_cases hc : c = false
      · rw [if_pos hc] at q1
        exact (q1 s1 ⟨rfl, I1.bare, rfl⟩).elim
      · rw [if_neg hc] at q1
        have hc' : c = true := by simpa using hc
        subst hc'
        refine wpAny_bind (wpAny_holding (wpAny_truthy_bool ?_))
        refine wpAny_bind (wpAny_letGo ?_)
        simp only [if_true]
        exact wpAny_bind (wpAny_rule (wpAny_pure (hR true H1 _ (Inv.slp I1 ⟨rfl, allBare_setGen I1.bare hb, rfl⟩) q1)))
    · obtain ⟨H1, I1, q1⟩ := hp
      refine wpAny_bind (wpAny_rule (wpAny_pure (hR false H1 _ ?_ q1)))
      exact I1.call' (ch := []) rfl (Un.kept hk) (I1.hok.kept hk) (allBare_setGen I1.bare rfl) (fun b hb => absurd hb (by simp))
  | succ m ih =>
    intro s H I ⟨gs, hgs, go1⟩
    have pa : s.heap.get? a = some go := (I.pin (a, go) (List.mem_append_right _ (List.mem_singleton.mpr rfl))).1
    have hgl : g < s.gens.size := (Array.getElem?_eq_some_iff.mp hgs).1
    refine codeAny_builtin F.entry_any_loop ?_
    rw [Around.under_plainId F.plain_any_loop _]
    show wpAny _ A.in1 (pyNext (.ref a) >>= _) _ _ s
    refine wpAny_bind (wpAny_gsz (n := g + 1) hgl (wpAny_pyNext_genexpQ (A := A.in1) (P := fun n s₀ s₁ => ∃ H', Inv Xg [(a, go)] σ0 H' s₁ ∧ Q (.bl false) H') hh I.nolimit hd (hgo _ pa) hgs go1 (fun v s1 gs' hb hv => ?_) (fun s1 hp h' hk => ?_)))
    · intro hsz
      obtain ⟨c, H1, rfl, I1, q1⟩ := hv
      have I2 := Inv.slp I1 (s' := s1.setGen g gs') ⟨rfl, allBare_setGen I1.bare hb, rfl⟩
      by_cases hc : c = false
      · rw [if_pos hc] at q1
        subst hc
        refine wpAny_bind (wpAny_holding (wpAny_truthy_bool ?_))
        refine wpAny_bind (wpAny_letGo ?_)
        simp only [Bool.false_eq_true, if_false]
        have hsz1 : g < s1.gens.size := by
          have q : (s1.setGen g gs').gens.size = s1.gens.size := setGen_size _ _ _
          have hsz' : g + 1 ≤ (s1.setGen g gs').gens.size := hsz
          omega
        refine wpAny_pure ⟨plainId_quiet F.plain_any_loop _, ih _ H1 I2 ⟨gs', setGen_at hsz1, ?_⟩⟩
        exact q1 _ ⟨rfl, allBare_setGen (s := s1.setGen g gs') (allBare_setGen I1.bare hb) rfl, rfl⟩
      · rw [if_neg hc] at q1
        have hc' : c = true := by simpa using hc
        subst hc'
        refine wpAny_bind (wpAny_holding (wpAny_truthy_bool ?_))
        refine wpAny_bind (wpAny_letGo ?_)
        simp only [if_true]
        exact wpAny_bind (wpAny_rule (wpAny_pure (hR true H1 _ I2 q1)))
    · intro _
      obtain ⟨H1, I1, q1⟩ := hp
      refine wpAny_bind (wpAny_rule (wpAny_pure (hR false H1 _ ?_ q1)))
      exact I1.call' (ch := []) rfl (Un.kept hk) (I1.hok.kept hk) (allBare_setGen I1.bare rfl) (fun b hb => absurd hb (by simp))
end
end Vf
end
section
set_option Elab.async false
set_option linter.all false
set_option maxRecDepth 100000
set_option maxHeartbeats 4000000
namespace Vf
open PySem PySem.Spec PyProof.Rows L2 GxR GenW
/-- H' is H but for the table at P, which has grown -/
def Tabb (P : Addr) (H H' : Hp) : Prop := ∃ ps more : Array Value, H P = some (.tbl ps) ∧ TriplesOk ps.toList ∧ TriplesOk (ps ++ more).toList ∧ H' = upd H P (.tbl (ps ++ more))
section
variable {X : Cx} {pins : List (Addr × Obj)} {σ : L2.St} {H : Hp} {s : Shared}
/-- a generator that has been made -/
structure GM (X : Cx) (pins : List (Addr × Obj)) (σ : L2.St) (own : List Nat) (elt iter : Expr) (ifs : List Expr) (x : Str) (px gpos : Pos) (scope : Scope) (J : It) (H4 : Hp) (a : Addr) (s5 : Shared) (s4 : Shared) (genv : Env) (fp : List Addr) (tn : Nat → Heap → Prop) (it : Addr) (go : Obj) (g : Nat) : Prop where
  outer : Inv X pins σ H4 s4
  inner : ∀ A : Around, A.handled = none → A.frames = some (genv :: X.stack) → Inv (gcx X A s4 H4 genv fp) [(a, go)] (wipe σ own) H4 s5
  turn : Turn X.prog X.w X.K (.Name x px) J fp it tn
  at0 : tn 0 s5.heap
  fpo : ∀ b ∈ fp, FpOk X pins H4 b
  gen : ∀ h : Heap, h.get? a = some go → h.IsGen a g
  fresh : s5.gens[g]? = some (.fresh (.compStart (.GeneratorExp elt [⟨.Name x px, iter, ifs, 0⟩] scope gpos) 0 (.ref it) .none genv))
  env : ∃ C code, genv = genEnv scope (cloFrom X.env.cells scope.names []) C code builtinsNs X.env
  nfp : a ∉ fp
theorem gen_mk {c P : Addr} {elt iter : Expr} {ifs : List Expr} {x : Str} {px gpos : Pos} {scope : Scope} {own : List Nat} {wi : TI} {k : Nat} {R : It → Hp → Prop}
    (hr : Room k X.A) (TB : TabB X.base X.mg c P) (hcode : X.env.code = .ref c) (ok : GOk X.N X.env.scope scope x own) (hi : PI X (.Name x px) iter wi)
    (hs : ∀ v, genFold iter X.env v = pure v) (I : Inv X pins σ H s) (h : wi σ H fun J H1 => TabG H1 P ∧ ∀ H2, Tabb P H1 H2 → R J H2) :
    wpAny (model X.prog X.w) X.A (eval (.GeneratorExp elt [⟨.Name x px, iter, ifs, 0⟩] scope gpos) X.env)
      (fun gv s5 => ∃ J H4 a s4 genv fp tn it go g, gv = .ref a ∧ R J H4 ∧ GM X pins σ own elt iter ifs x px gpos scope J H4 a s5 s4 genv fp tn it go g) X.xe s := by
  have hfree : ∀ y ∈ scope.names, y.2 = .free → ∃ c, X.env.cells.lookup y.1 = some c := fun y hy e => by
    rcases ok.free y hy e with k | k
    · exact I.ok.has _ (.inl k)
    · exact I.ok.has _ (.inr k)
  refine wpAny_GeneratorExp_make ok.co (closure_ok hfree) ok.cell ok.dot ok.kind (by have := hr.dp; omega) ?_ hs
  refine thn (hi.run pins s σ H _ I h) fun xv s1 hx => thn hx fun itv s2 h2 => ?_
  obtain ⟨it, fp, tn, J, H2, e, I2, T, st2, f2, ⟨ps, hP, ht⟩, hR⟩ := h2
  subst e
  refine ⟨I2.nolimit, ?_⟩
  have oP : s2.heap.get? P = some { cls := .none, data := .fields ps } := I2.hok P _ hP
  have nPfp : ∀ b ∈ fp, b ≠ P := fun b hb z => by
    have q := (f2 b hb).1
    rw [z, hP] at q
    cases q
  have cd : PySem.W.CodeHd s2.heap c P := TB.code.keeps I2.bk
  have fin : ∀ (code : Value) (h3 : Heap) (tk : Nat) (ps' : Array Value), Heap.ExtBut P s2.heap h3 → h3.get? P = some { cls := .none, data := .fields ps' } → (∃ more, ps' = ps ++ more) → TriplesOk ps'.toList →
      wpAny (model X.prog X.w) X.A (builtinsFor X.env.globals X.env.builtins) (fun bi s4 => ∀ h' : Heap, h'.Ns s4.heap.objs.size (fun y => if y = (".0" : Str) then some (.ref it) else none) →
        Heap.SameBut s4.heap.objs.size (s4.heap.push { cls := .type "frame", data := .dict #[] }) h' →
        ∃ J H4 a s4' genv fp tn it' go g, (Value.ref h'.objs.size) = .ref a ∧ R J H4 ∧ GM X pins σ own elt iter ifs x px gpos scope J H4 a { s4 with
            gens := s4.gens.push (.fresh (.compStart (.GeneratorExp elt [⟨.Name x px, iter, ifs, 0⟩] scope gpos) 0 (.ref it) .none (genEnv scope (cloFrom X.env.cells scope.names []) s4.heap.objs.size code bi X.env))), toks := s4.toks + 1 + 1 + 1,
            heap := h'.push { cls := .type "generator", data := .fields #[.int s4.gens.size 0, .str "<genexpr>" (s4.toks + 1), .str (X.env.qual ++ "<genexpr>") (s4.toks + 1 + 1)] } } s4' genv fp tn it' go g) X.xe { s2 with heap := h3, toks := tk } := by
    intro code h3 tk ps' hx hP3 ⟨more, em⟩ ht3
    obtain ⟨bm, ob, e1, e2, e3, e4, e5, e6, e7, e8⟩ := TB.bm
    have kp3 : ∀ b u, b ≠ P → s2.heap.get? b = some u → h3.get? b = some u := fun b u hb q => hx b u hb q
    refine wpAny_builtinsFor (m := X.mg) (by rw [I2.ok.glob]; exact (I2.mod.glob.keeps I2.bk).extBut hx TB.gP) e1 e2 (kp3 _ _ e4 (I2.bk _ _ e5)) e6 e7 e8 ?_
    have I3 : Inv X pins σ (upd H2 P (.tbl ps')) { s2 with heap := h3, toks := tk } := by
      subst em
      exact inv_tab (g' := s2.gens) (d' := s2.drawn) I2 hP kp3 hP3 I2.bare
    generalize hs3 : ({ s2 with heap := h3, toks := tk } : Shared) = s3 at I3
    have eh3 : s3.heap = h3 := by rw [← hs3]
    have st3 : tn 0 s3.heap := by
      rw [eh3]
      exact T.keep _ _ _ st2 fun b hb o e => kp3 b o (nPfp b hb) e
    have f3 : ∀ b ∈ fp, FpOk X pins (upd H2 P (.tbl ps')) b := fun b hb => ⟨by rw [upd_ne (nPfp b hb)]; exact (f2 b hb).1, (f2 b hb).2⟩
    have sz3 : ∀ b ∈ fp, b < s3.heap.objs.size := fun b hb => by
      obtain ⟨o, e, _⟩ := T.obj _ _ st3 b hb
      exact Heap.lt_size e
    intro h' hn' hs'
    have hsz : h'.objs.size = s3.heap.objs.size + 1 := by rw [hs'.1, Heap.size_push]
    have k' : ∀ b o, s3.heap.get? b = some o → h'.get? b = some o := fun b o e => hs'.extBut b o (Nat.ne_of_lt (Heap.lt_size e)) (Heap.get?_push_of_some _ e)
    have gp : ∀ h : Heap, (h.push ({ cls := .type "generator", data := .fields #[.int s3.gens.size 0, .str "<genexpr>" (s3.toks + 1), .str (X.env.qual ++ "<genexpr>") (s3.toks + 1 + 1)] } : Obj)).get? h.objs.size = some ({ cls := .type "generator", data := .fields #[.int s3.gens.size 0, .str "<genexpr>" (s3.toks + 1), .str (X.env.qual ++ "<genexpr>") (s3.toks + 1 + 1)] } : Obj) := fun h => Heap.get?_push_size _ rfl
    have gfd : ∃ nm qn, ({ cls := .type "generator", data := .fields #[.int s3.gens.size 0, .str "<genexpr>" (s3.toks + 1), .str (X.env.qual ++ "<genexpr>") (s3.toks + 1 + 1)] } : Obj).cls = .type "generator" ∧ ({ cls := .type "generator", data := .fields #[.int s3.gens.size 0, .str "<genexpr>" (s3.toks + 1), .str (X.env.qual ++ "<genexpr>") (s3.toks + 1 + 1)] } : Obj).data = .fields #[.int s3.gens.size 0, nm, qn] ∧ ({ cls := .type "generator", data := .fields #[.int s3.gens.size 0, .str "<genexpr>" (s3.toks + 1), .str (X.env.qual ++ "<genexpr>") (s3.toks + 1 + 1)] } : Obj).slots = #[] := ⟨_, _, rfl, rfl, rfl⟩
    generalize ({ cls := .type "generator", data := .fields #[.int s3.gens.size 0, .str "<genexpr>" (s3.toks + 1), .str (X.env.qual ++ "<genexpr>") (s3.toks + 1 + 1)] } : Obj) = go at gp gfd ⊢
    obtain ⟨nm, qn, g1, g2, g3⟩ := gfd
    have ga : (h'.push go).get? h'.objs.size = some go := gp h'
    have k5 : ∀ b o, s3.heap.get? b = some o → (h'.push go).get? b = some o := fun b o e => Heap.get?_push_of_some _ (k' b o e)
    have bare5 : AllBare (s3.gens.push (.fresh (.compStart (.GeneratorExp elt [⟨.Name x px, iter, ifs, 0⟩] scope gpos) 0 (.ref it) .none (genEnv scope (cloFrom X.env.cells scope.names []) s3.heap.objs.size code builtinsNs X.env)))) := I3.bare.push rfl
    refine ⟨J, upd H2 P (.tbl ps'), h'.objs.size, s3, genEnv scope (cloFrom X.env.cells scope.names []) s3.heap.objs.size code builtinsNs X.env, fp, tn, it, go, s3.gens.size, rfl, hR _ (by subst em; exact ⟨ps, more, hP, ht, ht3, rfl⟩), I3, ?_, T, ?_, f3, ?_, ?_, ⟨s3.heap.objs.size, code, rfl⟩, ?_⟩
    · intro A hA hAf
      exact gen_start (h' := h') hA hAf I3 ok (fun b hb => ⟨f3 b hb, sz3 b hb⟩) k5 (hn'.push _) bare5 (by rw [hsz]; exact Nat.lt_succ_self _) ga (fun v q => by rw [g2] at q; cases q)
    · exact T.keep _ _ _ st3 fun b _ o e => k5 b o e
    · intro h e
      exact ⟨go, nm, qn, e, g1, g2, g3⟩
    · exact Array.getElem?_push_size ..
    · intro z
      have q : h'.objs.size < s3.heap.objs.size := sz3 h'.objs.size z
      rw [hsz] at q
      exact absurd q (Nat.not_lt.mpr (Nat.le_succ _))
  cases hf : codeAmong gpos ps.toList with
  | none =>
    refine wpAny_genexprCodeX hcode (cd.code oP ht) (cd.tab oP) hf fun c' h' tk hx hge hlt hco' _ htab' _ => ?_
    obtain ⟨o1, vs, f1, tf, fl, tg, inF, tx, tt, op, _, _, _, _, _, _, _, _, _, htr, _⟩ := hco'
    exact fin _ h' tk _ hx htab'.2 ⟨_, rfl⟩ htr
  | some cv =>
    refine wpAny_genexprCode_hit hcode (cd.code oP ht) hf ?_
    exact fin cv s2.heap s2.toks ps (Heap.ExtBut.refl _ _) oP ⟨#[], by simp⟩ ht

/-- any (cont false), all (cont true) of (elt for x in iter if ..) -/
def tGen (cont : Bool) (P : Addr) (wi : TI) (j : Nat) (own : List Nat) (tt : TT) (te : TE) : TE := fun σ H Q =>
  wi σ H fun J H1 => TabG H1 P ∧ ∀ H2, Tabb P H1 H2 → ∃ W : Nat → Nat → Hp → Prop, (∃ m, W 0 m H2) ∧ Turns cont j (wipe σ own) tt te J Q W
theorem wipe_own {σ : L2.St} {own : List Nat} {j : Nat} (hj : j ∈ own) : ∀ v, (wipe σ own)[j]? ≠ some (some v) := fun v e => (wipe_some e).2 hj
section
variable {c P : Addr} {elt iter : Expr} {ifs : List Expr} {x : Str} {px p pos gpos : Pos} {scope : Scope} {own : List Nat} {wi : TI} {tt : TT} {te : TE} {k j : Nat}
theorem gen_room {A : Around} {genv : Env} (hr : Room (k + 1) A) : Room k (A.in1.in1.deeper genv) :=
  ⟨hr.hd, by have := hr.dp; show A.depth + 1 + 3 * k + 5 < _; omega, by have := hr.un; show A.units + 1 + 1 + 3 + 16 * k + 200 < _; omega⟩
theorem pe_allL (hr : Room (k + 1) X.A) (hg : Gl X "all") (hm : X.mg "all" = none) (hb : bootBuiltins "all" = some (.builtin "all")) (TB : TabB X.base X.mg c P) (hcode : X.env.code = .ref c) (ok : GOk X.N X.env.scope scope x own) (hN : X.N.Nodup) (hj : X.N[j]? = some x) (hjo : j ∈ own) (hi : PI X (.Name x px) iter wi)
    (ht : ∀ (A : Around) (s : Shared) (H : Hp) (C : Addr) (code : Value) (fp : List Addr), Room k A → PTs (gcx X A s H (genEnv scope (cloFrom X.env.cells scope.names []) C code builtinsNs X.env) fp) ifs tt)
    (hel : ∀ (A : Around) (s : Shared) (H : Hp) (C : Addr) (code : Value) (fp : List Addr), Room k A → PE (gcx X A s H (genEnv scope (cloFrom X.env.cells scope.names []) C code builtinsNs X.env) fp) elt te)
    (hs : ∀ v, genFold iter X.env v = pure v := by intro _; rfl)
    (he : starEach [.GeneratorExp elt [⟨.Name x px, iter, ifs, 0⟩] scope gpos] X.env = (false, eval (.GeneratorExp elt [⟨.Name x px, iter, ifs, 0⟩] scope gpos) X.env) :: starEach [] X.env := by rfl) :
    PE X (.Call (.Name "all" p) [.GeneratorExp elt [⟨.Name x px, iter, ifs, 0⟩] scope gpos] [] pos) (tGen true P wi j own tt te) := by
  refine ⟨fun pins s σ H Q I h => ?_⟩
  refine wpAny_Call_Name_kw (ld_blt I hg hm hb ?_)
  refine PyProof.Rows.callWith_builtin1 ?_ he (by rfl)
  rw [he]
  show wpAny _ _ (spliced ((false, eval (.GeneratorExp elt [⟨.Name x px, iter, ifs, 0⟩] scope gpos) X.env) :: backTo pos (starEach [] X.env))) _ _ s
  refine Calls.spliced_cons (thn (gen_mk (R := fun J H2 => ∃ W : Nat → Nat → Hp → Prop, (∃ m, W 0 m H2) ∧ Turns true j (wipe σ own) tt te J Q W) hr TB hcode ok hi hs I h) fun gv s5 ⟨J, H4, a, s4, genv, fp, tn, it, go, g, e, ⟨W, ⟨m, w0⟩, tu⟩, G⟩ => ?_)
  subst e
  refine Calls.spliced_nil ?_
  obtain ⟨C, code, eg⟩ := G.env
  have hAh : (X.A.in1.in1.deeper genv).handled = none := hr.hd
  have hAf : (X.A.in1.in1.deeper genv).frames = some (genv :: X.stack) := Around.frames_deeper (A := X.A.in1.in1) I.ok.frames
  have Ig := G.inner _ hAh hAf
  have room : Room k (X.A.in1.in1.deeper genv) := gen_room hr
  have pgx : PG (gcx X (X.A.in1.in1.deeper genv) s4 H4 genv fp) (.Name x px) (gName j) := pg_name (X := gcx X (X.A.in1.in1.deeper genv) s4 H4 genv fp) hN hj (.inl (by subst eg; exact ok.loc)) (.inr (by subst eg; exact ok.loc))
  have pa : s5.heap.get? a = some go := (Ig.pin (a, go) (List.mem_append_right _ (List.mem_singleton.mpr rfl))).1
  refine call_function_tree F.kind_all F.plain_all F.entry_all (F.args_all1 _) ?_
  unfold Builtin.«all»
  refine wpAny_bind (m := oneArg "all" _) (wpAny_pure ?_)
  refine wpAny_bind (wpAny_pyIter_gen (G.gen _ pa) ?_)
  refine wpAny_pure ⟨plainId_quiet F.plain_all_loop _, ?_⟩
  refine all_loop (Xg := gcx X (X.A.in1.in1.deeper genv) s4 H4 genv fp) (A := X.A) (σ0 := wipe σ own) (Q := Q) hr.hd (by have := hr.dp; omega) G.gen (fun b H' s' Ig' q => ?_) (m + 1) s5 H4 Ig ⟨_, G.fresh, rfl, ?_⟩
  · exact ⟨.bl b, H', G.outer.call' (ch := fp) Ig'.os Ig'.base Ig'.hok Ig'.bare fun b hb => ⟨(G.fpo b hb).2.2.2.1, (G.fpo b hb).2.1, (G.fpo b hb).2.2.2.2.1, (G.fpo b hb).2.2.2.2.2⟩, rfl, q⟩
  · have Ig2 := Inv.slp Ig (s' := s5.setGen g .running) ⟨rfl, allBare_setGen Ig.bare rfl, rfl⟩
    refine seg_gst (Xg := gcx X (X.A.in1.in1.deeper genv) s4 H4 genv fp) (A := X.A.in1.in1) rfl G.turn G.at0 ?_
    refine seg_gl (Xg := gcx X (X.A.in1.in1.deeper genv) s4 H4 genv fp) (A := X.A.in1.in1) rfl rfl G.turn rfl rfl (fun p hp => by rw [List.mem_singleton.mp hp]; exact G.nfp) pgx (by subst eg; exact ht _ s4 H4 C code fp room) (by subst eg; exact hel _ s4 H4 C code fp room) (wipe_own hjo) (by subst eg; exact ok.co) rfl tu m (m + 1) 0 _ _ H4 (Nat.lt_succ_self _) Ig2 G.at0 (fun b hb => (G.fpo b hb).1) w0
theorem pe_anyL (hr : Room (k + 1) X.A) (hg : Gl X "any") (hm : X.mg "any" = none) (TB : TabB X.base X.mg c P) (hcode : X.env.code = .ref c) (ok : GOk X.N X.env.scope scope x own) (hN : X.N.Nodup) (hj : X.N[j]? = some x) (hjo : j ∈ own) (hi : PI X (.Name x px) iter wi)
    (ht : ∀ (A : Around) (s : Shared) (H : Hp) (C : Addr) (code : Value) (fp : List Addr), Room k A → PTs (gcx X A s H (genEnv scope (cloFrom X.env.cells scope.names []) C code builtinsNs X.env) fp) ifs tt)
    (hel : ∀ (A : Around) (s : Shared) (H : Hp) (C : Addr) (code : Value) (fp : List Addr), Room k A → PE (gcx X A s H (genEnv scope (cloFrom X.env.cells scope.names []) C code builtinsNs X.env) fp) elt te)
    (hs : ∀ v, genFold iter X.env v = pure v := by intro _; rfl)
    (he : starEach [.GeneratorExp elt [⟨.Name x px, iter, ifs, 0⟩] scope gpos] X.env = (false, eval (.GeneratorExp elt [⟨.Name x px, iter, ifs, 0⟩] scope gpos) X.env) :: starEach [] X.env := by rfl) :
    PE X (.Call (.Name "any" p) [.GeneratorExp elt [⟨.Name x px, iter, ifs, 0⟩] scope gpos] [] pos) (tGen false P wi j own tt te) := by
  refine ⟨fun pins s σ H Q I h => ?_⟩
  refine wpAny_Call_Name_kw (ld_blt I hg hm boot_any ?_)
  refine PyProof.Rows.callWith_builtin1 ?_ he (by rfl)
  rw [he]
  show wpAny _ _ (spliced ((false, eval (.GeneratorExp elt [⟨.Name x px, iter, ifs, 0⟩] scope gpos) X.env) :: backTo pos (starEach [] X.env))) _ _ s
  refine Calls.spliced_cons (thn (gen_mk (R := fun J H2 => ∃ W : Nat → Nat → Hp → Prop, (∃ m, W 0 m H2) ∧ Turns false j (wipe σ own) tt te J Q W) hr TB hcode ok hi hs I h) fun gv s5 ⟨J, H4, a, s4, genv, fp, tn, it, go, g, e, ⟨W, ⟨m, w0⟩, tu⟩, G⟩ => ?_)
  subst e
  refine Calls.spliced_nil ?_
  obtain ⟨C, code, eg⟩ := G.env
  have hAh : (X.A.in1.in1.deeper genv).handled = none := hr.hd
  have hAf : (X.A.in1.in1.deeper genv).frames = some (genv :: X.stack) := Around.frames_deeper (A := X.A.in1.in1) I.ok.frames
  have Ig := G.inner _ hAh hAf
  have room : Room k (X.A.in1.in1.deeper genv) := gen_room hr
  have pgx : PG (gcx X (X.A.in1.in1.deeper genv) s4 H4 genv fp) (.Name x px) (gName j) := pg_name (X := gcx X (X.A.in1.in1.deeper genv) s4 H4 genv fp) hN hj (.inl (by subst eg; exact ok.loc)) (.inr (by subst eg; exact ok.loc))
  have pa : s5.heap.get? a = some go := (Ig.pin (a, go) (List.mem_append_right _ (List.mem_singleton.mpr rfl))).1
  refine call_function_tree F.kind_any F.plain_any F.entry_any (F.args_any1 _) ?_
  unfold Builtin.«any»
  refine wpAny_bind (m := oneArg "any" _) (wpAny_pure ?_)
  refine wpAny_bind (wpAny_pyIter_gen (G.gen _ pa) ?_)
  refine wpAny_pure ⟨plainId_quiet F.plain_any_loop _, ?_⟩
  refine any_loop (Xg := gcx X (X.A.in1.in1.deeper genv) s4 H4 genv fp) (A := X.A) (σ0 := wipe σ own) (Q := Q) hr.hd (by have := hr.dp; omega) G.gen (fun b H' s' Ig' q => ?_) (m + 1) s5 H4 Ig ⟨_, G.fresh, rfl, ?_⟩
  · exact ⟨.bl b, H', G.outer.call' (ch := fp) Ig'.os Ig'.base Ig'.hok Ig'.bare fun b hb => ⟨(G.fpo b hb).2.2.2.1, (G.fpo b hb).2.1, (G.fpo b hb).2.2.2.2.1, (G.fpo b hb).2.2.2.2.2⟩, rfl, q⟩
  · have Ig2 := Inv.slp Ig (s' := s5.setGen g .running) ⟨rfl, allBare_setGen Ig.bare rfl, rfl⟩
    refine seg_gst (Xg := gcx X (X.A.in1.in1.deeper genv) s4 H4 genv fp) (A := X.A.in1.in1) rfl G.turn G.at0 ?_
    refine seg_gl (Xg := gcx X (X.A.in1.in1.deeper genv) s4 H4 genv fp) (A := X.A.in1.in1) rfl rfl G.turn rfl rfl (fun p hp => by rw [List.mem_singleton.mp hp]; exact G.nfp) pgx (by subst eg; exact ht _ s4 H4 C code fp room) (by subst eg; exact hel _ s4 H4 C code fp room) (wipe_own hjo) (by subst eg; exact ok.co) rfl tu m (m + 1) 0 _ _ H4 (Nat.lt_succ_self _) Ig2 G.at0 (fun b hb => (G.fpo b hb).1) w0
end
end
end Vf
end
section
set_option Elab.async false
set_option linter.all false
set_option maxRecDepth 100000
set_option maxHeartbeats 4000000
/-! Operators that take what kind they meet; defs by their names; heaps that have only grown. -/
namespace Vf
open PySem PySem.Spec PyProof.Rows L2 GxR GenW

/-! ### one rule an operator -/
section
variable {X : Cx}
structure rAdd (K : PySem.W.Frag) (x y : V) (H : Hp) (Q : VK) : Prop where
  h : (∃ i j, x = .int i ∧ y = .int j ∧ Q (.int (i + j)) H) ∨ (∃ i j, x = .str i ∧ y = .str j ∧ i.length + j.length ≤ sizeLine ∧ Q (.str (i ++ j)) H) ∨ rCat x y H Q ∨ rCatA K x y H Q
theorem u_add {K : PySem.W.Frag} (hK : X.K = K) : OpR X (binaryOp .Add) (rAdd K) := by
  subst hK
  exact fun pins s σ H x y v u Q I rx ry h => (OpR.or op_add (OpR.or op_add_str (OpR.or op_cat op_catA))) pins s σ H x y v u Q I rx ry h.h
structure rMd (x y : V) (H : Hp) (Q : VK) : Prop where
  h : ∃ i j, x = .int i ∧ y = .int j ∧ j ≠ 0 ∧ Q (.int (i.fmod j)) H
theorem u_mod : OpR X (binaryOp .Mod) rMd := fun pins s σ H x y v u Q I rx ry h => op_modN pins s σ H x y v u Q I rx ry h.h
structure rPw (x y : V) (H : Hp) (Q : VK) : Prop where
  h : ∃ i j, x = .int i ∧ y = .int j ∧ CPow i j ∧ Q (.int (i ^ j.toNat)) H
theorem u_pow : OpR X (binaryOp .Pow) rPw := fun pins s σ H x y v u Q I rx ry h => op_pow pins s σ H x y v u Q I rx ry h.h
structure rGe (x y : V) (H : Hp) (Q : VK) : Prop where
  h : ∃ i j, x = .int i ∧ y = .int j ∧ Q (.bl (decide (j ≤ i))) H
theorem u_ge : OpR X (compareOp .GtE) rGe := fun pins s σ H x y v u Q I rx ry h => op_ge pins s σ H x y v u Q I rx ry h.h
structure rGt (x y : V) (H : Hp) (Q : VK) : Prop where
  h : ∃ i j, x = .int i ∧ y = .int j ∧ Q (.bl (decide (j < i))) H
theorem u_gt : OpR X (compareOp .Gt) rGt := fun pins s σ H x y v u Q I rx ry h => op_gt pins s σ H x y v u Q I rx ry h.h
structure rSb (x y : V) (H : Hp) (Q : VK) : Prop where
  h : ∃ i j, x = .int i ∧ y = .int j ∧ Q (.int (i - j)) H
theorem u_sub : OpR X (binaryOp .Sub) rSb := fun pins s σ H x y v u Q I rx ry h => op_sub pins s σ H x y v u Q I rx ry h.h
structure rFd (x y : V) (H : Hp) (Q : VK) : Prop where
  h : (∃ i j, x = .int i ∧ y = .int j ∧ CDivN i j ∧ Q (.int (i.fdiv j)) H) ∨ (∃ i j, x = .int i ∧ y = .int j ∧ CDivW i j ∧ Q (.int (i / j)) H)
theorem u_fdiv : OpR X (binaryOp .FloorDiv) rFd := fun pins s σ H x y v u Q I rx ry h => (OpR.or op_fdivN op_fdivW) pins s σ H x y v u Q I rx ry h.h
structure rMu (K : PySem.W.Frag) (x y : V) (H : Hp) (Q : VK) : Prop where
  h : (∃ i j, x = .int i ∧ y = .int j ∧ CMul i j ∧ Q (.int (i * j)) H) ∨ (∃ i j, x = .int i ∧ y = .int j ∧ CMulW i j ∧ Q (.int (i * j)) H) ∨ rRep x y H Q ∨ rRepT K x y H Q
theorem u_mul {K : PySem.W.Frag} (hK : X.K = K) : OpR X (binaryOp .Mult) (rMu K) := by
  subst hK
  exact fun pins s σ H x y v u Q I rx ry h => (OpR.or op_mul (OpR.or op_mulW (OpR.or op_rep op_repT))) pins s σ H x y v u Q I rx ry h.h
structure rEqU (K : PySem.W.Frag) (x y : V) (H : Hp) (Q : VK) : Prop where
  h : rEq x y H Q ∨ rEqD K x y H Q
theorem u_eq {K : PySem.W.Frag} (hK : X.K = K) (hu : X.A.units + 64 < cLine) : OpR X (compareOp .Eq) (rEqU K) := by
  subst hK
  exact fun pins s σ H x y v u Q I rx ry h => (OpR.or op_eq (op_eqD hu)) pins s σ H x y v u Q I rx ry h.h
structure rNeU (K : PySem.W.Frag) (x y : V) (H : Hp) (Q : VK) : Prop where
  h : rNe x y H Q ∨ rNeD K x y H Q
theorem u_ne {K : PySem.W.Frag} (hK : X.K = K) (hu : X.A.units + 64 < cLine) : OpR X (compareOp .NotEq) (rNeU K) := by
  subst hK
  exact fun pins s σ H x y v u Q I rx ry h => (OpR.or op_ne (op_neD hu)) pins s σ H x y v u Q I rx ry h.h
structure rLtU (x y : V) (H : Hp) (Q : VK) : Prop where
  h : (∃ i j, x = .int i ∧ y = .int j ∧ Q (.bl (decide (i < j))) H) ∨ (∃ i j, x = .str i ∧ y = .str j ∧ Q (.bl (decide (i.cps.toList < j.cps.toList))) H)
theorem u_lt : OpR X (compareOp .Lt) rLtU := fun pins s σ H x y v u Q I rx ry h => (OpR.or op_lt op_lt_str) pins s σ H x y v u Q I rx ry h.h
structure rLeU (x y : V) (H : Hp) (Q : VK) : Prop where
  h : (∃ i j, x = .int i ∧ y = .int j ∧ Q (.bl (decide (i ≤ j))) H) ∨ (∃ i j, x = .str i ∧ y = .str j ∧ Q (.bl (!decide (j.cps.toList < i.cps.toList))) H)
theorem u_le : OpR X (compareOp .LtE) rLeU := fun pins s σ H x y v u Q I rx ry h => (OpR.or op_le op_le_str) pins s σ H x y v u Q I rx ry h.h
structure rInU (K : PySem.W.Frag) (x y : V) (H : Hp) (Q : VK) : Prop where
  h : (∃ i j, x = .str i ∧ y = .str j ∧ Q (.bl (!(Builtin.Str.occurrences j i 0 j.length 1).isEmpty)) H) ∨ (∃ (c : Nat) (z : Str), x = .str ⟨#[c]⟩ ∧ y = .str z ∧ Q (.bl (decide (c ∈ z.cps.toList))) H) ∨ rIn K false x y H Q
theorem u_in {K : PySem.W.Frag} (hK : X.K = K) : OpR X (compareOp .In) (rInU K) := by
  subst hK
  exact fun pins s σ H x y v u Q I rx ry h => (OpR.or op_in_str (OpR.or op_in_sign op_in_seq)) pins s σ H x y v u Q I rx ry h.h
structure rNiU (K : PySem.W.Frag) (x y : V) (H : Hp) (Q : VK) : Prop where
  h : (∃ i j, x = .str i ∧ y = .str j ∧ Q (.bl (!(!(Builtin.Str.occurrences j i 0 j.length 1).isEmpty))) H) ∨ (∃ (c : Nat) (z : Str), x = .str ⟨#[c]⟩ ∧ y = .str z ∧ Q (.bl (!decide (c ∈ z.cps.toList))) H) ∨ rIn K true x y H Q
theorem u_ni {K : PySem.W.Frag} (hK : X.K = K) : OpR X (compareOp .NotIn) (rNiU K) := by
  subst hK
  exact fun pins s σ H x y v u Q I rx ry h => (OpR.or op_notin_str (OpR.or op_notIn_sign op_notIn_seq)) pins s σ H x y v u Q I rx ry h.h
structure rSlU (K : PySem.W.Frag) (x : V) (lo hi : Option Int) (H : Hp) (Q : VK) : Prop where
  h : rSlL K x lo hi H Q ∨ rSlA K x lo hi H Q ∨ rSlS x lo hi H Q
theorem u_sl {K : PySem.W.Frag} (hK : X.K = K) : SlR X (rSlU K) := by
  subst hK
  exact fun pins s σ H x v vl vu lo hi sl Q I rx hs pl pu h => (SlR.or sl_list (SlR.or sl_tupA sl_str)) pins s σ H x v vl vu lo hi sl Q I rx hs pl pu h.h
structure rIxU (K : PySem.W.Frag) (x y : V) (H : Hp) (Q : VK) : Prop where
  h : rIx K x y H Q
theorem u_ix {K : PySem.W.Frag} (hK : X.K = K) : IxR X (rIxU K) := by
  subst hK
  exact fun a b pins s σ H x y v u Q I rx ry h hs => ix_seq a b pins s σ H x y v u Q I rx ry h.h hs
end

/-! ### their answers -/
section
variable {K : PySem.W.Frag} {H : Hp} {Q : VK}
theorem a_ii {i j : Int} (q : Q (.int (i + j)) H) : rAdd K (.int i) (.int j) H Q := ⟨.inl ⟨_, _, rfl, rfl, q⟩⟩
theorem a_ss {i j : Str} (h : i.length + j.length ≤ sizeLine) (q : Q (.str (i ++ j)) H) : rAdd K (.str i) (.str j) H Q := ⟨.inr (.inl ⟨_, _, rfl, rfl, h, q⟩)⟩
theorem a_ll {l b : Addr} {xs zs : List V} (h1 : H l = some (.lst xs)) (h2 : H b = some (.lst zs)) (h : xs.length + zs.length ≤ sizeLine) (q : ∀ p, H p = none → Q (.ref p) (upd H p (.lst (xs ++ zs)))) : rAdd K (.ref l) (.ref b) H Q := ⟨.inr (.inr (.inl ⟨_, _, _, _, rfl, rfl, h1, h2, h, q⟩))⟩
theorem a_tt {a b : Addr} {xs ys : List V} (h1 : SqT K H a xs) (h2 : SqT K H b ys) (h : xs.length + ys.length ≤ sizeLine) (q1 : xs = [] → Q (.ref b) H) (q2 : xs ≠ [] → ys = [] → Q (.ref a) H) (q3 : xs ≠ [] → ys ≠ [] → ∀ p, H p = none → Q (.ref p) (upd H p (.tup (xs ++ ys)))) : rAdd K (.ref a) (.ref b) H Q := ⟨.inr (.inr (.inr ⟨_, _, _, _, rfl, rfl, h1, h2, h, q1, q2, q3⟩))⟩
theorem m_ii {i j : Int} (h : CMul i j) (q : Q (.int (i * j)) H) : rMu K (.int i) (.int j) H Q := ⟨.inl ⟨_, _, rfl, rfl, h, q⟩⟩
theorem m_tt {l : Addr} {k : Int} {xs : List V} (h1 : SqT K H l xs) (h2 : xs ≠ []) (h3 : 2 ≤ k) (h4 : k ≤ 1000) (h5 : xs.length ≤ 1000) (q : ∀ p, H p = none → Q (.ref p) (upd H p (.tup (List.replicate k.toNat xs).flatten))) : rMu K (.ref l) (.int k) H Q := ⟨.inr (.inr (.inr ⟨_, _, _, rfl, rfl, h1, h2, h3, h4, h5, q⟩))⟩
theorem md_ii {i j : Int} (h : j ≠ 0) (q : Q (.int (i.fmod j)) H) : rMd (.int i) (.int j) H Q := ⟨_, _, rfl, rfl, h, q⟩
theorem pw_ii {i j : Int} (h : CPow i j) (q : Q (.int (i ^ j.toNat)) H) : rPw (.int i) (.int j) H Q := ⟨_, _, rfl, rfl, h, q⟩
theorem ge_ii {i j : Int} (q : Q (.bl (decide (j ≤ i))) H) : rGe (.int i) (.int j) H Q := ⟨_, _, rfl, rfl, q⟩
theorem gt_ii {i j : Int} (q : Q (.bl (decide (j < i))) H) : rGt (.int i) (.int j) H Q := ⟨_, _, rfl, rfl, q⟩
theorem sb_ii {i j : Int} (q : Q (.int (i - j)) H) : rSb (.int i) (.int j) H Q := ⟨_, _, rfl, rfl, q⟩
theorem f_ii {i j : Int} (h : CDivN i j) (q : Q (.int (i.fdiv j)) H) : rFd (.int i) (.int j) H Q := ⟨.inl ⟨_, _, rfl, rfl, h, q⟩⟩
theorem e_flat {x y : V} (h : scal x y = true) (q : Q (.bl (decide (x = y))) H) : rEqU K x y H Q := ⟨.inl ⟨h, q⟩⟩
theorem e_data {x y : V} {d e : PyData} (h1 : Dp K H x d) (h2 : Dp K H y e) (h3 : SeqAt.shaped d = true) (h4 : SeqAt.shaped e = true) (q : Q (.bl (PyData.eqv d e)) H) : rEqU K x y H Q := ⟨.inr ⟨_, _, h1, h2, h3, h4, q⟩⟩
theorem n_flat {x y : V} (h : scal x y = true) (q : Q (.bl (!decide (x = y))) H) : rNeU K x y H Q := ⟨.inl ⟨h, q⟩⟩
theorem n_data {x y : V} {d e : PyData} (h1 : Dp K H x d) (h2 : Dp K H y e) (h3 : SeqAt.shaped d = true) (h4 : SeqAt.shaped e = true) (q : Q (.bl (!PyData.eqv d e)) H) : rNeU K x y H Q := ⟨.inr ⟨_, _, h1, h2, h3, h4, q⟩⟩
theorem l_ii {i j : Int} (q : Q (.bl (decide (i < j))) H) : rLtU (.int i) (.int j) H Q := ⟨.inl ⟨_, _, rfl, rfl, q⟩⟩
theorem l_ss {i j : Str} (q : Q (.bl (decide (i.cps.toList < j.cps.toList))) H) : rLtU (.str i) (.str j) H Q := ⟨.inr ⟨_, _, rfl, rfl, q⟩⟩
theorem le_ii {i j : Int} (q : Q (.bl (decide (i ≤ j))) H) : rLeU (.int i) (.int j) H Q := ⟨.inl ⟨_, _, rfl, rfl, q⟩⟩
theorem le_ss {i j : Str} (q : Q (.bl (!decide (j.cps.toList < i.cps.toList))) H) : rLeU (.str i) (.str j) H Q := ⟨.inr ⟨_, _, rfl, rfl, q⟩⟩
theorem in_sign {c : Nat} {z : Str} (q : Q (.bl (decide (c ∈ z.cps.toList))) H) : rInU K (.str ⟨#[c]⟩) (.str z) H Q := ⟨.inr (.inl ⟨_, _, rfl, rfl, q⟩)⟩
theorem ni_sign {c : Nat} {z : Str} (q : Q (.bl (!decide (c ∈ z.cps.toList))) H) : rNiU K (.str ⟨#[c]⟩) (.str z) H Q := ⟨.inr (.inl ⟨_, _, rfl, rfl, q⟩)⟩
theorem in_ss {i j : Str} (q : Q (.bl (!(Builtin.Str.occurrences j i 0 j.length 1).isEmpty)) H) : rInU K (.str i) (.str j) H Q := ⟨.inl ⟨_, _, rfl, rfl, q⟩⟩
theorem ni_ss {i j : Str} (q : Q (.bl (!(!(Builtin.Str.occurrences j i 0 j.length 1).isEmpty))) H) : rNiU K (.str i) (.str j) H Q := ⟨.inl ⟨_, _, rfl, rfl, q⟩⟩
theorem in_seq {x : V} {p : Addr} {xs : List V} (h : SqL K H p xs ∨ SqT K H p xs) (h1 : flatV x = true) (h2 : xs.all flatV = true) (q : Q (.bl (inV x xs)) H) : rInU K x (.ref p) H Q := ⟨.inr (.inr ⟨_, _, rfl, h, h1, h2, q⟩)⟩
theorem ni_seq {x : V} {p : Addr} {xs : List V} (h : SqL K H p xs ∨ SqT K H p xs) (h1 : flatV x = true) (h2 : xs.all flatV = true) (q : Q (.bl (!inV x xs)) H) : rNiU K x (.ref p) H Q := ⟨.inr (.inr ⟨_, _, rfl, h, h1, h2, q⟩)⟩
theorem x_l {p : Addr} {xs : List V} {i : Int} {v : V} (h : SqL K H p xs) (e : atI xs i = some v) (q : Q v H) : rIxU K (.ref p) (.int i) H Q := ⟨.inl ⟨_, _, _, _, rfl, rfl, h, e, q⟩⟩
theorem x_t {p : Addr} {xs : List V} {i : Int} {v : V} (h : SqT K H p xs) (e : atI xs i = some v) (q : Q v H) : rIxU K (.ref p) (.int i) H Q := ⟨.inr (.inl ⟨_, _, _, _, rfl, rfl, h, e, q⟩)⟩
theorem x_s {z : Str} {i : Int} {c : Nat} (h : z.length ≤ sizeLine) (e : atI z.cps.toList i = some c) (q : Q (.str ⟨#[c]⟩) H) : rIxU K (.str z) (.int i) H Q := ⟨.inr (.inr ⟨_, _, _, rfl, rfl, h, e, q⟩)⟩
theorem sl_l {a : Addr} {xs : List V} {lo hi : Option Int} (h : SqL K H a xs) (q : ∀ p, H p = none → Q (.ref p) (upd H p (.lst (cutV xs lo hi)))) : rSlU K (.ref a) lo hi H Q := ⟨.inl ⟨_, _, rfl, h, q⟩⟩
theorem sl_t {a : Addr} {xs : List V} {lo hi : Option Int} (h : SqT K H a xs) (q1 : HT.sIx xs.length 0 lo = 0 ∧ HT.sIx xs.length xs.length hi = xs.length → Q (.ref a) H)
    (q2 : ¬ (HT.sIx xs.length 0 lo = 0 ∧ HT.sIx xs.length xs.length hi = xs.length) → ∀ p, H p = none → Q (.ref p) (upd H p (.tup (cutV xs lo hi)))) : rSlU K (.ref a) lo hi H Q := ⟨.inr (.inl ⟨_, _, rfl, h, q1, q2⟩)⟩
end

/-! ### rules with K told apart -/
section
variable {X : Cx} {K : PySem.W.Frag} {tg : Expr}
theorem k_len (hK : X.K = K) : CallR X (.builtin "len") (fun xs H Q => ∃ x n, xs = [x] ∧ LenV K x H n ∧ Q (.int n) H) := by
  subst hK
  exact call_len
theorem k_list {l : Expr} {tl : TE} (hK : X.K = K) (hl : PE X l tl) : PI X tg l (iList K tl) := by
  subst hK
  exact pi_list hl
theorem k_tup {l : Expr} {tl : TE} (hK : X.K = K) (hl : PE X l tl) : PI X tg l (iTup K tl) := by
  subst hK
  exact pi_tup hl
structure rTupU (K : PySem.W.Frag) (x : V) (H : Hp) (Q : VK) : Prop where
  h : kTup K x H Q
theorem k_tuple {a : Expr} {ta : TE} {p pos : Pos} (hK : X.K = K) (hg : Gl X "tuple") (hm : X.mg "tuple" = none) (ha : PE X a ta) (na : starEach [a] X.env = (false, eval a X.env) :: starEach [] X.env := by rfl) :
    PE X (.Call (.Name "tuple" p) [a] [] pos) (fun σ H Q => ta σ H fun x H1 => rTupU K x H1 Q) := by
  subst hK
  refine ⟨fun pins s σ H Q I h => Call_ (ld_blt I hg hm boot_tuple (PyProof.Rows.callWith_type1 ?_ na))⟩
  exact one_arg ha I h (fun v s2 x H2 I2 r q => rl_tuple pins s2 σ H2 x v Q I2 r q.h) na
theorem k_join {o e : Expr} {to te : TE} {apos pos : Pos} (hK : X.K = K) (ho : PE X o to) (he : PE X e te) (hs : starEach [e] X.env = [(false, eval e X.env)] := by rfl) (hbase : attributeBase o "join" X.env (eval o X.env) = eval o X.env := by rfl) (hline : (apos.endLine == pos.line) = true := by rfl) :
    PE X (.Call (.Attribute o "join" apos) [e] [] pos) (tM1 (fun x xs H Q => ∃ a p, ∃ ys : List Str, x = .str a ∧ xs = [.ref p] ∧ (SqL K H p (ys.map V.str) ∨ SqT K H p (ys.map V.str)) ∧
      (ys.map (·.length)).sum + ys.length * a.length ≤ 16777216 ∧ Q (.str (Txt.join a ys)) H) to te) := by
  subst hK
  exact pe_join ho he hs hbase hline
theorem k_any (hK : X.K = K) (hc : X.calm = true) : CallR X (.builtin "any") (rAny K) := by
  subst hK
  exact cr_any hc
theorem k_all (hK : X.K = K) (hc : X.calm = true) : CallR X (.builtin "all") (rAll K) := by
  subst hK
  exact cr_all hc
theorem k_sum (hK : X.K = K) (hc : X.calm = true) : CallR X (.builtin "sum") (rSum K) := by
  subst hK
  exact cr_sum hc
theorem kg_tup {es : List Expr} {k : Nat} {t : TGs} {pos : Pos} (n : Nat) (hK : X.K = K) (hc : X.calm = true) (h : PGs X es t)
    (hn : (assignEach es X.env).length = n := by rfl) (hst : (assignEach es X.env).findIdx? (·.1) = none := by rfl) : PG X (.Tuple es k pos) (gTup K n t) := by
  subst hK
  exact pg_tup hc h hn hst
theorem k_enum {e : Expr} {ta : TA} {p pos tpos : Pos} {elts : List Expr} {kk : Nat} (hK : X.K = K) (hg : Gl X "enumerate") (hm : X.mg "enumerate" = none) (ha : PA X [e] ta) (hs : starEach [e] X.env = [(false, eval e X.env)] := by rfl) :
    PI X (.Tuple elts kk tpos) (.Call (.Name "enumerate" p) [e] [] pos) (iEnum K ta) := by
  subst hK
  exact pi_enum hg hm ha hs
theorem k_zip {e e2 : Expr} {ta : TA} {p pos tpos : Pos} {elts : List Expr} {kk : Nat} (hK : X.K = K) (hg : Gl X "zip") (hm : X.mg "zip" = none) (ha : PA X [e, e2] ta) (hs : starEach [e, e2] X.env = (false, eval e X.env) :: starEach [e2] X.env := by rfl) (hpl : (backTo pos (starEach [e2] X.env)).any (·.1) = false := by rfl) :
    PI X (.Tuple elts kk tpos) (.Call (.Name "zip" p) [e, e2] [] pos) (RZ.iZipA K ta) := by
  subst hK
  exact RZ.pi_zipA hg hm ha hs hpl
end

/-! ### defs by their names -/
/-- the def x of the module keeps the promise sp -/
structure Df (P : Program) (w : World) (K : PySem.W.Frag) (mg : Str → Option Value) (base : Heap) (x : Str) (k : Nat) (ps : List Str) (sp : Sp) : Prop where
  ex : ∃ (f : Addr) (fd : FuncData), FnOk P w K mg base CX0 k f fd ps sp ∧ mg x = some (.ref f) ∧ PySem.W.keepIn K (.ref f) = true ∧ Binds K fd ps []
structure DfG (P : Program) (w : World) (K : PySem.W.Frag) (mg : Str → Option Value) (base : Heap) (x : Str) (k : Nat) (ps : List Str) (sp : Sp) : Prop where
  ex : ∃ (f : Addr) (fd : FuncData), FnG P w K mg base CX0 k f fd ps sp ∧ mg x = some (.ref f) ∧ PySem.W.keepIn K (.ref f) = true ∧ Binds K fd ps []
section
variable {X : Cx} {k j : Nat} {x : Str} {ps : List Str} {sp : Sp} {p pos : Pos} {e : Expr} {es : List Expr} {t : TA}
theorem pe_fn (D : Df X.prog X.w X.K X.mg X.base x k ps sp) (hr : Room j X.A) (hk : k ≤ j) (hg : Gl X x) (ha : PA X (e :: es) t) (hdb : (x == ("__debug__" : Str)) = false := by decide)
    (he : starEach (e :: es) X.env = (false, eval e X.env) :: starEach es X.env := by rfl) (hpl : (backTo pos (starEach es X.env)).any (·.1) = false := by rfl) : PE X (.Call (.Name x p) (e :: es) [] pos) (tCall sp [] E0 t) := by
  obtain ⟨f, fd, F, hm, hkp, hb⟩ := D.ex
  exact pe_call F (hr.mono hk) hg hm hkp hb .nil pass0 ha hdb he hpl
theorem pe_fn0 (D : Df X.prog X.w X.K X.mg X.base x k ps sp) (hr : Room j X.A) (hk : k ≤ j) (hg : Gl X x) (hdb : (x == ("__debug__" : Str)) = false := by decide) : PE X (.Call (.Name x p) [] [] pos) (tCall sp [] E0 tNil) := by
  obtain ⟨f, fd, F, hm, hkp, hb⟩ := D.ex
  exact pe_call0 F (hr.mono hk) hg hm hkp hb .nil pass0 hdb
theorem pe_fnG (hgu : X.A.guards = some []) (D : DfG X.prog X.w X.K X.mg X.base x k ps sp) (hr : Room j X.A) (hk : k ≤ j) (hg : Gl X x) (ha : PA X (e :: es) t) (hdb : (x == ("__debug__" : Str)) = false := by decide)
    (he : starEach (e :: es) X.env = (false, eval e X.env) :: starEach es X.env := by rfl) (hpl : (backTo pos (starEach es X.env)).any (·.1) = false := by rfl) : PE X (.Call (.Name x p) (e :: es) [] pos) (tCall sp [] E0 t) := by
  obtain ⟨f, fd, F, hm, hkp, hb⟩ := D.ex
  exact pe_callG hgu F (hr.mono hk) hg hm hkp hb .nil pass0 ha hdb he hpl
/-- a module's plain constant -/
theorem pe_gl {v : V} {pos : Pos} (h : ∃ u, X.mg x = some u ∧ RelV v u) (hg : Gl X x) (hd : (x == ("__debug__" : Str)) = false := by decide) : PE X (.Name x pos) (tC v) := by
  obtain ⟨u, hm, r⟩ := h
  exact pe_glob hg hm r hd
/-- a module's object -/
theorem pe_ref {a : Addr} {pos : Pos} (hg : Gl X x) (hm : X.mg x = some (.ref a)) (hd : (x == ("__debug__" : Str)) = false := by decide) : PE X (.Name x pos) (tC (.ref a)) := pe_glob hg hm rfl hd
/-- a built-in class's name as a value -/
theorem pe_ty {T : String} {pos : Pos} (hg : Gl X x) (hm : X.mg x = none) (hv : bootBuiltins x = some (.type T)) (hn : x ≠ "__name__" := by decide) (hd : (x == ("__debug__" : Str)) = false := by decide) : PE X (.Name x pos) (tC (.ty T)) :=
  pe_bltn hg hm hv rfl hn hd
end

section
variable {P : Program} {w : World} {K : PySem.W.Frag} {mg : Str → Option Value} {base : Heap} {CX : CXT} {k : Nat} {fd : FuncData} {ps : List Str} {sp : Sp}
  {x qual : Str} {params : Arguments} {body : List Stmt} {scope : Scope} {dvs : List V} {kws : List (Str × V)} {N : List Str} {p : He.Defn}
/-- a def's body, its own code object told -/
theorem okP (F : FunD K x qual params body scope dvs kws (He.fAd K p) fd) (S : FnScope N ps scope) (len : ∀ vs H Q E, sp vs H Q E → vs.length = ps.length)
    (hbody : ∀ (A : Around) (outer : List Env) (s : Shared) (H : Hp) (vs : List V) (Q : VK) (E : XK), Room k (A.deeper (envOfC qual scope s.heap.objs.size (He.fAd K p) (.ref (He.codeOf K p)))) → sp vs H Q E →
      ∃ t, PSs (cxOf CX P w K mg base N qual scope (He.fAd K p) (.ref (He.codeOf K p)) A outer s H E).nox body t ∧ t { nx := fun _ H' => Q .non H', rt := Q } (start N vs) H) : FnOk P w K mg base CX (k + 1) (He.fAd K p) fd ps sp := by
  obtain ⟨oc, od, dV, kV, doc, pm, an, cdv, ct, osl, rfl, lk, hcd, _, _⟩ := F.ex
  obtain ⟨c, rfl⟩ := He.codeIn_ref hcd
  have e : He.codeOf K p = c := He.codeOf_eq lk rfl
  subst e
  refine fn_of lk hcd S len fun A outer s H vs Q E hr hsp => ?_
  obtain ⟨t, h, q⟩ := hbody A outer s H vs Q E hr hsp
  exact ⟨t, h.nox, q⟩
theorem okQ (F : FunD K x qual params body scope dvs kws (He.fAd K p) fd) (S : FnScope N ps scope) (len : ∀ vs H Q E, sp vs H Q E → vs.length = ps.length)
    (hbody : ∀ (A : Around) (outer : List Env) (s : Shared) (H : Hp) (vs : List V) (Q : VK) (E : XK), A.guards = some [] → Room k (A.deeper (envOfC qual scope s.heap.objs.size (He.fAd K p) (.ref (He.codeOf K p)))) → sp vs H Q E →
      ∃ t, PSs (cxOf CX P w K mg base N qual scope (He.fAd K p) (.ref (He.codeOf K p)) A outer s H E).nox body t ∧ t { nx := fun _ H' => Q .non H', rt := Q } (start N vs) H) : FnG P w K mg base CX (k + 1) (He.fAd K p) fd ps sp := by
  obtain ⟨oc, od, dV, kV, doc, pm, an, cdv, ct, osl, rfl, lk, hcd, _, _⟩ := id F.ex
  obtain ⟨c, rfl⟩ := He.codeIn_ref hcd
  have e : He.codeOf K p = c := He.codeOf_eq lk rfl
  subst e
  refine okG F S len fun cdv hcv A outer s H vs Q E hg hr hsp => ?_
  have hcv : cdv = .ref (He.codeOf K p) := hcv.symm
  subst hcv
  obtain ⟨t, h, q⟩ := hbody A outer s H vs Q E hg hr hsp
  exact ⟨t, h.nox, q⟩
end

theorem dvi (a b : Int) : decide (V.int a = V.int b) = decide (a = b) := by
  rw [decide_eq_decide]
  exact ⟨fun h => by injection h, fun h => by rw [h]⟩
theorem dvs (a b : Str) : decide (V.str a = V.str b) = decide (a = b) := by
  rw [decide_eq_decide]
  exact ⟨fun h => by injection h, fun h => by rw [h]⟩
theorem not_true_iff {b : Bool} : (!b) = true ↔ b = false := by cases b <;> simp

/-! ### a heap that has only grown -/
/-- all that was tracked stands, tables perhaps longer -/
def Gr (H H' : Hp) : Prop := ∀ b o, H b = some o → (H' b = some o ∨ ∃ ps more, o = .tbl ps ∧ H' b = some (.tbl (ps ++ more)) ∧ (TriplesOk ps.toList → TriplesOk (ps ++ more).toList))
theorem Gr.refl (H : Hp) : Gr H H := fun _ _ h => .inl h
theorem Gr.trans {H H1 H2 : Hp} (a : Gr H H1) (b : Gr H1 H2) : Gr H H2 := by
  intro c o h
  rcases a c o h with h1 | ⟨ps, m1, rfl, h1, t1⟩
  · exact b c o h1
  · rcases b c _ h1 with h2 | ⟨qs, m2, e, h2, t2⟩
    · exact .inr ⟨ps, m1, rfl, h2, t1⟩
    · cases e
      exact .inr ⟨ps, m1 ++ m2, rfl, by rw [← Array.append_assoc]; exact h2, fun z => by rw [← Array.append_assoc]; exact t2 (t1 z)⟩
theorem Gr.keep {H H' : Hp} (g : Gr H H') {b : Addr} {o : HO} (h : H b = some o) (n : ∀ ps, o ≠ .tbl ps) : H' b = some o := by
  rcases g b o h with h1 | ⟨ps, _, rfl, _⟩
  · exact h1
  · exact absurd rfl (n ps)
theorem Gr.new {H : Hp} {p : Addr} {o : HO} (h : H p = none) : Gr H (upd H p o) := fun b u e => .inl (by rw [upd_ne (ne_of_none e h)]; exact e)
theorem Gr.upd' {H H' : Hp} {p : Addr} {o : HO} (g : Gr H H') (h : H p = none) : Gr H (upd H' p o) := fun b u e => by
  rw [upd_ne (ne_of_none e h)]
  exact g b u e
theorem Gr.free {H H' : Hp} (g : Gr H H') {b : Addr} (h : H' b = none) : H b = none := by
  cases q : H b with
  | none => rfl
  | some o =>
    rcases g b o q with h1 | ⟨_, _, _, h1, _⟩
    · rw [h] at h1; cases h1
    · rw [h] at h1; cases h1
theorem Gr.tabb {P : Addr} {H H' : Hp} (h : Tabb P H H') : Gr H H' := by
  obtain ⟨ps, more, h1, t1, t2, rfl⟩ := h
  intro b o e
  by_cases hb : b = P
  · subst hb
    rw [h1] at e
    cases e
    exact .inr ⟨ps, more, rfl, upd_same, fun _ => t2⟩
  · exact .inl (by rw [upd_ne hb]; exact e)
theorem Gr.tabG {P : Addr} {H H' : Hp} (g : Gr H H') (h : TabG H P) : TabG H' P := by
  obtain ⟨ps, h1, t1⟩ := h
  rcases g P _ h1 with q | ⟨qs, more, e, q, t⟩
  · exact ⟨ps, q, t1⟩
  · cases e
    exact ⟨_, q, t t1⟩
theorem Gr.seqT {K : PySem.W.Frag} {H H' : Hp} (g : Gr H H') {a : Addr} {xs : List V} (h : SqT K H a xs) : SqT K H' a xs := by
  rcases h with (h | ⟨o, h⟩) | h
  · exact .inl (.inl (g.keep h (fun _ z => by cases z)))
  · exact .inl (.inr ⟨o, g.keep h (fun _ z => by cases z)⟩)
  · exact .inr h
theorem Gr.seqL {K : PySem.W.Frag} {H H' : Hp} (g : Gr H H') {a : Addr} {xs : List V} (h : SqL K H a xs) : SqL K H' a xs := by
  rcases h with (h | ⟨o, h⟩) | h
  · exact .inl (.inl (g.keep h (fun _ z => by cases z)))
  · exact .inl (.inr ⟨o, g.keep h (fun _ z => by cases z)⟩)
  · exact .inr h
mutual
theorem Gr.dd {K : PySem.W.Frag} {H H' : Hp} (g : Gr H H') : ∀ (d : PyData) (v : V), Dd K H v d → Dd K H' v d
  | .none, _, h => by cases h; exact .non
  | .bool _, _, h => by cases h; exact .bl _
  | .int _, _, h => by cases h; exact .int _
  | .str _, _, h => by cases h; exact .str _
  | .list ds, _, h => by
    cases h with
    | lst a b => exact .lst (g.seqL a) (Gr.ddA g ds _ b)
  | .tuple ds, _, h => by
    cases h with
    | tup a b => exact .tup (g.seqT a) (Gr.ddA g ds _ b)
  | .dict _, _, h => by
    cases h with
    | dct a => exact .dct (g.keep a (fun _ z => by cases z))
theorem Gr.ddA {K : PySem.W.Frag} {H H' : Hp} (g : Gr H H') : ∀ (ds : List PyData) (vs : List V), DdAll K H vs ds → DdAll K H' vs ds
  | [], _, h => by cases h; exact .nil
  | d :: ds, _, h => by
    cases h with
    | cons a b => exact .cons (Gr.dd g d _ a) (Gr.ddA g ds _ b)
end

/-! ### a walk of enumerate over a list that stays -/
theorem for_enum {K : PySem.W.Frag} {a : Addr} {xs : List V} {g : TG} {tb : TS} {D : Ends} {σ : L2.St} {H : Hp} (Pv : Nat → L2.St → Hp → Prop) (h0 : Pv 0 σ H) (hl : ∀ i σ H, i ≤ xs.length → Pv i σ H → SqL K H a xs)
    (hs : ∀ i x T σ H, xs[i]? = some x → Pv i σ H → H T = none → g (.ref T) σ (upd H T (.tup [.int (i : Nat), x])) fun σ2 H2 => tb { D with nx := Pv (i + 1), ct := Pv (i + 1), bk := D.nx } σ2 H2) (hd : ∀ σ H, Pv xs.length σ H → D.nx σ H) :
    ∃ W : Nat → Nat → L2.St → Hp → Prop, (∃ m, W 0 m σ H) ∧ ∀ i m σ H, W i m σ H →
      ((Ite K a).stop i H ∧ D.nx σ H) ∨ ((Ite K a).go i H ∧ ∃ N : L2.St → Hp → Prop, (∀ σ' H', N σ' H' → ∃ m', m' < m ∧ W (i + 1) m' σ' H') ∧ ∀ x H', (Ite K a).yld i H x H' → g x σ H' fun σ2 H2 => tb { D with nx := N, ct := N, bk := D.nx } σ2 H2) := by
  refine ⟨fun i m σ H => i + m = xs.length ∧ Pv i σ H, ⟨xs.length, Nat.zero_add _, h0⟩, fun i m σ H ⟨hm, p⟩ => ?_⟩
  have hq := hl i σ H (by omega) p
  cases m with
  | zero =>
    have e : i = xs.length := by omega
    subst e
    exact Or.inl ⟨⟨xs, hq, Nat.le_refl _⟩, hd σ H p⟩
  | succ m =>
    have hi : i < xs.length := by omega
    refine Or.inr ⟨⟨xs, xs[i], hq, List.getElem?_eq_getElem hi⟩, Pv (i + 1), fun σ' H' p' => ⟨m, Nat.lt_succ_self _, by omega, p'⟩, ?_⟩
    rintro x H' ⟨T, y, rfl, hT, rfl, hy⟩
    exact hs i y T σ H (hy xs hq) p hT
end Vf
end
section
set_option Elab.async false
set_option linter.all false
set_option maxRecDepth 100000
set_option maxHeartbeats 8000000
/-! How many different texts a list has: len(set(texts)). -/
namespace Vf
open PySem PySem.Spec PyProof.Rows L2 GxR GenW
/-- one more, if it is new -/
def ins1 (acc : List Str) (x : Str) : List Str := if acc.any (· == x) = true then acc else acc ++ [x]
/-- the different ones, in the order they come -/
def mets (xs : List Str) : List Str := xs.foldl ins1 []
theorem mets_snoc (xs : List Str) (x : Str) : mets (xs ++ [x]) = ins1 (mets xs) x := by unfold mets; rw [List.foldl_append]; rfl
theorem ins1_any (acc : List Str) (x k : Str) : (ins1 acc x).any (· == k) = (acc.any (· == k) || decide (k = x)) := by
  unfold ins1
  by_cases h : acc.any (· == x) = true
  · rw [if_pos h]
    by_cases e : k = x
    · subst e; rw [h]; rfl
    · rw [decide_eq_false e, Bool.or_false]
  · rw [if_neg h, List.any_append]
    congr 1
    by_cases e : k = x
    · subst e; simp
    · have hb : (x == k) = false := by rw [beq_eq_false_iff_ne]; exact fun z => e z.symm
      simp [hb, e]
theorem ins1_len (acc : List Str) (x : Str) : (ins1 acc x).length = if acc.any (· == x) = true then acc.length else acc.length + 1 := by
  unfold ins1
  split
  · rfl
  · rw [List.length_append, List.length_singleton]
theorem mets_len_le (xs : List Str) : (mets xs).length ≤ xs.length := by
  have key : ∀ (l acc : List Str), (l.foldl ins1 acc).length ≤ acc.length + l.length := by
    intro l
    induction l with
    | nil => intro acc; exact Nat.le_refl _
    | cons y r ih =>
      intro acc
      have h1 := ih (ins1 acc y)
      have h2 := ins1_len acc y
      rw [List.foldl_cons, List.length_cons]
      split at h2 <;> omega
  have q := key xs []
  rw [List.length_nil, Nat.zero_add] at q
  exact q
section
variable {prog : Program} {w : World} {A : Around} {R : Result → Shared → Prop} {I : Addr} {fp wr : List Addr} {G : Array GenState → Array GenState → Prop} {n : Nat} {P : Nat → Value → Prop} {St : Nat → Shared → Prop}
theorem upd_loop (W : WalksS prog w A.in1 I fp wr G n P St) (S : Addr) (hSf : S ∉ fp) (xs : List Str) (hn : xs.length = n) (hv : ∀ i v, P i v → ∃ t, v = .str (xs.getD i Str.empty) t) (hb : n + 1 < scanBound) :
    ∀ (k i : Nat) (s : Shared), n - i = k → i ≤ n → St i s → s.heap.SetOf (PySem.strKind prog w) S (fun z => (mets (xs.take i)).any (· == z)) (mets (xs.take i)).length →
      (∀ s', Moved (S :: wr) G s s' → s'.heap.SetOf (PySem.strKind prog w) S (fun z => (mets xs).any (· == z)) (mets xs).length → R (.ok (.ret .none)) s') →
      codeAny (model prog w) A (.builtin "set.update.loop" ⟨[.ref S, .ref I], []⟩) R s := by
  have nS : S ∉ wr := fun z => hSf (W.sub _ z)
  have more : ∀ b ∈ wr, b ∈ S :: wr := fun b z => List.mem_cons_of_mem _ z
  have stay : ∀ {s s' : Shared} {f : Str → Bool} {m : Nat}, Moved wr G s s' → s.heap.SetOf (PySem.strKind prog w) S f m → s'.heap.SetOf (PySem.strKind prog w) S f m := by
    rintro s s' f m hm ⟨o, es, ep, t, ho, rest⟩
    exact ⟨o, es, ep, t, hm.heap S _ nS ho, rest⟩
  intro k
  induction k with
  | zero =>
    intro i s hk hi st hS hR
    have e : i = n := by omega
    subst e
    refine codeAny_builtin PyProof.Rows.F.entry_set_update_loop ?_
    rw [Around.under_plainId PyProof.Rows.F.plain_set_update_loop _]
    show wpAny _ A.in1 (pyNext (.ref I) >>= _) _ _ s
    refine wpAny_bind (W.done s _ _ st fun s' hm => ?_)
    show wpAny _ A.in1 (ret Value.none) _ _ s'
    have q := stay hm hS
    rw [← hn, List.take_length] at q
    exact wpAny_pure (hR s' (hm.mono more) q)
  | succ k ih =>
    intro i s hk hi st hS hR
    have lt : i < n := by omega
    refine codeAny_builtin PyProof.Rows.F.entry_set_update_loop ?_
    rw [Around.under_plainId PyProof.Rows.F.plain_set_update_loop _]
    show wpAny _ A.in1 (pyNext (.ref I) >>= _) _ _ s
    refine wpAny_bind (W.item i s _ _ lt st fun v s' hP st' hm => ?_)
    obtain ⟨t, rfl⟩ := hv i v hP
    have lx : i < xs.length := by omega
    have eg : xs.getD i Str.empty = xs[i] := by simp [List.getD, List.getElem?_eq_getElem lx]
    rw [eg]
    show wpAny _ A.in1 (holding [Value.str xs[i] t] (setAdd S (.str xs[i] t)) >>= _) _ _ s'
    refine wpAny_bind (wpAny_holding ?_)
    unfold setAdd
    refine wpAny_holding (wpAny_bind ((PySem.strKind prog w).pyHash (k := xs[i]) (strKind_is _ _ _ _) ?_))
    have hS' := stay hm hS
    have room : (mets (xs.take i)).length + 1 < scanBound := by
      have h1 := mets_len_le (xs.take i)
      rw [List.length_take] at h1
      omega
    refine wpAny_setAddHashed_of (knd := PySem.strKind prog w) (s := { s' with toks := s'.toks + 1 }) (strKind_is _ _ _ _) rfl hS' room fun h' hsb hS2 => ?_
    have et : xs.take (i + 1) = xs.take i ++ [xs[i]] := by rw [List.take_succ, List.getElem?_eq_getElem lx]; rfl
    have hSi : h'.SetOf (PySem.strKind prog w) S (fun z => (mets (xs.take (i + 1))).any (· == z)) (mets (xs.take (i + 1))).length :=
      PyProof.Rows.SetOf_congr hS2 (fun z => by rw [et, mets_snoc, ins1_any]) (by rw [et, mets_snoc, ins1_len])
    have other : ∀ b, b ≠ S → ∀ o, s'.heap.get? b = some o → h'.get? b = some o := fun b hb o e => (hsb.2 b hb).trans e
    refine wpAny_pure ⟨plainId_quiet PyProof.Rows.F.plain_set_update_loop _, ih (i + 1) _ (by omega) lt (W.frame _ s' _ _ st' (Nat.le_succ _) fun b hb o e => other b (fun z => hSf (z ▸ hb)) o e) hSi fun s'' hm2 hS3 => ?_⟩
    exact hR s'' (Moved.trans W.gtrans ((hm.mono more).then_heap (Nat.le_succ _) fun b o hb e => other b (fun z => hb (z ▸ List.mem_cons_self)) o e) hm2) hS3
end
section
variable {prog : Program} {w : World} {A : Around} {E : Value → Shared → Prop} {s : Shared}
theorem set_of_strs {l : Addr} {its : Array Value} {xs : List Str} {Q : Value → Shared → Prop} (hh : A.handled = none) (hl : s.heap.IsList l its) (hi : PyProof.Rows.StrsAre its.toList xs) (hb : its.size + 1 < scanBound)
    (h : ∀ (h' : Heap) (tk : Nat), h'.SetOf (PySem.strKind prog w) s.heap.objs.size (fun z => (mets xs).any (· == z)) (mets xs).length → (∀ b o, b < s.heap.objs.size → s.heap.get? b = some o → h'.get? b = some o) →
      Q (.ref s.heap.objs.size) { s with heap := h', toks := tk }) : wpAny (model prog w) A (call (.type "set") [.ref l]) Q E s := by
  obtain ⟨c, tl, m1⟩ := PySem.F.called_set.mro
  have m2 := PySem.F.called_set.made
  have m3 := PySem.F.called_set.sub
  refine wpAny_call (codeAny_of_tree ?_)
  show wpAny _ _ (callAny (.type "set") _) _ _ _
  refine wpAny_pure ⟨Code.quiet_builtin _ (by decide +kernel), codeAny_builtin PySem.F.entry_type_call ?_⟩
  rw [Around.under_plain (weight_type_call_type "set" [.ref l] []) rfl]
  have m4 := PySem.F.called_set.notType
  have m5 := PySem.F.called_set.canCreate
  have m6 := PySem.F.typeCall_set_1 (.ref l)
  repeat (any_goals (first | assumption | wp_step))
  refine codeAny_mono (code_set_new_1 (.ref l) (E := E) (Q₁ := fun obj s₁ => ∃ led : Bool, obj = .ref s.heap.objs.size ∧ s₁ = { s with heap := s.heap.push { cls := .type "set", dict := none, data := .set #[] 0 (.fresh 0 0 led) } }) fun led => ⟨led, rfl, rfl⟩) fun r s₁ hr => ?_
  cases r with
  | error e => exact hr
  | ok fl =>
    cases fl with
    | ret obj =>
      obtain ⟨led, rfl, rfl⟩ := hr
      have gS : (s.heap.push ({ cls := .type "set", dict := none, data := .set #[] 0 (.fresh 0 0 led) } : Obj)).get? s.heap.objs.size = some ({ cls := .type "set", dict := none, data := .set #[] 0 (.fresh 0 0 led) } : Obj) := Heap.get?_push_size _ rfl
      have tS : Shared.TypeIs { s with heap := s.heap.push ({ cls := .type "set", dict := none, data := .set #[] 0 (.fresh 0 0 led) } : Obj) } (.ref s.heap.objs.size) "set" := ⟨_, gS, rfl⟩
      have m7 := PySem.F.called_set.init.lookup
      have m8 := PySem.F.called_set.init.bind (.ref s.heap.objs.size)
      repeat (any_goals (first | assumption | wp_step))
      refine codeAny_mono (codeAny_call_builtin (R := wants (fun r s₂ => r = .none ∧ ∃ h' tk, s₂ = { s with heap := h', toks := tk } ∧ h'.SetOf (PySem.strKind prog w) s.heap.objs.size (fun z => (mets xs).any (· == z)) (mets xs).length ∧
          (∀ b o, b < s.heap.objs.size → s.heap.get? b = some o → h'.get? b = some o)) E) PySem.F.called_set.init.plain PySem.F.entry_set_init (check_set_init_1 tS ?_)) fun r₂ s₂ hr₂ => ?_
      · obtain ⟨ol, hol, hcl, nl, hdl⟩ := hl
        obtain ⟨ocls, odict, odata, oslots⟩ := ol
        simp only at hcl hdl
        subst hcl; subst hdl
        have k1 : (s.heap.push ({ cls := .type "set", dict := none, data := .set #[] 0 (.fresh 0 0 led) } : Obj)).get? l = some { cls := .type "list", dict := odict, data := .seq its nl, slots := oslots } := Heap.get?_push_of_some _ hol
        have m9 := PySem.F.sub_list_set
        have m10 := PySem.F.sub_list_frozenset
        have m11 : (Value.type "list" == Value.type "dict") = false := by decide
        have k2 : (s.heap.push ({ cls := .type "set", dict := none, data := .set #[] 0 (.fresh 0 0 led) } : Obj)).IsList l its := ⟨_, k1, rfl, nl, rfl⟩
        unfold Builtin.«set.__init__» noKeywords Builtin.Frozenset.updateFrom
        generalize hPI : pyIter = PI
        wp_walk
        subst hPI
        refine wpAny_pyIter_list k2 (wpAny_bind (wpAny_runValue ?_))
        have lS : l < s.heap.objs.size := Heap.lt_size hol
        have size1 : (s.heap.push ({ cls := .type "set", dict := none, data := .set #[] 0 (.fresh 0 0 led) } : Obj)).objs.size = s.heap.objs.size + 1 := Heap.size_push ..
        have h3 : A.in1.in1.in1.handled = none := hh
        have nI : l ≠ (s.heap.push ({ cls := .type "set", dict := none, data := .set #[] 0 (.fresh 0 0 led) } : Obj)).objs.size := by rw [size1]; exact Nat.ne_of_lt (Nat.lt_succ_of_lt lS)
        have nS : s.heap.objs.size ∉ [(s.heap.push ({ cls := .type "set", dict := none, data := .set #[] 0 (.fresh 0 0 led) } : Obj)).objs.size, l] := by
          rw [size1]
          intro z
          rcases List.mem_cons.mp z with z | z
          · exact absurd z (Nat.ne_of_lt (Nat.lt_succ_self _))
          · exact absurd (List.mem_singleton.mp z) (Nat.ne_of_gt lS)
        have len : xs.length = its.size := by rw [← StrsAre.len_eq hi, Array.length_toList]
        refine upd_loop ((Walks.list h3 _ l nI its).toS) s.heap.objs.size nS xs len (fun i v hv => SS.strs_at hi i v (by rw [Array.getElem?_toList]; exact hv)) hb (its.size - 0) 0 _ (by omega) (Nat.zero_le _) ⟨⟨_, Heap.get?_push_size _ rfl, rfl, rfl⟩, (k2.push _)⟩ ?hS0 ?hR
        case hS0 =>
          have g2 : ((s.heap.push ({ cls := .type "set", dict := none, data := .set #[] 0 (.fresh 0 0 led) } : Obj)).push { cls := .type "list_iterator", data := .fields #[.ref l, .int 0 0] }).get? s.heap.objs.size = some ({ cls := .type "set", dict := none, data := .set #[] 0 (.fresh 0 0 led) } : Obj) := Heap.get?_push_of_some _ gS
          exact PyProof.Rows.SetOf_congr ((PyProof.Rows.setObjOf_fresh (knd := PySem.strKind prog w) led).setOf g2 (by unfold scanBound; omega)) (fun _ => rfl) rfl
        case hR =>
          rintro ⟨h', g', d', tk', os'⟩ hm hS'
          obtain rfl : g' = s.gens := hm.gens
          obtain rfl : d' = s.drawn := hm.drawn
          obtain rfl : os' = s.os := hm.os
          show wpAny _ _ _ _ _ _
          refine wpAny_pure ?_
          show wpAny _ _ (ret Value.none) _ _ _
          refine wpAny_pure ⟨rfl, h', tk', rfl, hS', fun b o hb e => ?_⟩
          refine hm.heap b o ?_ (Heap.get?_push_of_some _ (Heap.get?_push_of_some _ e))
          intro z
          rcases List.mem_cons.mp z with z | z
          · exact absurd z (Nat.ne_of_lt hb)
          · rw [List.mem_singleton.mp z, size1] at hb
            exact absurd (Nat.lt_of_succ_lt hb) (Nat.lt_irrefl _)
      · cases r₂ with
        | error e => exact hr₂
        | ok f2 =>
          cases f2 with
          | ret r =>
            obtain ⟨rfl, h', tk, rfl, q1, q2⟩ := hr₂
            repeat (any_goals (first | assumption | wp_step))
            exact h _ _ q1 q2
          | _ => exact hr₂.elim
    | _ => exact hr.elim
end
end Vf
end
section
set_option Elab.async false
set_option linter.all false
set_option maxRecDepth 100000
set_option maxHeartbeats 8000000
namespace Vf
open PySem PySem.Spec PyProof.Rows L2 GxR GenW
section
variable {X : Cx}
/-- len(set(texts)), texts a list -/
def tLenSetS (K : PySem.W.Frag) (ta : TE) : TE := fun σ H Q => ta σ H fun x H1 => ∃ (l : Addr) (xs : List Str), x = .ref l ∧ SqL K H1 l (xs.map V.str) ∧ xs.length ≤ 4000 ∧ Q (.int ((mets xs).length : Nat)) H1
theorem strs_vals : ∀ {xs : List Str} {us : List Value}, Vals (xs.map V.str) us → StrsAre us xs
  | [], us, r => by cases r; exact StrsAre.nil
  | x :: xs, us, r => by
    cases r with
    | cons a b =>
      obtain ⟨t, rfl⟩ := a
      exact StrsAre.cons _ _ (strs_vals b)
theorem pe_lenSetS {K : PySem.W.Frag} {a : Expr} {ta : TE} {p p2 q pos : Pos} (hK : X.K = K) (hg : Gl X "len") (hm : X.mg "len" = none) (hg2 : Gl X "set") (hm2 : X.mg "set" = none) (ha : PE X a ta) (hc : X.calm = true := by rfl)
    (na : starEach [a] X.env = (false, eval a X.env) :: starEach [] X.env := by rfl) : PE X (.Call (.Name "len" p) [.Call (.Name "set" p2) [a] [] q] [] pos) (tLenSetS K ta) := by
  subst hK
  refine ⟨fun pins s σ H Q I h => Call_ (ld_blt I hg hm boot_len ?_)⟩
  refine PyProof.Rows.callWith_builtin1 (PyProof.Rows.args_cons ?_ rfl) rfl rfl
  refine Call_ (ld_blt I hg2 hm2 boot_set ?_)
  refine PyProof.Rows.callWith_type1 (PyProof.Rows.args_cons (thn (ha.run pins s σ H _ I h) ?_) na) na rfl
  rintro v s1 ⟨x, H1, I1, r1, l, xs, rfl, hq, hl, q1⟩
  refine PyProof.Rows.args_nil ?_
  cases r1
  obtain ⟨its, r, pl, hz⟩ := I1.list hq
  have hlen : its.toArray.size = xs.length := by rw [List.size_toArray, ← r.length, List.length_map]
  have hml := mets_len_le xs
  refine set_of_strs (I1.ok.hd hc) pl.isList (xs := xs) (by simpa using strs_vals r) (by rw [hlen]; unfold scanBound; omega) fun h' tk hS hk => ?_
  refine PyProof.Rows.args_nil ?_
  obtain ⟨o, es, ep, t, ho, hex, hd, _, _, _, hf, hn⟩ := hS
  have I2 : Inv X pins σ H1 { s1 with heap := h', toks := tk } := I1.kept fun b o e => hk b o (Heap.lt_size e) e
  exact call_len_set ho hex hd hf (by rw [hn] <;> omega) ⟨.int (mets xs).length, H1, I2.tok _, ⟨_, by rw [hn]⟩, q1⟩
end
end Vf
end
section
set_option Elab.async false
set_option linter.all false
set_option maxRecDepth 100000
set_option maxHeartbeats 4000000
namespace Vf
open PySem PySem.Spec PyProof.Rows L2 GxR GenW RZ
/-! ### isinstance of data -/
def clsOf : PyData → String
  | .none => "NoneType"
  | .bool _ => "bool"
  | .int _ => "int"
  | .str _ => "str"
  | .list _ => "list"
  | .tuple _ => "tuple"
  | .dict _ => "dict"
def isaD (T : String) : PyData → Bool
  | .none => T == "NoneType"
  | .bool _ => T == "bool" || T == "int"
  | .int _ => T == "int"
  | .str _ => T == "str"
  | .list _ => T == "list"
  | .tuple _ => T == "tuple"
  | .dict _ => T == "dict"
theorem kitD (T : String) (h : T = "tuple" ∨ T = "str" ∨ T = "int" ∨ T = "bool" ∨ T = "list") (d : PyData) : kitB (clsOf d) T = some (isaD T d) := by
  rcases h with rfl | rfl | rfl | rfl | rfl <;> cases d <;> (simp only [clsOf, isaD]; decide +kernel)
section
variable {X : Cx}
theorem tyD {K : PySem.W.Frag} {H : Hp} {v : V} {d : PyData} (h : Dd K H v d) : TyX K H v (.type (clsOf d)) := by
  cases h with
  | non => exact .base .non
  | bl b => exact .base (.bl b)
  | int i => exact .base (.int i)
  | str x => exact .base (.str x)
  | lst h1 _ =>
    rcases h1 with (h1 | ⟨o, h1⟩) | ⟨o, its, n, h1, h2, _⟩
    · exact .base (.lst h1)
    · exact .base (.frz h1)
    · exact .kList h1 h2
  | tup h1 _ =>
    rcases h1 with (h1 | ⟨o, h1⟩) | ⟨o, its, n, h1, h2, _⟩
    · exact .base (.tup h1)
    · exact .fTuple h1
    · exact .kTuple h1 h2
  | dct h1 => exact .base (.dK h1)
/-- isinstance(x, T), x data, T a built-in class's name -/
theorem call_isD {K : PySem.W.Frag} (hK : X.K = K) : CallR X (.builtin "isinstance") (fun xs H Q => ∃ (x : V) (d : PyData) (T : String), xs = [x, .ty T] ∧ Dd K H x d ∧ (T = "tuple" ∨ T = "str" ∨ T = "int" ∨ T = "bool" ∨ T = "list") ∧ Q (.bl (isaD T d)) H) := by
  subst hK
  intro pins s σ H xs us Q I r h
  obtain ⟨x, d, T, rfl, hd, hT, q⟩ := h
  exact call_isi pins s σ H _ us Q I r ⟨x, .ty T, _, _, _, rfl, .ty T, tyD hd, kit_ty (kitD T hT d), q⟩
theorem vals_at : ∀ {xs : List V} {us : List Value}, xs.length = us.length → (∀ (i : Nat) (x : V) (u : Value), xs[i]? = some x → us[i]? = some u → RelV x u) → Vals xs us
  | [], [], _, _ => .nil
  | [], _ :: _, h, _ => by simp at h
  | _ :: _, [], h, _ => by simp at h
  | x :: xs, u :: us, h, k => .cons (k 0 x u rfl rfl) (vals_at (by simpa using h) fun i y v h1 h2 => k (i + 1) y v (by simpa using h1) (by simpa using h2))
/-- a text's signs as values -/
abbrev sgn (x : Str) : List V := x.cps.toList.map fun c => V.str ⟨#[c]⟩
theorem sgn_vals {x : Str} {acc : Array Value} (h : ItemsOf (SignAt x) acc x.cps.size) : Vals (sgn x) acc.toList := by
  obtain ⟨h1, h2⟩ := h
  refine vals_at (by rw [List.length_map, Array.length_toList, Array.length_toList]; exact h1.symm) fun i y u hy hu => ?_
  rw [Array.getElem?_toList] at hu
  obtain ⟨c, t, hc, rfl⟩ := h2 i u hu
  rw [List.getElem?_map, Array.getElem?_toList, hc] at hy
  cases hy
  exact ⟨t, rfl⟩
structure rLstU (K : PySem.W.Frag) (xs : List V) (H : Hp) (Q : VK) : Prop where
  h : (∃ p ys, xs = [.ref p] ∧ (SqL K H p ys ∨ SqT K H p ys) ∧ ∀ l, H l = none → Q (.ref l) (upd H l (.lst ys))) ∨ (∃ x : Str, xs = [.str x] ∧ x.length ≤ sizeLine ∧ ∀ l, H l = none → Q (.ref l) (upd H l (.lst (sgn x))))
/-- list(x), x a list, a tuple, a text -/
theorem call_listU {K : PySem.W.Frag} (hK : X.K = K) (hc : X.calm = true) : CallR X (.type "list") (rLstU K) := by
  subst hK
  intro pins s σ H xs us Q I r h
  rcases h.h with h | ⟨x, rfl, hz, q⟩
  · exact call_list_of pins s σ H xs us Q I r h
  · obtain ⟨u, rfl, t, rfl⟩ := vals1 r
    refine call_list_str (I.ok.hd hc) x t (fun h' tk acc c hk hS ha => ?_) hz
    have hn : H s.heap.objs.size = none := I.hok.fresh (Nat.le_refl _)
    exact ⟨.ref s.heap.objs.size, upd H s.heap.objs.size (.lst (sgn x)), I.laid hk (Nat.le_refl _) ⟨by rw [List.length_map, Array.length_toList]; exact hz, acc.toList, c, sgn_vals ha, hS⟩, rfl, q _ hn⟩
theorem lsU_s {K : PySem.W.Frag} {H : Hp} {Q : VK} {x : Str} (hz : x.length ≤ sizeLine) (q : ∀ l, H l = none → Q (.ref l) (upd H l (.lst (sgn x)))) : rLstU K [.str x] H Q := ⟨.inr ⟨x, rfl, hz, q⟩⟩
theorem lsU_q {K : PySem.W.Frag} {H : Hp} {Q : VK} {p : Addr} {ys : List V} (h : SqL K H p ys ∨ SqT K H p ys) (q : ∀ l, H l = none → Q (.ref l) (upd H l (.lst ys))) : rLstU K [.ref p] H Q := ⟨.inl ⟨p, ys, rfl, h, q⟩⟩
end

/-! ### the turns of an any, an all -/
section
variable {cont : Bool} {j : Nat} {σ0 : L2.St} {te : TE} {K : PySem.W.Frag} {a : Addr} {xs : List V} {Q : VK} {H2 : Hp}
theorem turns_T (Pv : Nat → Hp → Prop) (h0 : Pv 0 H2) (hl : ∀ i H, i ≤ xs.length → Pv i H → SqT K H a xs)
    (hs : ∀ i x H, xs[i]? = some x → Pv i H → te (σ0.set j (some x)) H fun z H4 => ∃ c, z = .bl c ∧ (if c = cont then Pv (i + 1) H4 else Q (.bl (!cont)) H4)) (hd : ∀ H, Pv xs.length H → Q (.bl cont) H) :
    ∃ W : Nat → Nat → Hp → Prop, (∃ m, W 0 m H2) ∧ Turns cont j σ0 tYes te (Itt K a) Q W := by
  refine ⟨fun i m H => i + m = xs.length ∧ Pv i H, ⟨xs.length, Nat.zero_add _, h0⟩, fun i m H ⟨hm, p⟩ => ?_⟩
  have q := hl i H (by omega) p
  cases m with
  | zero =>
    have e : i = xs.length := by omega
    subst e
    exact .inl ⟨⟨xs, q, Nat.le_refl _⟩, hd H p⟩
  | succ m =>
    have hi : i < xs.length := by omega
    refine .inr ⟨⟨xs, xs[i], q, List.getElem?_eq_getElem hi⟩, Pv (i + 1), fun H' p' => ⟨m, Nat.lt_succ_self _, by omega, p'⟩, ?_⟩
    rintro y H' ⟨rfl, hy⟩
    exact hs i y _ (hy xs q) p
theorem turns_L (Pv : Nat → Hp → Prop) (h0 : Pv 0 H2) (hl : ∀ i H, i ≤ xs.length → Pv i H → SqL K H a xs)
    (hs : ∀ i x H, xs[i]? = some x → Pv i H → te (σ0.set j (some x)) H fun z H4 => ∃ c, z = .bl c ∧ (if c = cont then Pv (i + 1) H4 else Q (.bl (!cont)) H4)) (hd : ∀ H, Pv xs.length H → Q (.bl cont) H) :
    ∃ W : Nat → Nat → Hp → Prop, (∃ m, W 0 m H2) ∧ Turns cont j σ0 tYes te (Itl K a) Q W := by
  refine ⟨fun i m H => i + m = xs.length ∧ Pv i H, ⟨xs.length, Nat.zero_add _, h0⟩, fun i m H ⟨hm, p⟩ => ?_⟩
  have q := hl i H (by omega) p
  cases m with
  | zero =>
    have e : i = xs.length := by omega
    subst e
    exact .inl ⟨⟨xs, q, Nat.le_refl _⟩, hd H p⟩
  | succ m =>
    have hi : i < xs.length := by omega
    refine .inr ⟨⟨xs, xs[i], q, List.getElem?_eq_getElem hi⟩, Pv (i + 1), fun H' p' => ⟨m, Nat.lt_succ_self _, by omega, p'⟩, ?_⟩
    rintro y H' ⟨rfl, hy⟩
    exact hs i y _ (hy xs q) p
theorem turns_S {x : Str} (Pv : Nat → Hp → Prop) (h0 : Pv 0 H2)
    (hs : ∀ i c H, x.cps.toList[i]? = some c → Pv i H → te (σ0.set j (some (.str ⟨#[c]⟩))) H fun z H4 => ∃ c, z = .bl c ∧ (if c = cont then Pv (i + 1) H4 else Q (.bl (!cont)) H4)) (hd : ∀ H, Pv x.cps.toList.length H → Q (.bl cont) H) :
    ∃ W : Nat → Nat → Hp → Prop, (∃ m, W 0 m H2) ∧ Turns cont j σ0 tYes te (Its x) Q W := by
  refine ⟨fun i m H => i + m = x.cps.toList.length ∧ Pv i H, ⟨_, Nat.zero_add _, h0⟩, fun i m H ⟨hm, p⟩ => ?_⟩
  have e2 : x.cps.toList.length = x.cps.size := Array.length_toList
  cases m with
  | zero =>
    have e : i = x.cps.toList.length := by omega
    subst e
    exact .inl ⟨by show x.cps.size ≤ _; omega, hd H p⟩
  | succ m =>
    refine .inr ⟨by show i < x.cps.size; omega, Pv (i + 1), fun H' p' => ⟨m, Nat.lt_succ_self _, by omega, p'⟩, ?_⟩
    rintro y H' ⟨rfl, c, hc, rfl⟩
    exact hs i c _ (by rw [Array.getElem?_toList]; exact hc) p
end

/-! ### comprehensions over a text, over zip -/
section
variable {K : PySem.W.Frag} {g : TG} {tt : TT} {te : TE} {vs : List Nat} {σ : L2.St} {H1 : Hp} {D : Addr} {Qd : Hp → Prop}
theorem lc_S {x : Str} (Pv : Nat → Hp → Prop) (h0 : Pv 0 (upd H1 D (.lst [])))
    (hs : ∀ i c H, x.cps.toList[i]? = some c → Pv i H → g (.str ⟨#[c]⟩) (wipe σ vs) H fun σ2 H2 => wipe σ2 vs = wipe σ vs ∧ tt σ2 H2 fun b H3 =>
      if b = true then te σ2 H3 fun y H4 => ∃ acc, H4 D = some (.lst acc) ∧ acc.length < sizeLine ∧ Pv (i + 1) (upd H4 D (.lst (acc ++ [y]))) else Pv (i + 1) H3) (hd : ∀ H, Pv x.cps.toList.length H → Qd H) :
    ∃ W : Nat → Nat → Hp → Prop, (∃ m, W 0 m (upd H1 D (.lst []))) ∧ ∀ i m H, W i m H →
      ((Its x).stop i H ∧ Qd H) ∨ ((Its x).go i H ∧ ∃ Nx : Hp → Prop, (∀ H', Nx H' → ∃ m', m' < m ∧ W (i + 1) m' H') ∧ ∀ y H', (Its x).yld i H y H' → g y (wipe σ vs) H' fun σ2 H2 => wipe σ2 vs = wipe σ vs ∧ tt σ2 H2 fun b H3 =>
        if b = true then te σ2 H3 fun y H4 => ∃ acc, H4 D = some (.lst acc) ∧ acc.length < sizeLine ∧ Nx (upd H4 D (.lst (acc ++ [y]))) else Nx H3) := by
  refine ⟨fun i m H => i + m = x.cps.toList.length ∧ Pv i H, ⟨_, Nat.zero_add _, h0⟩, fun i m H ⟨hm, p⟩ => ?_⟩
  have e2 : x.cps.toList.length = x.cps.size := Array.length_toList
  cases m with
  | zero =>
    have e : i = x.cps.toList.length := by omega
    subst e
    exact .inl ⟨by show x.cps.size ≤ _; omega, hd H p⟩
  | succ m =>
    refine .inr ⟨by show i < x.cps.size; omega, Pv (i + 1), fun H' p' => ⟨m, Nat.lt_succ_self _, by omega, p'⟩, ?_⟩
    rintro y H' ⟨rfl, c, hc, rfl⟩
    exact hs i c _ (by rw [Array.getElem?_toList]; exact hc) p
theorem lc_zT {a b : Addr} {xs ys : List V} (hl : xs.length = ys.length) (Pv : Nat → Hp → Prop) (h0 : Pv 0 (upd H1 D (.lst []))) (hq : ∀ i H, Pv i H → SqT K H a xs ∧ SqT K H b ys)
    (hs : ∀ i x y T H, xs[i]? = some x → ys[i]? = some y → Pv i H → H T = none → g (.ref T) (wipe σ vs) (upd H T (.tup [x, y])) fun σ2 H2 => wipe σ2 vs = wipe σ vs ∧ tt σ2 H2 fun b H3 =>
      if b = true then te σ2 H3 fun y H4 => ∃ acc, H4 D = some (.lst acc) ∧ acc.length < sizeLine ∧ Pv (i + 1) (upd H4 D (.lst (acc ++ [y]))) else Pv (i + 1) H3) (hd : ∀ H, Pv xs.length H → Qd H) :
    ∃ W : Nat → Nat → Hp → Prop, (∃ m, W 0 m (upd H1 D (.lst []))) ∧ ∀ i m H, W i m H →
      ((ItzT K a b).stop i H ∧ Qd H) ∨ ((ItzT K a b).go i H ∧ ∃ Nx : Hp → Prop, (∀ H', Nx H' → ∃ m', m' < m ∧ W (i + 1) m' H') ∧ ∀ y H', (ItzT K a b).yld i H y H' → g y (wipe σ vs) H' fun σ2 H2 => wipe σ2 vs = wipe σ vs ∧ tt σ2 H2 fun b H3 =>
        if b = true then te σ2 H3 fun y H4 => ∃ acc, H4 D = some (.lst acc) ∧ acc.length < sizeLine ∧ Nx (upd H4 D (.lst (acc ++ [y]))) else Nx H3) := by
  refine ⟨fun i m H => i + m = xs.length ∧ Pv i H, ⟨_, Nat.zero_add _, h0⟩, fun i m H ⟨hm, p⟩ => ?_⟩
  obtain ⟨q1, q2⟩ := hq i H p
  cases m with
  | zero =>
    have e : i = xs.length := by omega
    subst e
    exact .inl ⟨⟨xs, ys, q1, q2, .inl (Nat.le_refl _)⟩, hd H p⟩
  | succ m =>
    have h1 : i < xs.length := by omega
    have h2 : i < ys.length := by omega
    refine .inr ⟨⟨xs, ys, xs[i], ys[i], q1, q2, List.getElem?_eq_getElem h1, List.getElem?_eq_getElem h2⟩, Pv (i + 1), fun H' p' => ⟨m, Nat.lt_succ_self _, by omega, p'⟩, ?_⟩
    rintro z H' ⟨T, x, y, rfl, hT, rfl, hx, hy⟩
    exact hs i x y T H (hx xs q1) (hy ys q2) p hT
theorem lc_zL {a b : Addr} {xs ys : List V} (hl : xs.length = ys.length) (Pv : Nat → Hp → Prop) (h0 : Pv 0 (upd H1 D (.lst []))) (hq : ∀ i H, Pv i H → SqL K H a xs ∧ SqL K H b ys)
    (hs : ∀ i x y T H, xs[i]? = some x → ys[i]? = some y → Pv i H → H T = none → g (.ref T) (wipe σ vs) (upd H T (.tup [x, y])) fun σ2 H2 => wipe σ2 vs = wipe σ vs ∧ tt σ2 H2 fun b H3 =>
      if b = true then te σ2 H3 fun y H4 => ∃ acc, H4 D = some (.lst acc) ∧ acc.length < sizeLine ∧ Pv (i + 1) (upd H4 D (.lst (acc ++ [y]))) else Pv (i + 1) H3) (hd : ∀ H, Pv xs.length H → Qd H) :
    ∃ W : Nat → Nat → Hp → Prop, (∃ m, W 0 m (upd H1 D (.lst []))) ∧ ∀ i m H, W i m H →
      ((Itz K a b).stop i H ∧ Qd H) ∨ ((Itz K a b).go i H ∧ ∃ Nx : Hp → Prop, (∀ H', Nx H' → ∃ m', m' < m ∧ W (i + 1) m' H') ∧ ∀ y H', (Itz K a b).yld i H y H' → g y (wipe σ vs) H' fun σ2 H2 => wipe σ2 vs = wipe σ vs ∧ tt σ2 H2 fun b H3 =>
        if b = true then te σ2 H3 fun y H4 => ∃ acc, H4 D = some (.lst acc) ∧ acc.length < sizeLine ∧ Nx (upd H4 D (.lst (acc ++ [y]))) else Nx H3) := by
  refine ⟨fun i m H => i + m = xs.length ∧ Pv i H, ⟨_, Nat.zero_add _, h0⟩, fun i m H ⟨hm, p⟩ => ?_⟩
  obtain ⟨q1, q2⟩ := hq i H p
  cases m with
  | zero =>
    have e : i = xs.length := by omega
    subst e
    exact .inl ⟨⟨xs, ys, q1, q2, .inl (Nat.le_refl _)⟩, hd H p⟩
  | succ m =>
    have h1 : i < xs.length := by omega
    have h2 : i < ys.length := by omega
    refine .inr ⟨⟨xs, ys, xs[i], ys[i], q1, q2, List.getElem?_eq_getElem h1, List.getElem?_eq_getElem h2⟩, Pv (i + 1), fun H' p' => ⟨m, Nat.lt_succ_self _, by omega, p'⟩, ?_⟩
    rintro z H' ⟨T, x, y, rfl, hT, rfl, hx, hy⟩
    exact hs i x y T H (hx xs q1) (hy ys q2) p hT
end
end Vf
end
section
set_option Elab.async false
set_option linter.all false
set_option maxRecDepth 100000
set_option maxHeartbeats 4000000
/-! Own exceptions as values: made, asked what they are, their fields read. -/
namespace Vf
open PySem PySem.Spec PyProof.Rows L2 GxR GenW RZ
theorem kin_classO {prog : Program} {w : World} {A : Around} {E : Value → Shared → Prop} {s : Shared} {K : PySem.W.Frag} {x D : Addr} {ox : Obj} {od : Option Obj} {Q : Option Value → Shared → Prop} (hga : PySem.W.findIn K (.ref D) "__getattribute__" = some (some (.builtin "BaseException.__getattribute__"))) (hgt : PySem.W.findIn K (.ref D) "__getattr__" = some none) (hsub : PySem.W.subIn K (.ref D) (.type "BaseException") = some true)
    (hf : PySem.W.findObj K D od "__class__" = some (.bind (.builtin "getset_descriptor.__get__") (.builtin "object.__class__"))) (hm : PySem.W.mroIn K D (.type "object") = some true)
    (X : K.In s.heap) (I : PySem.W.InstAt s.heap x ox D od) (h : Q (some (.ref D)) { s with toks := s.toks + 1 }) : wpAny (model prog w) A (getAttr? (.ref x) "__class__") Q E s := by
  obtain ⟨hp, g, d, t, os⟩ := s
  have L0 := I.type (M := model prog w)
  have L1 := PySem.W.looks_findIn (M := model prog w) X hga
  have L2 := PySem.W.looks_findIn (M := model prog w) X hgt
  have L3 := PySem.W.looks_find (M := model prog w) X I hf
  have sub : PySem.W.Looks (model prog w) hp (isInstance (.ref x) (.type "BaseException")) true := L0.andThen (PySem.W.looks_subIn X hsub)
  have hx0 : (false && onTheHeap (Value.builtin "BaseException.__getattribute__")) = false := rfl
  have hx2 : (Value.builtin "BaseException.__getattribute__" == Value.builtin "object.__getattribute__") = false := by decide +kernel
  have hx1 : (onTheHeap (Value.ref D) && Value.builtin "BaseException.__getattribute__" == Value.builtin "object.__getattribute__") = false := by rw [hx2]; rfl
  unfold getAttr? getAttrBy? getAttrBy
  refine wpAny_bind (wpAny_mkText (wpAny_bind (wpAny_attempt (wpAny_holding (wpAny_bind (L0.at (wpAny_bind (L1.at ?_))))))))
  show wpAny _ _ (if (onTheHeap (Value.ref D) && Value.builtin "BaseException.__getattribute__" == Value.builtin "object.__getattribute__") = true then _ else _) _ _ _
  rw [hx1, if_neg Bool.false_ne_true]
  unfold getAttrByItsOwn hookBefore
  refine wpAny_bind ?_
  rw [if_pos (show onTheHeap (Value.ref D) = true from rfl)]
  refine L2.at ?_
  refine wpAny_bind (wpAny_attempt (wpAny_holding ?_))
  unfold callGetattribute
  rw [hx0, if_neg Bool.false_ne_true]
  unfold boundAndCalled
  rw [PySem.F.excAttr_ValueError.ga.bind (.ref x)]
  refine wpAny_bind (wpAny_pure ?_)
  show wpAny _ _ (call (.builtin "BaseException.__getattribute__") [.ref x, .str "__class__" t]) _ _ _
  refine wpAny_call (codeAny_call_builtin PySem.F.excAttr_ValueError.ga.plain PySem.F.entry_bexc_ga ?_)
  refine @PySem.W.check_slot (model prog w) _ _ ⟨hp, g, d, t + 1, os⟩ "BaseException.__getattribute__" "BaseException" "__getattribute__" (.ref x) [.str "__class__" t] [] _ (by decide +kernel) (by decide +kernel) sub (PySem.F.args_bexc_ga (.ref x) (.str "__class__" t)) ?_
  unfold Builtin.«object.__getattribute__»
  refine wpAny_bind (wpAny_of_eq (a := ((Value.ref x : Value), [Value.str "__class__" t])) (by first | rfl | (simp only [slotArgs]; rfl)) ?_)
  refine wpAny_bind (wpAny_pure (wpAny_bind (L0.at (wpAny_bind (L3.at ?_)))))
  show wpAny _ _ (holding [Value.builtin "object.__class__"] (call (.builtin "getset_descriptor.__get__") [.builtin "object.__class__", .ref x, .ref D]) >>= ret) _ _ _
  refine wpAny_bind (wpAny_holding (wpAny_call (PySem.W.class_get (s := ⟨hp, g, d, t + 1, os⟩) (ox := ox) (od := od) X I hm ?_)))
  refine wpAny_pure ?_
  show wpAny _ _ (handedOut (.ref D)) _ _ _
  rw [PySem.W.handedOut_of (v := .ref D) rfl]
  first
    | exact wpAny_pure (wpAny_pure h)
    | exact wpAny_pure h
    | exact wpAny_pure (wpAny_bind (wpAny_pure (wpAny_pure h)))
theorem ExcC.find {K : PySem.W.Frag} {D : Addr} (c : ExcC K D) (od : Option Obj) : PySem.W.findObj K D od "__class__" = some (.bind (.builtin "getset_descriptor.__get__") (.builtin "object.__class__")) := by
  have hc : (PySem.W.clsIn K D).isSome = true := by
    have h := c.hd
    obtain ⟨cd, hcd, _⟩ := PySem.W.any_some h
    rw [hcd]; rfl
  cases od with
  | none => exact PySem.W.findObj_dataN hc c.ha c.hn c.ht
  | some o => exact PySem.W.findObj_data hc c.ha c.hn c.ht
theorem kitx_excO {K : PySem.W.Frag} {D x : Addr} {ox : Obj} {od : Option Obj} (c : ExcC K D) : PySem.W.KitX K (.ref x) (.ref D) (fun h => PySem.W.InstAt h x ox D od) where
  ty := fun _ _ _ I => I.type
  it := fun _ _ X _ => by
    obtain ⟨cdD, hcD, _⟩ := PySem.W.any_some c.hd
    unfold PySem.W.clsIn at hcD
    split at hcD
    · rename_i c' d' cd' sl' ho
      intro A' Q' E' s' k q
      unfold isType loadHead
      exact wpAny_bind (wpAny_loadPart (k _ _ (X _ _ ho)) (wpAny_pure q))
    · cases hcD
  ne := fun h tp dd its n sl X htp => by
    obtain ⟨cdD, hcD, _⟩ := PySem.W.any_some c.hd
    refine Bool.eq_false_iff.mpr fun q => ?_
    have e : D = tp := Value.ref.inj (beq_iff_eq.mp q)
    subst e
    unfold PySem.W.clsIn at hcD
    split at hcD
    · rename_i c' d' cd' sl' ho
      have z := (X _ _ ho).symm.trans htp
      cases z
    · cases hcD
  ca := fun X I k => kin_classO c.hg c.hk c.hs (ExcC.find c od) c.hm X I k
/-- at a: an exception object of the class at C -/
def IsEx (H : Hp) (a C : Addr) : Prop := H a = some (ExO (.ref C) a) ∨ ∃ d fs, H a = some (exo a C (some d)) ∧ H d = some (exd d fs)
section
variable {X : Cx}
structure rIsX (K : PySem.W.Frag) (xs : List V) (H : Hp) (Q : VK) : Prop where
  h : ∃ (a C : Addr) (c : V) (cv : Value) (b : Bool), xs = [.ref a, c] ∧ IsEx H a C ∧ ExcC K C ∧ ClsV c cv ∧ PySem.W.kitOne K (.ref C) cv = some b ∧ Q (.bl b) H
theorem call_isX {K : PySem.W.Frag} (hK : X.K = K) : CallR X (.builtin "isinstance") (rIsX K) := by
  subst hK
  intro pins s σ H xs us Q I r h
  obtain ⟨a, C, c, cv, b, rfl, hx, ec, kc, e, q⟩ := h.h
  obtain ⟨u1, u2, rfl, r1, r2⟩ := vals2 r
  have e2 := kc.eq r2
  subst e2
  cases r1
  have fin : ∀ (ox : Obj) (od : Option Obj), PySem.W.InstAt s.heap a ox C od → wpAny (model X.prog X.w) X.A (call (.builtin "isinstance") [.ref a, u2]) (EP X pins σ Q) X.xe s := fun ox od J =>
    PySem.W.kia_one (kitx_excO ec) I.kIn J e (fun z => nomatch z) fun tk => ⟨.bl b, H, I.tok tk, rfl, q⟩
  rcases hx with hx | ⟨d, fs, h1, h2⟩
  · obtain ⟨⟨oe, vs, ho, ⟨z1, z2⟩, hd, _⟩, _, _⟩ := I.hok a _ hx
    obtain ⟨oc, od, oda, osl⟩ := oe
    dsimp only at z1 z2 hd
    subst z1 z2 hd
    exact fin _ none ⟨ho, rfl, rfl, trivial⟩
  · obtain ⟨t1, ho⟩ := exo_at I.hok h1
    obtain ⟨mA, ⟨oD, es, ep, hoD, _⟩, _⟩ := exd_at I.hok h2
    exact fin _ (some oD) ⟨ho, rfl, rfl, hoD⟩
/-- e.f, e an exception that is held as a value -/
structure rFld (K : PySem.W.Frag) (f : Str) (x : V) (H : Hp) (Q : VK) : Prop where
  h : ∃ (a C d : Addr) (fs : List (Str × V)) (v : V), x = .ref a ∧ XfC K C ∧ PySem.W.findIn K (.ref C) f = some none ∧ H a = some (exo a C (some d)) ∧ H d = some (exd d fs) ∧ fs.lookup f = some v ∧ Q v H
theorem pe_fldX {K : PySem.W.Frag} {e : Expr} {te : TE} {pos : Pos} {n : Str} (hK : X.K = K) (he : PE X e te) (hb : attributeBase e n X.env (eval e X.env) = eval e X.env := by rfl) :
    PE X (.Attribute e n pos) (fun σ H Q => te σ H fun x H1 => rFld K n x H1 Q) := by
  subst hK
  refine ⟨fun pins s σ H Q I h => ?_⟩
  refine attr_of hb (thn (he.run pins s σ H _ I h) fun u s1 hh => ?_)
  obtain ⟨x, H1, I1, rx, q⟩ := hh
  obtain ⟨a, C, d, fs, v, rfl, T, hno, h1, h2, l, q⟩ := q.h
  cases rx
  obtain ⟨t1, ho⟩ := exo_at I1.hok h1
  obtain ⟨mA, hns, hr⟩ := exd_at I1.hok h2
  obtain ⟨od, hod, hl⟩ := lookIn_ns hns
  obtain ⟨u, hu, ru⟩ := RelO.some_of (v := v) (o := mA n) (by rw [← l]; exact hr n)
  have J : PySem.W.InstAt s1.heap a _ C (some od) := ⟨ho, rfl, rfl, hod⟩
  exact HandSPX.exc_get I1.kIn J T.ga T.gg T.exC (PySem.W.findObj_own T.hdC hno rfl (by rw [hl, hu])) (handed_of ru) ⟨v, H1, I1.tok _, ru, q⟩
/-- C(e, ..), C's own __init__ keeping sp, held as a value -/
def tMkV (C : Addr) (sp : Sp) (ta : TA) : TE := fun σ H Q => ta σ H fun vs H1 => vs.length ≤ 1000 ∧ ∀ a, H1 a = none → sp (.ref a :: vs) (upd H1 a (exo a C none)) (fun v H2 => v = .non ∧ Q (.ref a) H2) (fun _ _ _ => False)
structure DfI (P : Program) (w : World) (K : PySem.W.Frag) (mg : Str → Option Value) (base : Heap) (x : Str) (C : Addr) (k : Nat) (ps : List Str) (sp : Sp) : Prop where
  ex : ∃ (fI : Addr) (fd : FuncData), OexC K C ∧ mg x = some (.ref C) ∧ PySem.W.findIn K (.ref C) "__init__" = some (some (.ref fI)) ∧ PySem.W.typeIn K (.ref fI) = some (.type "function") ∧ FnOk P w K mg base CX0 k fI fd ps sp ∧ Binds K fd ps []
theorem pe_mkV {x : Str} {C : Addr} {k : Nat} {ps : List Str} {sp : Sp} {e : Expr} {es : List Expr} {ta : TA} {p pos : Pos} {j : Nat} (D : DfI X.prog X.w X.K X.mg X.base x C k ps sp) (hr : Room j X.A) (hj : k + 1 ≤ j) (hg : Gl X x) (ha : PA X (e :: es) ta)
    (hdb : (x == ("__debug__" : Str)) = false := by decide) (he : starEach (e :: es) X.env = (false, eval e X.env) :: starEach es X.env := by rfl) (hpl : (backTo pos (starEach es X.env)).any (·.1) = false := by rfl) :
    PE X (.Call (.Name x p) (e :: es) [] pos) (tMkV C sp ta) := by
  obtain ⟨fI, fd, T, hm, iC, tI, F1, hb⟩ := D.ex
  have hr := hr.mono hj
  refine ⟨fun pins s σ H Q I h => ?_⟩
  obtain ⟨nm, q, N, bs, bm, sn, sub, ab, col, dd, k0, k1, k2, k3, k5, hC, hbm⟩ := T.cls
  refine wpAny_Call_Name_kw (ld_glob I hg hm ?_ hdb)
  refine PySem.W.callWith_K (h₀ := X.base) I.ok.mod.kin T.kC (thn (ha.run pos pins s σ H _ I h) fun us s1 ⟨vs, H1, I1, r1, hz, q1⟩ => ⟨I1.kIn, ?_⟩) he hpl
  show wpAny _ _ (call (.ref C) us) _ _ _
  obtain ⟨hp, g, dr, tk, os⟩ := s1
  have hsz : hp.objs.size ≤ hp.objs.size + 1 := Nat.le_succ _
  have hn : H1 (hp.objs.size + 1) = none := I1.hok.fresh hsz
  have hq := q1 (hp.objs.size + 1) hn
  have kk : ∀ b o, hp.get? b = some o → ((hp.push (PySem.W.kdv_tup us)).push (PySem.HandSPX.excO C hp.objs.size)).get? b = some o := fun b o e => Heap.get?_push_of_some _ (Heap.get?_push_of_some _ e)
  have hget : ((hp.push (PySem.W.kdv_tup us)).push (PySem.HandSPX.excO C hp.objs.size)).get? (hp.objs.size + 1) = some (PySem.HandSPX.excO C hp.objs.size) := by heap_get
  have I2 : Inv X pins σ (upd H1 (hp.objs.size + 1) (exo (hp.objs.size + 1) C none)) ⟨(hp.push (PySem.W.kdv_tup us)).push (PySem.HandSPX.excO C hp.objs.size), g, dr, tk, os⟩ :=
    I1.laid (t' := tk) (a := hp.objs.size + 1) (o := exo (hp.objs.size + 1) C none) (h' := (hp.push (PySem.W.kdv_tup us)).push (PySem.HandSPX.excO C hp.objs.size)) kk hsz (exo_ok hget)
  have r2 : Vals (V.ref (hp.objs.size + 1) :: vs) (Value.ref (hp.objs.size + 1) :: us) := .cons rfl r1
  have hl : (Value.ref (hp.objs.size + 1) :: us).length = ps.length := by
    have e := r2.length
    rw [F1.len _ _ _ _ hq] at e
    exact e.symm
  have hus : us.length ≤ sizeLine := by
    rw [← Paired.length r1, sizeLine_eq]
    omega
  have hb' := hb _ (Value.ref (hp.objs.size + 1) :: us) I2.kIn (by rw [List.append_nil]; exact hl)
  rw [List.append_nil] at hb'
  refine wpAny_call (PySem.HandSPX.call_own F.excBase_ValueError (fun Y => PySem.HandSPX.refsVE_contains Y bm hbm) (I1.kIn _ _ hC) (PySem.W.looks_findIn I1.kIn iC) (fun self => PySem.W.bind_fn I1.kIn self tI) hus
    (codeAny_mono (F1.run _ X.stack _ _ ⟨Value.ref (hp.objs.size + 1) :: us, []⟩ (Value.ref (hp.objs.size + 1) :: us) _ _ (fun _ _ _ => False) (hr.make C us []) (I2.env0.make C us []) hb' r2 hq) fun r s' hq' => ?_))
  cases r with
  | error er => exact hq'.elim
  | ok fl =>
    cases fl with
    | ret u =>
      obtain ⟨v, H2, J, rv, ev, q2⟩ := I2.after hq'
      subst ev
      exact ⟨rv, V.ref (hp.objs.size + 1), H2, J, rfl, q2⟩
    | next => exact False.elim hq'
    | brk => exact False.elim hq'
    | cont => exact False.elim hq'
/-- C(e), C without own __init__, held as a value -/
structure DfX (K : PySem.W.Frag) (mg : Str → Option Value) (x : Str) (C : Addr) : Prop where
  m : mg x = some (.ref C)
  x : PySem.W.excIn K C [.type "ValueError", .type "Exception", .type "BaseException", .type "object"] "ValueError.__new__" = true
  k : PySem.W.keepIn K (.ref C) = true
theorem pe_mkX {x : Str} {C : Addr} {e : Expr} {ta : TE} {p pos : Pos} (D : DfX X.K X.mg x C) (hg : Gl X x) (he : PE X e ta) (hs : starEach [e] X.env = (false, eval e X.env) :: starEach [] X.env := by rfl) (hdb : (x == ("__debug__" : Str)) = false := by decide) :
    PE X (.Call (.Name x p) [e] [] pos) (fun σ H Q => ta σ H fun _ H1 => ∀ a, H1 a = none → Q (.ref a) (upd H1 a (ExO (.ref C) a))) :=
  pe_exc1 F.excBase_ValueError D.x D.m D.k hg he hs hdb
theorem k_unl {K : PySem.W.Frag} {es : List Expr} {k : Nat} {t : TGs} {pos : Pos} (n : Nat) (hK : X.K = K) (hc : X.calm = true) (h : PGs X es t)
    (hn : (assignEach es X.env).length = n := by rfl) (hst : (assignEach es X.env).findIdx? (·.1) = none := by rfl) : PG X (.Tuple es k pos) (gUnl K n t) := by
  subst hK
  exact pg_unl hc h hn hst
end
/-- what the class says, as one Bool -/
def oexB (K : PySem.W.Frag) (C : Addr) : Bool := (match K.lookup C with
  | some ⟨.type "type", _, .cls cd, sl⟩ => (match cd.mro, sl.toList with
    | .ref C' :: bm, [_, _, _, _, some (.builtin n), _] => decide (C' = C) && decide (n = "ValueError.__new__") && cd.hasDict && !cd.hasDel && PySem.HandSPX.refsVE bm
    | _, _ => false)
  | _ => false) && decide (PySem.W.findIn K (.ref C) "__setattr__" = some (some (.builtin "object.__setattr__"))) && decide (PySem.W.subIn K (.ref C) (.type "BaseException") = some true) && decide (PySem.W.typeIn K (.ref C) = some (.type "type")) && PySem.W.keepIn K (.ref C)
theorem oexB_ok {K : PySem.W.Frag} {C : Addr} (h : oexB K C = true) : OexC K C := by
  unfold oexB at h
  simp only [Bool.and_eq_true, decide_eq_true_eq] at h
  obtain ⟨⟨⟨⟨h1, h2⟩, h3⟩, h4⟩, h5⟩ := h
  refine ⟨?_, h2, h3, h4, h5⟩
  split at h1
  · rename_i dd cd sl ho
    split at h1
    · rename_i C' bm k0 k1 k2 k3 n k5 hm hs
      simp only [Bool.and_eq_true, decide_eq_true_eq, Bool.not_eq_true'] at h1
      obtain ⟨⟨⟨⟨e1, e2⟩, hd⟩, hdel⟩, hr⟩ := h1
      subst e1 e2
      obtain ⟨nm, bs, mro, ns, qn, hdct, sn, sub, ab, col, del⟩ := cd
      dsimp only at hm hd hdel
      subst hm hd hdel
      have hsl : sl = #[k0, k1, k2, k3, some (.builtin "ValueError.__new__"), k5] := by
        obtain ⟨l⟩ := sl
        simp only at hs
        rw [hs]
      subst hsl
      exact ⟨nm, qn, ns, bs, bm, sn, sub, ab, col, dd, k0, k1, k2, k3, k5, ho, hr⟩
    · cases h1
  · cases h1
def excCB (K : PySem.W.Frag) (D : Addr) : Bool := decide (PySem.W.findIn K (.ref D) "__getattribute__" = some (some (.builtin "BaseException.__getattribute__"))) && decide (PySem.W.findIn K (.ref D) "__getattr__" = some none) && decide (PySem.W.subIn K (.ref D) (.type "BaseException") = some true) && PySem.W.hasDictIn K D &&
  decide (PySem.W.findIn K (.ref D) "__class__" = some (some (.builtin "object.__class__"))) && decide (PySem.W.specialIn K (.builtin "object.__class__") "__get__" = some (some (.builtin "getset_descriptor.__get__"))) && decide (PySem.W.takesIn K (.builtin "object.__class__") = some true) && decide (PySem.W.mroIn K D (.type "object") = some true)
theorem excCB_ok {K : PySem.W.Frag} {D : Addr} (h : excCB K D = true) : ExcC K D := by
  unfold excCB at h
  simp only [Bool.and_eq_true, decide_eq_true_eq] at h
  obtain ⟨⟨⟨⟨⟨⟨⟨h1, h2⟩, h3⟩, h4⟩, h5⟩, h6⟩, h7⟩, h8⟩ := h
  exact ⟨h1, h2, h3, h4, h5, h6, h7, h8⟩
theorem ExcC.xf {K : PySem.W.Frag} {D : Addr} (c : ExcC K D) : XfC K D := ⟨c.hg, c.hk, c.hs, c.hd⟩
end Vf
end
section
set_option Elab.async false
set_option linter.all false
set_option maxRecDepth 100000
set_option maxHeartbeats 4000000
namespace Vf
open PySem PySem.Spec PyProof.Rows L2 GxR GenW
def top (i : Nat) : Stmt := PySem.Challenge.pw_clipforms_k06_errors.main.body.getD i (.Pass ⟨0, 0, 0, 0⟩)
abbrev s__law_churned : Stmt := top 25
abbrev n__law_churned : List Str := ["seed", "lap", "prime", "amount", "again"]
abbrev p__law_churned : List Str := ["seed", "lap"]
theorem sc__law_churned : FnScope n__law_churned p__law_churned (defScope s__law_churned) := ⟨rfl, rfl, rfl, by decide +kernel, rfl, by decide +kernel, by decide +kernel⟩

abbrev s__law_urn_of : Stmt := top 26
abbrev n__law_urn_of : List Str := ["script", "cell", "cells", "place"]
abbrev p__law_urn_of : List Str := ["script"]
theorem sc__law_urn_of : FnScope n__law_urn_of p__law_urn_of (defScope s__law_urn_of) := ⟨rfl, rfl, rfl, by decide +kernel, rfl, by decide +kernel, by decide +kernel⟩

abbrev s__law_upto : Stmt := top 27
abbrev n__law_upto : List Str := ["urn", "bound", "cells", "place", "amount", "found"]
abbrev p__law_upto : List Str := ["urn", "bound"]
theorem sc__law_upto : FnScope n__law_upto p__law_upto (defScope s__law_upto) := ⟨rfl, rfl, rfl, by decide +kernel, rfl, by decide +kernel, by decide +kernel⟩

abbrev s__law_choice : Stmt := top 28
abbrev n__law_choice : List Str := ["urn", "items"]
abbrev p__law_choice : List Str := ["urn", "items"]
theorem sc__law_choice : FnScope n__law_choice p__law_choice (defScope s__law_choice) := ⟨rfl, rfl, rfl, by decide +kernel, rfl, by decide +kernel, by decide +kernel⟩

abbrev s__law_equal : Stmt := top 29
abbrev n__law_equal : List Str := ["one", "other"]
abbrev p__law_equal : List Str := ["one", "other"]
theorem sc__law_equal : FnScope n__law_equal p__law_equal (defScope s__law_equal) := ⟨rfl, rfl, rfl, by decide +kernel, rfl, by decide +kernel, by decide +kernel⟩

/-- what the module's names are -/
structure TX (mg : Str → Option Value) : Prop where
  b_range : mg "range" = none
  b_abs : mg "abs" = none
  b_enumerate : mg "enumerate" = none
  b_len : mg "len" = none
  b_int : mg "int" = none
  b_repr : mg "repr" = none

local macro_rules | `(tactic| walk_at "rd") => `(tactic| repeat (first
  | refine ⟨_, rfl, ?_⟩ | refine a_ii ?_ | (refine m_ii (by first | exact .inl ⟨by decide, by decide⟩ | exact .inr ⟨by decide, by decide⟩) ?_) | refine md_ii (by decide) ?_ | refine sb_ii ?_ | refine l_ii ?_ | refine le_ii ?_ | refine ge_ii ?_ | refine gt_ii ?_ | refine e_flat rfl ?_ | refine n_flat rfl ?_))
/-! ### the urn -/
/-- an urn stands at u: what stays of it is that it holds a list of ints and three ints -/
def Urn (c : Addr) (H : Hp) (u : Addr) : Prop := ∃ (ns : List Int) (p a r : Int), H u = some (.lst [.ref c, .int p, .int a, .int r]) ∧ H c = some (.lst (ns.map V.int))
/-- grown, but for what stands at u -/
def GrU (u : Addr) (H H' : Hp) : Prop := ∀ b o, b ≠ u → H b = some o → (H' b = some o ∨ ∃ ps more, o = .tbl ps ∧ H' b = some (.tbl (ps ++ more)) ∧ (TriplesOk ps.toList → TriplesOk (ps ++ more).toList))
theorem GrU.refl (u : Addr) (H : Hp) : GrU u H H := fun _ _ _ h => .inl h
theorem Gr.u {u : Addr} {H H' : Hp} (g : Gr H H') : GrU u H H' := fun b o _ h => g b o h
theorem GrU.trans {u : Addr} {H H1 H2 : Hp} (a : GrU u H H1) (b : GrU u H1 H2) : GrU u H H2 := by
  intro c o hc h
  rcases a c o hc h with h1 | ⟨ps, m1, rfl, h1, t1⟩
  · exact b c o hc h1
  · rcases b c _ hc h1 with h2 | ⟨qs, m2, e, h2, t2⟩
    · exact .inr ⟨ps, m1, rfl, h2, t1⟩
    · cases e
      exact .inr ⟨ps, m1 ++ m2, rfl, by rw [← Array.append_assoc]; exact h2, fun z => by rw [← Array.append_assoc]; exact t2 (t1 z)⟩
theorem GrU.upd {u : Addr} {H H' : Hp} {o : HO} (g : GrU u H H') : GrU u H (upd H' u o) := fun b w hb h => by
  rw [upd_ne hb]
  exact g b w hb h
theorem GrU.keep {u : Addr} {H H' : Hp} (g : GrU u H H') {b : Addr} {o : HO} (hb : b ≠ u) (h : H b = some o) (n : ∀ ps, o ≠ .tbl ps) : H' b = some o := by
  rcases g b o hb h with h1 | ⟨ps, _, rfl, _⟩
  · exact h1
  · exact absurd rfl (n ps)
theorem urn_ne {H : Hp} {u c : Addr} {ns : List Int} {p a r : Int} (h1 : H u = some (.lst [.ref c, .int p, .int a, .int r])) (h2 : H c = some (.lst (ns.map V.int))) : c ≠ u := by
  rintro rfl
  rw [h1] at h2
  have e : ([.ref c, .int p, .int a, .int r] : List V) = ns.map V.int := by injection h2 with h2; injection h2
  cases ns with
  | nil => cases e
  | cons z zs =>
    rw [List.map_cons] at e
    injection e with e1 _
    cases e1
/-- what is no list of values stays so -/
theorem GrU.notu {u c : Addr} {H H' : Hp} (g : GrU u H H') (hu : Urn c H u) {b : Addr} {o : HO} (h : H b = some o) (n : ∀ xs, o ≠ .lst xs) (n2 : ∀ ps, o ≠ .tbl ps) : H' b = some o := by
  refine g.keep ?_ h n2
  rintro rfl
  obtain ⟨ns, p, a, r, h1, _⟩ := hu
  rw [h1] at h
  cases h
  exact n _ rfl

def spChurned : Sp := fun vs H Q _ => ∃ s l : Int, vs = [.int s, .int l] ∧ ∀ r : Int, Q (.int r) H
def spUrnOf (K : PySem.W.Frag) : Sp := fun vs H Q _ => ∃ (a : Addr) (ns : List Int), vs = [.ref a] ∧ SqL K H a (ns.map V.int) ∧ ns.length ≤ 63 ∧ ∀ u c H', H u = none → H c = none → Gr H H' → Urn c H' u → Q (.ref u) H'
def spUpto : Sp := fun vs H Q _ => ∃ (u c : Addr) (b : Int), vs = [.ref u, .int b] ∧ Urn c H u ∧ 0 < b ∧ b < 1073741824 ∧ ∀ r H', 0 ≤ r → r < b → GrU u H H' → Urn c H' u → Q (.int r) H'
def spChoice (K : PySem.W.Frag) : Sp := fun vs H Q _ => ∃ (u c it : Addr) (xs : List V), vs = [.ref u, .ref it] ∧ Urn c H u ∧ it ≠ u ∧ (SqL K H it xs ∨ SqT K H it xs) ∧ xs ≠ [] ∧ xs.length < 1073741824 ∧ ∀ x H', x ∈ xs → GrU u H H' → Urn c H' u → Q x H'
def spEqual (K : PySem.W.Frag) : Sp := fun vs H Q _ => ∃ (x y : V) (d e : PyData), vs = [x, y] ∧ Dd K H x d ∧ Dd K H y e ∧ (d.showable = true ∧ (d.hasDict = true → noLst d = true) ∧ d.depth < 60 ∧ d.shown.length ≤ sizeLine) ∧
  (e.showable = true ∧ (e.hasDict = true → noLst e = true) ∧ e.depth < 60 ∧ e.shown.length ≤ sizeLine) ∧ Q (.bl (decide (V.str d.shown = V.str e.shown))) H
section
variable {P : Program} {w : World} {K : PySem.W.Frag} {mg : Str → Option Value} {base : Heap}
abbrev FnP (K : PySem.W.Frag) (x : Str) (st : Stmt) (fd : FuncData) : Prop := FunD K x x (defArgs st) (defBody st) (defScope st) [] [] (He.fAd K (x, none)) fd
theorem ok_churned {fd : FuncData} (F : FnP K "_law_churned" s__law_churned fd) (T : TX mg) : FnOk P w K mg base CX0 1 (He.fAd K ("_law_churned", none)) fd p__law_churned spChurned := by
  refine okP F sc__law_churned (fun vs H Q E h => by obtain ⟨s, l, rfl, _⟩ := h; rfl) (fun A outer s H vs Q E hr h => ?_)
  obtain ⟨a, l, rfl, k⟩ := h
  refine ⟨_, (pss_cons (ps_set (i := 2) sc__law_churned.nd rfl (by first | exact Or.inl rfl | exact Or.inr rfl) pe_int)
      (pss_cons (ps_set (i := 3) sc__law_churned.nd rfl (by first | exact Or.inl rfl | exact Or.inr rfl) (pe_op u_mod (pe_op (u_add (K := K) rfl) (pe_op (u_add (K := K) rfl) (pe_op (u_mul (K := K) rfl) (pv 0) pe_int) (pe_op (u_mul (K := K) rfl) (pv 1) pe_int)) pe_int) (pv 2)))
      (pss_cons (ps_for PassesOwn.never rfl (pi_range1 rfl T.b_range (pa_cons pe_int pa_nil)) (pg_name (i := 4) sc__law_churned.nd rfl (by first | exact Or.inl rfl | exact Or.inr rfl))
      (pss_one (ps_set (i := 3) sc__law_churned.nd rfl (by first | exact Or.inl rfl | exact Or.inr rfl) (pe_op u_mod (pe_op (u_add (K := K) rfl) (pe_op (u_add (K := K) rfl) (pe_op (u_add (K := K) rfl) (pe_op (u_mul (K := K) rfl) (pv 3) (pv 3)) (pe_op (u_mul (K := K) rfl) pe_int (pv 3))) (pe_op (u_mul (K := K) rfl) pe_int (pv 4))) (pv 1)) (pv 2)))))
      (pss_one (ps_ret (pe_op (u_add (K := K) rfl) (pe_op (u_mul (K := K) rfl) (pv 3) (pv 2)) (pe_op u_mod (pe_op (u_add (K := K) rfl) (pe_op (u_mul (K := K) rfl) (pv 3) pe_int) (pv 1)) (pv 2)))))))), ?_⟩
  have hm : ∀ x : Int, x.fmod 2305843009213693921 < 2 ^ 64 ∧ -(2 ^ 64) < x.fmod 2305843009213693921 := fun x => by
    have h1 := Int.fmod_nonneg_of_pos x (b := 2305843009213693921) (by decide)
    have h2 := Int.fmod_lt_of_pos x (b := 2305843009213693921) (by decide)
    omega
  walk_at "rd"
  refine ⟨by decide, by decide, for_range (n := 4) (fun i σ H' => H' = H ∧ ∃ (x : Int) (o : Option V), σ = [some (.int a), some (.int l), some (.int 2305843009213693921), some (.int (x.fmod 2305843009213693921)), o]) ⟨rfl, _, _, rfl⟩ ?_ ?_⟩
  · rintro i σ H' hi ⟨rfl, x, o, rfl⟩
    have := hm x
    walk_at "rd"
    refine m_ii (.inl ⟨this.2, this.1⟩) ?_
    walk_at "rd"
    exact ⟨rfl, _, _, rfl⟩
  · rintro σ H' ⟨rfl, x, o, rfl⟩
    have := hm x
    walk_at "rd"
    exact k _

theorem urn_upd {H : Hp} {u c : Addr} {ns : List Int} {p a r p' a' r' : Int} (h1 : H u = some (.lst [.ref c, .int p, .int a, .int r])) (h2 : H c = some (.lst (ns.map V.int))) : Urn c (upd H u (.lst [.ref c, .int p', .int a', .int r'])) u :=
  ⟨ns, p', a', r', upd_same, by rw [upd_ne (urn_ne h1 h2)]; exact h2⟩
theorem dp_ints {H : Hp} : ∀ ns : List Int, DpAll K H (ns.map V.int) (ns.map PyData.int)
  | [] => .nil
  | z :: zs => .cons (.int z) (dp_ints zs)
theorem lay_ints : ∀ ns : List Int, PyData.canLayAll0 (ns.map PyData.int) = true
  | [] => rfl
  | z :: zs => by
    show (PyData.canLay0 (.int z) && PyData.canLayAll0 (zs.map PyData.int)) = true
    rw [lay_ints zs]; rfl
theorem dep_ints : ∀ ns : List Int, PyData.depthAll (ns.map PyData.int) ≤ 1
  | [] => Nat.zero_le _
  | z :: zs => by
    have := dep_ints zs
    simp only [List.map_cons, PyData.depthAll, PyData.depth]
    omega
theorem shp_ints (ns : List Int) : SeqAt.shaped (.list (ns.map PyData.int)) = true := by
  unfold SeqAt.shaped
  have h1 : PyData.canLay0 (.list (ns.map PyData.int)) = true := lay_ints ns
  have h2 := dep_ints ns
  have h3 : PyData.depth (.list (ns.map PyData.int)) ≤ 64 := by simp only [PyData.depth]; omega
  rw [h1, decide_eq_true h3]; rfl
theorem ok_upto {fd : FuncData} (F : FnP K "_law_upto" s__law_upto fd) (T : TX mg) (D__law_churned : Df P w K mg base "_law_churned" 1 p__law_churned spChurned) : FnOk P w K mg base CX0 2 (He.fAd K ("_law_upto", none)) fd p__law_upto spUpto := by
  refine okP F sc__law_upto (fun vs H Q E h => by obtain ⟨s, c, l, rfl, _⟩ := h; rfl) (fun A outer s H vs Q E hr h => ?_)
  obtain ⟨u, c, b, rfl, ⟨ns, p, a, r, h1, h2⟩, hb, hb2, k⟩ := h
  have hcu := urn_ne h1 h2
  refine ⟨_, (C8.pss_cut (ps_if (pt_cmpR u_lt (pe_ix (u_ix (K := K) rfl) (pv 0) pe_int (fun _ _ => rfl)) (pv 1) (nomark _))
      (pss_cons (ps_par (i := 2) (j := 3) (by rfl) sc__law_upto.nd rfl rfl (by decide) rfl rfl (pa_cons (pe_ix (u_ix (K := K) rfl) (pv 0) pe_int (fun _ _ => rfl)) (pa_cons (pe_ix (u_ix (K := K) rfl) (pv 0) pe_int (fun _ _ => rfl)) pa_nil)) (by rfl))
      (C8.pss_cut (ps_set (i := 4) sc__law_upto.nd rfl (by first | exact Or.inl rfl | exact Or.inr rfl) (pe_ifExp (pt_cmpR (u_ne (K := K) rfl hr.units) (pv 2) (pe_lst pa_nil) (nomark _)) (pe_ix (u_ix (K := K) rfl) (pv 2) (pe_op u_mod (pv 3) (pe_callB (k_len (K := K) rfl) rfl T.b_len (by decide +kernel) (pa_cons (pv 2) pa_nil))) (fun _ _ => rfl)) pe_int))
      (C8.pss_cut (ps_if (PW.pt (pw_or (pt_cmpR u_ge (pv 3) (pe_callB (k_len (K := K) rfl) rfl T.b_len (by decide +kernel) (pa_cons (pv 2) pa_nil)) (nomark _)) (pw_or1 (pt_cmpR u_lt (pv 4) (pe_op u_pow pe_int pe_int) (nomark _)))))
      (pss_one (ps_set (i := 4) sc__law_upto.nd rfl (by first | exact Or.inl rfl | exact Or.inr rfl) (pe_fn D__law_churned hr (by decide) rfl (pa_cons (pe_op u_mod (pe_callTy call_int1 rfl T.b_int (by decide +kernel) (pa_cons (pv 4) pa_nil)) pe_int) (pa_cons (pv 3) pa_nil)))))
      pss_nil)
      (pss_cons (ps_asg (pe_op (u_add (K := K) rfl) (pv 3) pe_int) (pg_sub (pv 0) pe_int set_list))
      (pss_cons (ps_asg (pv 4) (pg_sub (pv 0) pe_int set_list))
      (pss_one (ps_asg (pv 4) (pg_sub (pv 0) pe_int set_list))))))))
      pss_nil)
      (pss_cons (ps_set (i := 5) sc__law_upto.nd rfl (by first | exact Or.inl rfl | exact Or.inr rfl) (pe_op u_mod (pe_callTy call_int1 rfl T.b_int (by decide +kernel) (pa_cons (pe_ix (u_ix (K := K) rfl) (pv 0) pe_int (fun _ _ => rfl)) pa_nil)) (pv 1)))
      (pss_cons (ps_asg (pe_op u_fdiv (pe_ix (u_ix (K := K) rfl) (pv 0) pe_int (fun _ _ => rfl)) (pv 1)) (pg_sub (pv 0) pe_int set_list))
      (pss_cons (ps_asg (pe_op u_fdiv (pe_ix (u_ix (K := K) rfl) (pv 0) pe_int (fun _ _ => rfl)) (pv 1)) (pg_sub (pv 0) pe_int set_list))
      (pss_one (ps_ret (pv 5))))))), ?_⟩
  refine ⟨fun σ H' => ∃ x y z o3 o4, (∃ o2, σ = [some (.ref u), some (.int b), o2, o3, o4, none]) ∧ GrU u H H' ∧ H' u = some (.lst [.ref c, .int x, .int y, .int z]) ∧ H' c = some (.lst (ns.map V.int)), ?_, ?_⟩
  · refine ⟨_, rfl, x_l (SqL.of h1) rfl ⟨_, rfl, l_ii ⟨_, rfl, ite2 (fun _ => ?_) (fun _ => ?_)⟩⟩⟩
    · refine ⟨_, rfl, x_l (SqL.of h1) rfl ⟨_, rfl, x_l (SqL.of h1) rfl ⟨_, _, rfl, ?_⟩⟩⟩
      -- amount
      refine ⟨fun σ H' => ∃ v : Int, σ = [some (.ref u), some (.int b), some (.ref c), some (.int p), some (.int v), none] ∧ GrU u H H' ∧ H' u = some (.lst [.ref c, .int p, .int a, .int r]) ∧ H' c = some (.lst (ns.map V.int)), ?_, ?_⟩
      · refine ⟨_, rfl, Nat.zero_le _, fun l hl => ?_⟩
        have g1 : Gr H (upd H l (.lst [])) := Gr.new hl
        have e1 : upd H l (.lst []) u = some (.lst [.ref c, .int p, .int a, .int r]) := by rw [upd_ne (ne_of_none h1 hl)]; exact h1
        have e2 : upd H l (.lst []) c = some (.lst (ns.map V.int)) := by rw [upd_ne (ne_of_none h2 hl)]; exact h2
        refine n_data (Dp.lst (SqL.of e2) (dp_ints ns)) (Dp.lst (SqL.of upd_same) .nil) (shp_ints ns) rfl ⟨_, rfl, ?_⟩
        refine ite2 (fun hne => ?_) (fun _ => ⟨0, rfl, g1.u, e1, e2⟩)
        have hpos : 0 < ns.length := by
          cases ns with
          | nil => simp [PyData.eqv, PyData.eqvAll] at hne
          | cons z zs => exact Nat.succ_pos _
        refine ⟨_, rfl, _, rfl, _, rfl, _, _, rfl, .inl ⟨_, SqL.of e2, rfl⟩, ?_⟩
        refine md_ii (by rw [List.length_map]; omega) ?_
        have q0 := Int.fmod_nonneg_of_pos p (b := ((ns.map V.int).length : Int)) (by rw [List.length_map]; omega)
        have q1 := Int.fmod_lt_of_pos p (b := ((ns.map V.int).length : Int)) (by rw [List.length_map]; omega)
        obtain ⟨j, hj⟩ := Int.eq_ofNat_of_zero_le q0
        have hjl : j < ns.length := by
          rw [hj, List.length_map] at q1
          omega
        rw [hj]
        exact x_l (SqL.of e2) (atI_nat (v := .int ns[j]) (by rw [List.getElem?_map, List.getElem?_eq_getElem hjl]; rfl)) ⟨_, rfl, g1.u, e1, e2⟩
      · rintro σ H1 ⟨v, rfl, g1, e1, e2⟩
        -- the churned one
        refine ⟨fun σ H' => ∃ v : Int, σ = [some (.ref u), some (.int b), some (.ref c), some (.int p), some (.int v), none] ∧ H' = H1, ?_, ?_⟩
        · refine ⟨_, rfl, _, rfl, _, _, rfl, .inl ⟨_, SqL.of e2, rfl⟩, ge_ii ⟨_, rfl, ?_⟩⟩
          refine ite2 (fun _ => ?_) (fun _ => ?_)
          · refine ⟨_, rfl, .inl ⟨_, rfl, md_ii (by decide) ⟨_, rfl, _, _, rfl, fun z => ⟨z, rfl, rfl⟩⟩⟩⟩
          · refine ⟨_, rfl, pw_ii ⟨by decide, by decide, by decide⟩ (l_ii ⟨_, rfl, ite2 (fun _ => ?_) (fun _ => ⟨v, rfl, rfl⟩)⟩)⟩
            refine ⟨_, rfl, .inl ⟨_, rfl, md_ii (by decide) ⟨_, rfl, _, _, rfl, fun z => ⟨z, rfl, rfl⟩⟩⟩⟩
        · rintro σ H2 ⟨v, rfl, rfl⟩
          have hcu' := urn_ne e1 e2
          refine ⟨_, rfl, a_ii ⟨_, rfl, _, _, _, _, rfl, rfl, e1, rfl, ?_⟩⟩
          refine ⟨_, rfl, _, rfl, _, _, _, _, rfl, rfl, upd_same, rfl, ?_⟩
          rw [upd_upd]
          refine ⟨_, rfl, _, rfl, _, _, _, _, rfl, rfl, upd_same, rfl, ?_⟩
          rw [upd_upd]
          exact ⟨p + 1, v, v, some (.int p), some (.int v), ⟨some (.ref c), rfl⟩, g1.upd, upd_same, by rw [upd_ne hcu']; exact e2⟩
    · exact ⟨p, a, r, none, none, ⟨none, rfl⟩, GrU.refl _ _, h1, h2⟩
  · rintro σ H' ⟨x, y, z, o3, o4, ⟨o2, rfl⟩, g, e1, e2⟩
    refine ⟨_, rfl, x_l (SqL.of e1) rfl (.inl ⟨_, rfl, ⟨_, rfl, md_ii (by omega) ?_⟩⟩)⟩
    refine ⟨_, rfl, x_l (SqL.of e1) rfl ⟨_, rfl, f_ii ⟨by omega, by omega⟩ ⟨_, rfl, _, _, _, _, rfl, rfl, e1, rfl, ?_⟩⟩⟩
    refine ⟨_, rfl, x_l (SqL.of upd_same) rfl ⟨_, rfl, f_ii ⟨by omega, by omega⟩ ⟨_, rfl, _, _, _, _, rfl, rfl, upd_same, rfl, ?_⟩⟩⟩
    rw [upd_upd]
    refine ⟨_, rfl, k _ _ (Int.fmod_nonneg_of_pos _ hb) (Int.fmod_lt_of_pos _ hb) g.upd ?_⟩
    exact urn_upd e1 e2

theorem ok_choice {fd : FuncData} (F : FnP K "_law_choice" s__law_choice fd) (T : TX mg) (D__law_upto : Df P w K mg base "_law_upto" 2 p__law_upto spUpto) : FnOk P w K mg base CX0 3 (He.fAd K ("_law_choice", none)) fd p__law_choice (spChoice K) := by
  refine okP F sc__law_choice (fun vs H Q E h => by obtain ⟨s, c, l, xs, rfl, _⟩ := h; rfl) (fun A outer s H vs Q E hr h => ?_)
  obtain ⟨u, c, it, xs, rfl, hu, hit, hs, hne, hl, k⟩ := h
  have hpos : 0 < xs.length := List.length_pos_iff.mpr hne
  refine ⟨_, (pss_one (ps_ret (pe_ix (u_ix (K := K) rfl) (pv 1) (pe_fn D__law_upto hr (by decide) rfl (pa_cons (pv 0) (pa_cons (pe_callB (k_len (K := K) rfl) rfl T.b_len (by decide +kernel) (pa_cons (pv 1) pa_nil)) pa_nil))) (fun _ _ => rfl)))), ?_⟩
  have lv : LenV K (.ref it) H xs.length := by
    rcases hs with hs | hs
    · exact .inl ⟨_, hs, rfl⟩
    · exact .inr ⟨_, hs, rfl⟩
  refine ⟨_, rfl, _, rfl, _, rfl, _, _, rfl, lv, ?_⟩
  refine ⟨u, c, _, rfl, hu, by omega, by omega, fun r H' h0 h1 g hu' => ?_⟩
  obtain ⟨j, rfl⟩ := Int.eq_ofNat_of_zero_le h0
  have hj : j < xs.length := by omega
  have hs' : SqL K H' it xs ∨ SqT K H' it xs := by
    rcases hs with ((hs | ⟨o, hs⟩) | hs) | ((hs | ⟨o, hs⟩) | hs)
    · exact .inl (.inl (.inl (g.keep hit hs (fun _ z => by cases z))))
    · exact .inl (.inl (.inr ⟨o, g.keep hit hs (fun _ z => by cases z)⟩))
    · exact .inl (.inr hs)
    · exact .inr (.inl (.inl (g.keep hit hs (fun _ z => by cases z))))
    · exact .inr (.inl (.inr ⟨o, g.keep hit hs (fun _ z => by cases z)⟩))
    · exact .inr (.inr hs)
  have e := atI_nat (xs := xs) (List.getElem?_eq_getElem hj)
  rcases hs' with hs' | hs'
  · exact x_l hs' e (k _ _ (List.getElem_mem hj) g hu')
  · exact x_t hs' e (k _ _ (List.getElem_mem hj) g hu')
theorem ok_equal {fd : FuncData} (F : FnP K "_law_equal" s__law_equal fd) (T : TX mg) : FnG P w K mg base CX0 1 (He.fAd K ("_law_equal", none)) fd p__law_equal (spEqual K) := by
  refine okQ F sc__law_equal (fun vs H Q E h => by obtain ⟨x, y, d, e, rfl, _⟩ := h; rfl) (fun A outer s H vs Q E hgu hr h => ?_)
  obtain ⟨x, y, d, e, rfl, hx, hy, ⟨d1, d2, d3, d4⟩, ⟨e1, e2, e3, e4⟩, k⟩ := h
  refine ⟨_, (pss_one (ps_ret (pe_cmpR (u_eq (K := K) rfl hr.units) (pe_callB (call_reprD hgu hr.units) rfl T.b_repr (by decide +kernel) (pa_cons (pv 0) pa_nil)) (pe_callB (call_reprD hgu hr.units) rfl T.b_repr (by decide +kernel) (pa_cons (pv 1) pa_nil)) (nomark _)))), ?_⟩
  exact ⟨_, rfl, _, _, rfl, hx, d1, d2, d3, d4, _, rfl, _, _, rfl, hy, e1, e2, e3, e4, e_flat rfl k⟩
theorem cut18 {xs : List V} {i : Nat} {x : V} (h : (cutV xs (some 18) (some 60))[i]? = some x) : (cutV xs none (some 18)).length = 18 := by
  have q := (List.getElem?_eq_some_iff.mp h).1
  have e1 : HT.sIx xs.length 0 (some 18) = min 18 xs.length := HT.sIx_nat _ _ 18
  have e2 : HT.sIx xs.length xs.length (some 18) = min 18 xs.length := HT.sIx_nat _ _ 18
  have e3 : HT.sIx xs.length xs.length (some 60) = min 60 xs.length := HT.sIx_nat _ _ 60
  unfold cutV at q ⊢
  rw [List.length_take, List.length_drop] at q ⊢
  rw [e1, e3] at q
  rw [e2, HT.sIx_none]
  omega
theorem ixN_nat {n j : Nat} (h : j < n) : ixN n (j : Int) = some j := by
  unfold ixN
  rw [if_pos (by omega), if_pos (by omega), Int.toNat_natCast]
theorem cut_len (xs : List V) (lo hi : Option Int) : (cutV xs lo hi).length ≤ xs.length := cutV_length xs lo hi
theorem cut_int {ns : List Int} {lo hi : Option Int} {i : Nat} {x : V} (h : (cutV (ns.map V.int) lo hi)[i]? = some x) : ∃ z, x = .int z := by
  have hm := List.mem_of_getElem? h
  unfold cutV at hm
  have h1 := List.mem_of_mem_drop (List.mem_of_mem_take hm)
  obtain ⟨z, _, e⟩ := List.mem_map.mp h1
  exact ⟨z, e.symm⟩
theorem ok_urn_of {fd : FuncData} (F : FnP K "_law_urn_of" s__law_urn_of fd) (T : TX mg) : FnOk P w K mg base CX0 1 (He.fAd K ("_law_urn_of", none)) fd p__law_urn_of (spUrnOf K) := by
  refine okP F sc__law_urn_of (fun vs H Q E h => by obtain ⟨a, ns, rfl, _⟩ := h; rfl) (fun A outer s H vs Q E hr h => ?_)
  obtain ⟨a, ns, rfl, hS, hl, k⟩ := h
  refine ⟨_, (pss_cons (ps_setLc (i := 2) (own := [("cell", 1)]) (g := gName 1) (tt := tYes) rfl sc__law_urn_of.nd rfl rfl (sw_true rfl rfl rfl (by decide +kernel)) (k_list (K := K) rfl (pe_slice (u_sl (K := K) rfl) (pv 0) po_none (po_some pe_int))) (blkOk_by (own := [("cell", 1)]) (N := n__law_urn_of) (sc := defScope s__law_urn_of) (by decide +kernel)) (fun _ _ _ _ _ => (pg_name (i := 1) sc__law_urn_of.nd rfl (by first | exact Or.inl rfl | exact Or.inr rfl))) (fun _ _ _ _ _ => pts_nil) (fun _ _ _ _ _ => (pe_callB call_abs rfl T.b_abs (by decide +kernel) (pa_cons (pv 1) pa_nil))))
      (pss_cons (ps_for PassesOwn.never rfl (k_enum (K := K) rfl rfl T.b_enumerate (pa_cons (pe_slice (u_sl (K := K) rfl) (pv 0) (po_some pe_int) (po_some pe_int)) pa_nil)) (kg_tup 2 (K := K) rfl rfl (pgs_cons (pg_name (i := 3) sc__law_urn_of.nd rfl (by first | exact Or.inl rfl | exact Or.inr rfl)) (pgs_cons (pg_name (i := 1) sc__law_urn_of.nd rfl (by first | exact Or.inl rfl | exact Or.inr rfl)) pgs_nil)))
      (pss_one (ps_asg (pe_op (u_add (K := K) rfl) (pe_ix (u_ix (K := K) rfl) (pv 2) (pe_op u_mod (pv 3) pe_int) (fun _ _ => rfl)) (pe_callB call_abs rfl T.b_abs (by decide +kernel) (pa_cons (pv 1) pa_nil))) (pg_sub (pv 2) (pe_op u_mod (pv 3) pe_int) set_list))))
      (pss_one (ps_ret (pe_lst (pa_cons (pv 2) (pa_cons pe_int (pa_cons pe_int (pa_cons pe_int pa_nil))))))))), ?_⟩
  -- cells = [abs(cell) for cell in script[:18]]
  refine ⟨_, rfl, _, rfl, sl_l hS fun p hp => ⟨p, rfl, ⟨_, SqL.of upd_same⟩, fun D hD => ?_⟩⟩
  have g1 : Gr H (upd H p (.lst (cutV (ns.map V.int) none (some 18)))) := Gr.new hp
  have hpD : p ≠ D := ne_of_none (upd_same (H := H)) hD
  refine lc_list (K := K) (a := p) (xs := cutV (ns.map V.int) none (some 18)) (fun i H' => ∃ zs : List Int, zs.length = i ∧ H' = upd (upd H p (.lst (cutV (ns.map V.int) none (some 18)))) D (.lst (zs.map V.int))) ⟨[], rfl, rfl⟩ ?_ ?_ ?_
  · rintro i H' _ ⟨zs, _, rfl⟩
    exact SqL.of (by rw [upd_ne hpD]; exact upd_same)
  · rintro i x H' hx ⟨zs, hz, rfl⟩
    obtain ⟨z, rfl⟩ := cut_int hx
    refine ⟨rfl, ?_⟩
    refine ⟨_, rfl, z, rfl, zs.map V.int, upd_same, ?_, zs ++ [if z < 0 then -z else z], by rw [List.length_append, hz]; rfl, ?_⟩
    · have := (List.getElem?_eq_some_iff.mp hx).1
      have h2 := cut_len (ns.map V.int) none (some 18)
      rw [List.length_map] at h2 ⊢
      rw [sizeLine_eq]
      omega
    · rw [upd_upd, List.map_append]; rfl
  rintro H' ⟨zs, hz, rfl⟩
  have g2 : Gr H (upd (upd H p (.lst (cutV (ns.map V.int) none (some 18)))) D (.lst (zs.map V.int))) := g1.trans (Gr.new hD)
  have hD0 : H D = none := Gr.free g1 hD
  -- the others are folded in
  refine ⟨_, rfl, _, rfl, _, rfl, sl_l (g2.seqL hS) fun p2 hp2 => ⟨_, _, rfl, SqL.of upd_same, ?_⟩⟩
  have n2 : D ≠ p2 := ne_of_none upd_same hp2
  refine for_enum (xs := cutV (ns.map V.int) (some 18) (some 60)) (fun i σ H' => ∃ (ys : List Int) (o1 o3 : Option V), σ = [some (.ref a), o1, some (.ref D), o3] ∧ ys.length = zs.length ∧ Gr H H' ∧ H' D = some (.lst (ys.map V.int)) ∧ H' p2 = some (.lst (cutV (ns.map V.int) (some 18) (some 60))))
    ⟨zs, _, _, rfl, rfl, g2.trans (Gr.new hp2), by rw [upd_ne n2]; exact upd_same, upd_same⟩ ?_ ?_ ?_
  · rintro i σ H' _ ⟨ys, o1, o3, rfl, _, _, _, h⟩
    exact SqL.of h
  · rintro i x T σ H' hx ⟨ys, o1, o3, rfl, hy, g, h1, h2⟩ hT
    obtain ⟨z, rfl⟩ := cut_int hx
    have h18 : zs.length = 18 := hz.trans (cut18 hx)
    have e1 : upd H' T (.tup [.int (i : Nat), .int z]) D = some (.lst (ys.map V.int)) := by rw [upd_ne (ne_of_none h1 hT)]; exact h1
    have e2 : upd H' T (.tup [.int (i : Nat), .int z]) p2 = some (.lst (cutV (ns.map V.int) (some 18) (some 60))) := by rw [upd_ne (ne_of_none h2 hT)]; exact h2
    refine ⟨_, _, rfl, SqT.of upd_same, rfl, _, _, rfl, _, _, rfl, rfl, ?_⟩
    have q0 := Int.fmod_nonneg_of_pos (i : Int) (b := 18) (by decide)
    have q1 := Int.fmod_lt_of_pos (i : Int) (b := 18) (by decide)
    obtain ⟨j, hj⟩ := Int.eq_ofNat_of_zero_le q0
    have hj2 : j < ys.length := by omega
    refine ⟨_, rfl, _, rfl, md_ii (by decide) ?_⟩
    rw [hj]
    refine x_l (SqL.of e1) (atI_nat (v := .int ys[j]) (by rw [List.getElem?_map, List.getElem?_eq_getElem hj2]; rfl)) ⟨_, rfl, z, rfl, a_ii ?_⟩
    refine ⟨_, rfl, _, rfl, md_ii (by decide) ?_⟩
    rw [hj]
    refine ⟨_, _, _, j, rfl, rfl, e1, ?_, ys.set j (ys[j] + (if z < 0 then -z else z)), _, _, rfl, by rw [List.length_set]; exact hy, (g.trans (Gr.new hT)).upd' hD0, ?_, ?_⟩
    · rw [List.length_map]
      exact ixN_nat hj2
    · rw [upd_same, List.map_set]
    · rw [upd_ne (Ne.symm n2)]; exact e2
  · rintro σ H' ⟨ys, o1, o3, rfl, hy, g, h1, h2⟩
    refine ⟨_, rfl, by show 4 ≤ sizeLine; rw [sizeLine_eq]; decide, fun u hu => ?_⟩
    refine k u D _ (g.free hu) hD0 (g.trans (Gr.new hu)) ⟨ys, 0, 0, 0, upd_same, by rw [upd_ne (ne_of_none h1 hu)]; exact h1⟩
end
end Vf
end
section
set_option Elab.async false
set_option linter.all false
set_option maxRecDepth 100000
set_option maxHeartbeats 4000000
namespace Vf
open PySem PySem.Spec PyProof.Rows L2 GxR GenW RZ
def strV : List Str → List V := List.map V.str
/-- more of the module's names -/
abbrev tb (K : PySem.W.Frag) (x : Str) : Addr := He.tabOf K (He.codeOf K (x, none))
abbrev TBx (K : PySem.W.Frag) (mg : Str → Option Value) (base : Heap) (x : Str) : Prop := TabB base mg (He.codeOf K (x, none)) (tb K x)

/-! ### what they say -/
theorem str_at {ts : List Str} {i : Nat} {x : V} (hx : (strV ts)[i]? = some x) : ∃ t, ts[i]? = some t ∧ x = .str t := by
  unfold strV at hx
  rw [List.getElem?_map] at hx
  cases e : ts[i]? with
  | none => rw [e] at hx; cases hx
  | some t => rw [e] at hx; exact ⟨t, rfl, (Option.some.inj hx).symm⟩
theorem isStr_iff {d : PyData} : isaD "str" d = true ↔ ∃ x, d = .str x := by
  cases d <;> simp [isaD]
theorem ddA_len {K : PySem.W.Frag} {H : Hp} : ∀ {xs : List V} {ds : List PyData}, DdAll K H xs ds → xs.length = ds.length
  | _, [], h => by cases h; rfl
  | _, d :: ds, h => by
    cases h with
    | cons _ h2 => rw [List.length_cons, List.length_cons, ddA_len h2]
theorem ddA_at {K : PySem.W.Frag} {H : Hp} : ∀ {xs : List V} {ds : List PyData} {i : Nat} {x : V}, DdAll K H xs ds → xs[i]? = some x → ∃ d, ds[i]? = some d ∧ Dd K H x d
  | _, [], i, x, h, e => by cases h; simp at e
  | _, d :: ds, 0, x, h, e => by
    cases h with
    | cons h1 h2 => simp at e; subst e; exact ⟨d, rfl, h1⟩
  | _, d :: ds, i + 1, x, h, e => by
    cases h with
    | cons h1 h2 =>
      obtain ⟨d', e', q⟩ := ddA_at (i := i) h2 (by simpa using e)
      exact ⟨d', by simpa using e', q⟩
def strsOf : List PyData → Option (List Str)
  | [] => some []
  | .str x :: r => (strsOf r).map (x :: ·)
  | _ => none
theorem strsOf_len : ∀ {ds : List PyData} {ts : List Str}, strsOf ds = some ts → ts.length = ds.length
  | [], _, h => by cases h; rfl
  | .str x :: r, ts, h => by
    have h : (strsOf r).map (x :: ·) = some ts := h
    cases q : strsOf r with
    | none => rw [q] at h; cases h
    | some us =>
      rw [q] at h
      cases h
      rw [List.length_cons, List.length_cons, strsOf_len q]
  | .none :: _, _, h => by cases h
  | .bool _ :: _, _, h => by cases h
  | .int _ :: _, _, h => by cases h
  | .list _ :: _, _, h => by cases h
  | .tuple _ :: _, _, h => by cases h
  | .dict _ :: _, _, h => by cases h
theorem strsOf_mem : ∀ {ds : List PyData} {ts : List Str}, strsOf ds = some ts → ∀ t ∈ ts, PyData.str t ∈ ds
  | [], _, h, t, ht => by cases h; cases ht
  | .str x :: r, ts, h, t, ht => by
    have h : (strsOf r).map (x :: ·) = some ts := h
    cases q : strsOf r with
    | none => rw [q] at h; cases h
    | some us =>
      rw [q] at h
      cases h
      rcases List.mem_cons.mp ht with rfl | ht
      · exact List.mem_cons_self
      · exact List.mem_cons_of_mem _ (strsOf_mem q t ht)
  | .none :: _, _, h, _, _ => by cases h
  | .bool _ :: _, _, h, _, _ => by cases h
  | .int _ :: _, _, h, _, _ => by cases h
  | .list _ :: _, _, h, _, _ => by cases h
  | .tuple _ :: _, _, h, _, _ => by cases h
  | .dict _ :: _, _, h, _, _ => by cases h
theorem strs_all {K : PySem.W.Frag} {H : Hp} : ∀ {xs : List V} {ds : List PyData}, DdAll K H xs ds → (∀ d ∈ ds, isaD "str" d = true) → ∃ ts, xs = strV ts ∧ strsOf ds = some ts
  | _, [], h, _ => by cases h; exact ⟨[], rfl, rfl⟩
  | _, d :: ds, h, k => by
    cases h with
    | cons h1 h2 =>
      obtain ⟨ts, e1, e2⟩ := strs_all h2 fun z hz => k z (List.mem_cons_of_mem _ hz)
      obtain ⟨x, rfl⟩ := isStr_iff.mp (k d List.mem_cons_self)
      cases h1
      refine ⟨x :: ts, by rw [e1]; rfl, ?_⟩
      show (strsOf ds).map (x :: ·) = _
      rw [e2]; rfl
theorem strs_none : ∀ {ds : List PyData}, (∃ d ∈ ds, isaD "str" d = false) → strsOf ds = none
  | [], ⟨d, h, _⟩ => by simp at h
  | d :: ds, ⟨z, hz, e⟩ => by
    rcases List.mem_cons.mp hz with rfl | hz
    · cases z <;> first | rfl | simp [isaD] at e
    · have ih := strs_none ⟨z, hz, e⟩
      cases d <;> first | rfl | (show (strsOf ds).map _ = none; rw [ih]; rfl)
theorem k_bm {X : Cx} {K : PySem.W.Frag} {T name id : String} {r : V → List V → Hp → VK → Prop} {o e : Expr} {es : List Expr} {to : TE} {t : TA} {apos cpos : Pos} (hK : X.K = K) (pa : PlainAttrs T) (slot : Slot T name id) (hty : typeOf (.builtin id) = pure (.type "method_descriptor")) (hm : MtR X id r) (ho : PE X o to) (ha : PA X (e :: es) t)
    (hbase : attributeBase o name X.env (eval o X.env) = eval o X.env := by rfl)
    (hfew : ((backTo cpos (starEach (e :: es) X.env)).all (fun x => !x.1) && (backToKw cpos (keywordEach [] X.env)).all (fun x => x.1.isSome)
      && decide ((e :: es).length + ([] : List Keyword).length + (if ([] : List Keyword).isEmpty then 0 else 1) < 30)) = true := by rfl)
    (hline : (apos.endLine == cpos.line) = true := by rfl) (hs : starEach (e :: es) X.env = (false, eval e X.env) :: starEach es X.env := by rfl) (hplain : (backTo cpos (starEach es X.env)).any (·.1) = false := by rfl) :
    PE X (.Call (.Attribute o name apos) (e :: es) [] cpos) (tBM K T r to t) := by
  subst hK
  exact pe_bm pa slot hty hm ho ha hbase hfew hline hs hplain
@[elab_as_elim] theorem newH {C : Hp → Prop} {H : Hp} {p : Addr} {o : HO} (h : H p = none) (k : ∀ H1, Gr H H1 → H1 p = some o → C H1) : C (upd H p o) := k _ (Gr.new h) upd_same
theorem Gr.lst {H H' : Hp} (g : Gr H H') {p : Addr} {xs : List V} (h : H p = some (.lst xs)) : H' p = some (.lst xs) := g.keep h (fun _ z => by cases z)
theorem Gr.tup {H H' : Hp} (g : Gr H H') {p : Addr} {xs : List V} (h : H p = some (.tup xs)) : H' p = some (.tup xs) := g.keep h (fun _ z => by cases z)
theorem m_ll {K : PySem.W.Frag} {H : Hp} {Q : VK} {l : Addr} {k : Int} {xs : List V} (h1 : H l = some (.lst xs)) (h2 : -(2 ^ 63) ≤ k) (h3 : k < 2 ^ 63) (h4 : xs.length * k.toNat ≤ sizeLine) (q : ∀ p, H p = none → Q (.ref p) (upd H p (.lst (List.replicate k.toNat xs).flatten))) : rMu K (.ref l) (.int k) H Q := ⟨.inr (.inr (.inl ⟨_, _, _, rfl, rfl, h1, h2, h3, h4, q⟩))⟩
theorem dp_strs {K : PySem.W.Frag} {H : Hp} : ∀ ts : List Str, DpAll K H (strV ts) (ts.map PyData.str)
  | [] => .nil
  | z :: zs => .cons (.str z) (dp_strs zs)
theorem lay_strs : ∀ ts : List Str, (∀ t ∈ ts, PyData.canLay0 (.str t) = true) → PyData.canLayAll0 (ts.map PyData.str) = true
  | [], _ => rfl
  | z :: zs, h => by
    show (PyData.canLay0 (.str z) && PyData.canLayAll0 (zs.map PyData.str)) = true
    rw [lay_strs zs fun t ht => h t (List.mem_cons_of_mem _ ht), h z List.mem_cons_self]; rfl
theorem dep_strs : ∀ ts : List Str, PyData.depthAll (ts.map PyData.str) ≤ 1
  | [] => Nat.zero_le _
  | z :: zs => by
    have := dep_strs zs
    simp only [List.map_cons, PyData.depthAll, PyData.depth]
    omega
theorem shp_strsT {ts : List Str} (h : ∀ t ∈ ts, PyData.canLay0 (.str t) = true) : SeqAt.shaped (.tuple (ts.map PyData.str)) = true := by
  unfold SeqAt.shaped
  have h1 : PyData.canLay0 (.tuple (ts.map PyData.str)) = true := lay_strs ts h
  have h2 := dep_strs ts
  have h3 : PyData.depth (.tuple (ts.map PyData.str)) ≤ 64 := by simp only [PyData.depth]; omega
  rw [h1, decide_eq_true h3]; rfl
theorem k_truth {X : Cx} {K : PySem.W.Frag} {a : Expr} {ta : TE} (hK : X.K = K) (ha : PE X a ta) (he : ∀ whole, isTrue a X.env whole = (do let v ← whole; standAt a.pos; holding [v] (truthy v))) :
    PT X a (fun σ H Q => ta σ H fun x H' => ∃ k, TruV K x H' k ∧ Q k H') := by
  subst hK
  exact pt_truth ha he
theorem Urn.ne {c u : Addr} {H : Hp} (h : Urn c H u) : c ≠ u := by
  obtain ⟨ns, p, a, r, h1, h2⟩ := h
  exact urn_ne h1 h2
theorem Urn.gr {c u : Addr} {H H' : Hp} (h : Urn c H u) (g : Gr H H') : Urn c H' u := by
  obtain ⟨ns, p, a, r, h1, h2⟩ := h
  exact ⟨ns, p, a, r, g.keep h1 (fun _ z => by cases z), g.keep h2 (fun _ z => by cases z)⟩
theorem Urn.updD {c u D : Addr} {H : Hp} {o : HO} (h : Urn c H u) (n1 : D ≠ u) (n2 : D ≠ c) : Urn c (upd H D o) u := by
  obtain ⟨ns, p, a, r, h1, h2⟩ := h
  exact ⟨ns, p, a, r, by rw [upd_ne (Ne.symm n1)]; exact h1, by rw [upd_ne (Ne.symm n2)]; exact h2⟩
theorem Urn.ou {c u D : Addr} {H : Hp} (h : Urn c H u) (n : H D = none) : D ≠ u := by
  obtain ⟨ns, p, a, r, h1, h2⟩ := h
  exact Ne.symm (ne_of_none h1 n)
theorem Urn.oc {c u D : Addr} {H : Hp} (h : Urn c H u) (n : H D = none) : D ≠ c := by
  obtain ⟨ns, p, a, r, h1, h2⟩ := h
  exact Ne.symm (ne_of_none h2 n)
theorem gruD {u D : Addr} {H H' : Hp} {o : HO} (g : GrU u H H') (h : H D = none) : GrU u H (upd H' D o) := fun b w hb e => by
  rw [upd_ne (ne_of_none e h)]
  exact g b w hb e
theorem GrU.free {u b : Addr} {H H' : Hp} (g : GrU u H H') (hb : b ≠ u) (h : H' b = none) : H b = none := by
  cases q : H b with
  | none => rfl
  | some o =>
    rcases g b o hb q with h1 | ⟨_, _, _, h1, _⟩
    · rw [h] at h1; cases h1
    · rw [h] at h1; cases h1
theorem GrU.seqT {K : PySem.W.Frag} {u c a : Addr} {H H' : Hp} {xs : List V} (g : GrU u H H') (hu : Urn c H u) (h : SqT K H a xs) : SqT K H' a xs := by
  rcases h with (h | ⟨o, h⟩) | h
  · exact .inl (.inl (g.notu hu h (fun _ z => by cases z) (fun _ z => by cases z)))
  · exact .inl (.inr ⟨o, g.notu hu h (fun _ z => by cases z) (fun _ z => by cases z)⟩)
  · exact .inr h
def sS (x : Str) : List Str := x.cps.toList.map fun c => ⟨#[c]⟩
theorem sgn_strV (x : Str) : sgn x = strV (sS x) := by unfold strV sS; rw [List.map_map]; rfl
theorem bt {b : Bool} (h : ¬ (!b) = true) : b = true := by cases b <;> simp at h ⊢
theorem inV_str {x : Str} {l : List Str} : inV (.str x) (strV l) = true ↔ x ∈ l := by
  unfold inV strV
  rw [List.any_map, List.any_eq_true]
  constructor
  · rintro ⟨y, hy, e⟩
    have e : (y == x) = true := e
    have e := eq_of_beq e
    exact e ▸ hy
  · intro h
    exact ⟨x, h, show (x == x) = true from beq_self_eq_true x⟩
theorem strsOf_in : ∀ {ds : List PyData} {ts : List Str}, strsOf ds = some ts → ∀ t, PyData.str t ∈ ds → t ∈ ts
  | .str x :: r, ts, h, t, ht => by
    have h : (strsOf r).map (x :: ·) = some ts := h
    cases q : strsOf r with
    | none => rw [q] at h; cases h
    | some us =>
      rw [q] at h
      cases h
      rcases List.mem_cons.mp ht with e | ht
      · cases e; exact List.mem_cons_self
      · exact List.mem_cons_of_mem _ (strsOf_in q t ht)
  | .none :: _, _, h, _, _ => by cases h
  | .bool _ :: _, _, h, _, _ => by cases h
  | .int _ :: _, _, h, _, _ => by cases h
  | .list _ :: _, _, h, _, _ => by cases h
  | .tuple _ :: _, _, h, _, _ => by cases h
  | .dict _ :: _, _, h, _, _ => by cases h
theorem ddA_snoc {K : PySem.W.Frag} {H : Hp} : ∀ {ys : List V} {es : List PyData} {x : V} {d : PyData}, DdAll K H ys es → Dd K H x d → DdAll K H (ys ++ [x]) (es ++ [d])
  | _, [], _, _, h, k => by cases h; exact .cons k .nil
  | _, _ :: _, _, _, h, k => by
    cases h with
    | cons a b => exact .cons a (ddA_snoc b k)
theorem len0 {x : Str} : x.length = 0 ↔ x = "" := by
  constructor
  · intro h
    obtain ⟨⟨l⟩⟩ := x
    have h : l.length = 0 := h
    cases l with
    | nil => rfl
    | cons a b => cases h
  · rintro rfl
    rfl
theorem canLayAll_mem : ∀ {ds : List PyData}, PyData.canLayAll0 ds = true → ∀ d ∈ ds, PyData.canLay0 d = true
  | d :: ds, h, e, he => by
    have h : (PyData.canLay0 d && PyData.canLayAll0 ds) = true := h
    rw [Bool.and_eq_true] at h
    rcases List.mem_cons.mp he with rfl | he
    · exact h.1
    · exact canLayAll_mem h.2 e he
theorem canLayAll_of : ∀ {ds : List PyData}, (∀ d ∈ ds, PyData.canLay0 d = true) → PyData.canLayAll0 ds = true
  | [], _ => rfl
  | d :: ds, h => by
    show (PyData.canLay0 d && PyData.canLayAll0 ds) = true
    rw [h d List.mem_cons_self, canLayAll_of fun e he => h e (List.mem_cons_of_mem _ he)]; rfl
theorem depAll_mem : ∀ {ds : List PyData} {k : Nat}, PyData.depthAll ds ≤ k → ∀ d ∈ ds, d.depth ≤ k
  | d :: ds, k, h, e, he => by
    have h : max (PyData.depth d) (PyData.depthAll ds) ≤ k := h
    rcases List.mem_cons.mp he with rfl | he
    · omega
    · exact depAll_mem (by omega) e he
theorem depAll_of : ∀ {ds : List PyData} {k : Nat}, (∀ d ∈ ds, d.depth ≤ k) → PyData.depthAll ds ≤ k
  | [], k, _ => Nat.zero_le _
  | d :: ds, k, h => by
    show max (PyData.depth d) (PyData.depthAll ds) ≤ k
    have h1 := h d List.mem_cons_self
    have h2 := depAll_of fun e he => h e (List.mem_cons_of_mem _ he)
    omega
mutual
theorem dp_dd {K : PySem.W.Frag} {H : Hp} : ∀ (d : PyData) (v : V), Dd K H v d → PyData.canLay0 d = true → Dp K H v d
  | .none, _, h, _ => by cases h; exact .non
  | .bool _, _, h, _ => by cases h; exact .bl _
  | .int _, _, h, _ => by cases h; exact .int _
  | .str _, _, h, _ => by cases h; exact .str _
  | .list ds, _, h, c => by
    cases h with
    | lst a b => exact .lst a (dp_ddA ds _ b c)
  | .tuple ds, _, h, c => by
    cases h with
    | tup a b => exact .tup a (dp_ddA ds _ b c)
  | .dict _, _, h, c => by cases c
theorem dp_ddA {K : PySem.W.Frag} {H : Hp} : ∀ (ds : List PyData) (vs : List V), DdAll K H vs ds → PyData.canLayAll0 ds = true → DpAll K H vs ds
  | [], _, h, _ => by cases h; exact .nil
  | d :: ds, _, h, c => by
    have c : (PyData.canLay0 d && PyData.canLayAll0 ds) = true := c
    rw [Bool.and_eq_true] at c
    cases h with
    | cons a b => exact .cons (dp_dd d _ a c.1) (dp_ddA ds _ b c.2)
end
theorem shp_list {ds : List PyData} (h1 : PyData.canLayAll0 ds = true) (h2 : PyData.depthAll ds ≤ 60) : SeqAt.shaped (.list ds) = true := by
  unfold SeqAt.shaped
  have h3 : PyData.depth (.list ds) ≤ 64 := by simp only [PyData.depth]; omega
  have h1 : PyData.canLay0 (.list ds) = true := h1
  rw [h1, decide_eq_true h3]; rfl
theorem eqv_nil (ds : List PyData) : PyData.eqv (.list ds) (.list []) = ds.isEmpty := by
  cases ds <;> simp [PyData.eqv, PyData.eqvAll]
theorem showAll_of : ∀ {ds : List PyData}, (∀ d ∈ ds, d.showable = true) → PyData.showableAll ds = true
  | [], _ => rfl
  | d :: ds, h => by
    show (PyData.showable d && PyData.showableAll ds) = true
    rw [h d List.mem_cons_self, showAll_of fun e he => h e (List.mem_cons_of_mem _ he)]; rfl
theorem shownAll_sum {k : Nat} : ∀ {ds : List PyData}, (∀ d ∈ ds, d.shown.length ≤ k) → ((PyData.shownAll ds).map fun x => x.length).sum ≤ ds.length * k ∧ (PyData.shownAll ds).length = ds.length
  | [], _ => ⟨Nat.zero_le _, rfl⟩
  | d :: ds, h => by
    obtain ⟨h1, h2⟩ := shownAll_sum fun e he => h e (List.mem_cons_of_mem _ he)
    have h3 := h d List.mem_cons_self
    refine ⟨?_, by show (PyData.shownAll ds).length + 1 = _; rw [h2]; rfl⟩
    show d.shown.length + ((PyData.shownAll ds).map fun x => x.length).sum ≤ (ds.length + 1) * k
    rw [Nat.add_mul]
    omega
def Wo (S : List Addr) (H : Hp) : Hp := fun b => if b ∈ S then none else H b
theorem wo_gr (S : List Addr) (H : Hp) : Gr (Wo S H) H := fun b o e => by
  unfold Wo at e
  split at e
  · cases e
  · exact .inl e
theorem wo_some {S : List Addr} {H : Hp} {b : Addr} {o : HO} (h : b ∉ S) (e : H b = some o) : Wo S H b = some o := by
  unfold Wo
  rw [if_neg h]
  exact e
theorem Gr.wo {H H' : Hp} (g : Gr H H') (S : List Addr) : Gr (Wo S H) (Wo S H') := fun b o e => by
  unfold Wo at e ⊢
  split at e
  · cases e
  · rename_i h
    rw [if_neg h]
    exact g b o e
theorem GrU.wo {u : Addr} {H H' : Hp} (g : GrU u H H') {S : List Addr} (hu : u ∈ S) : Gr (Wo S H) (Wo S H') := fun b o e => by
  unfold Wo at e ⊢
  split at e
  · cases e
  · rename_i h
    rw [if_neg h]
    exact g b o (fun z => h (z ▸ hu)) e
theorem wo_upd {S : List Addr} {H : Hp} {D : Addr} {o : HO} (h : D ∈ S) : Wo S (upd H D o) = Wo S H := by
  funext b
  unfold Wo
  split
  · rfl
  · rename_i hb
    exact upd_ne fun z => hb (z ▸ h)
theorem wo_more {u D : Addr} {H : Hp} {o : HO} (h : H D = none) : Gr (Wo [u] H) (Wo [u, D] (upd H D o)) := fun b w e => by
  unfold Wo at e ⊢
  split at e
  · cases e
  · rename_i hb
    have n : b ≠ D := ne_of_none e h
    rw [if_neg (by
      intro z
      rcases List.mem_cons.mp z with z | z
      · exact hb (by rw [z]; exact List.mem_cons_self)
      · exact n (List.mem_singleton.mp z)), upd_ne n]
    exact .inl e
theorem a_ttW {K : PySem.W.Frag} {S : List Addr} {H : Hp} {Q : VK} {a b : Addr} {xs ys : List V} (h1 : SqT K (Wo S H) a xs) (h2 : SqT K (Wo S H) b ys) (h : xs.length + ys.length ≤ sizeLine) (hs : ∀ p, H p = none → p ∉ S)
    (q : ∀ p H', Gr H H' → SqT K (Wo S H') p (xs ++ ys) → Q (.ref p) H') : rAdd K (.ref a) (.ref b) H Q := by
  refine a_tt ((wo_gr S H).seqT h1) ((wo_gr S H).seqT h2) h (fun z => ?_) (fun _ z => ?_) (fun _ _ p hp => ?_)
  · subst z
    exact q b H (Gr.refl H) h2
  · subst z
    rw [List.append_nil] at q
    exact q a H (Gr.refl H) h1
  · exact newH hp fun H1 g1 s1 => q p H1 g1 (SqT.of (wo_some (hs p hp) s1))
theorem dd_strs {K : PySem.W.Frag} {H : Hp} : ∀ ts : List Str, DdAll K H (strV ts) (ts.map PyData.str)
  | [] => .nil
  | z :: zs => .cons (.str z) (dd_strs zs)
theorem ddA_app {K : PySem.W.Frag} {H : Hp} : ∀ {xs ys : List V} {ds es : List PyData}, DdAll K H xs ds → DdAll K H ys es → DdAll K H (xs ++ ys) (ds ++ es)
  | _, _, [], _, h, k => by cases h; exact k
  | _, _, _ :: _, _, h, k => by
    cases h with
    | cons a b => exact .cons a (ddA_app b k)
theorem nin2 {p u D : Addr} (h : p ∉ [u]) (n : p ≠ D) : p ∉ [u, D] := fun z => by
  rcases List.mem_cons.mp z with z | z
  · exact h (by rw [z]; exact List.mem_cons_self)
  · exact n (List.mem_singleton.mp z)
theorem wo_sub {S S' : List Addr} (h : ∀ b, b ∈ S' → b ∈ S) (H : Hp) : Gr (Wo S H) (Wo S' H) := fun b o e => by
  unfold Wo at e ⊢
  split at e
  · cases e
  · rename_i hb
    rw [if_neg fun z => hb (h b z)]
    exact .inl e
theorem GrU.tabG {u c P : Addr} {H H' : Hp} (g : GrU u H H') (hu : Urn c H u) (h : TabG H P) : TabG H' P := by
  obtain ⟨ps, h1, t1⟩ := h
  have n : P ≠ u := by
    rintro rfl
    obtain ⟨_, _, _, _, h2, _⟩ := hu
    rw [h1] at h2
    cases h2
  rcases g P _ n h1 with q | ⟨qs, more, e, q, t⟩
  · exact ⟨ps, q, t1⟩
  · cases e
    exact ⟨_, q, t t1⟩
theorem tabG_upd {H : Hp} {P D : Addr} {xs : List V} {o : HO} (h : TabG H P) (hD : H D = some (.lst xs)) : TabG (upd H D o) P := by
  obtain ⟨ps, h1, t1⟩ := h
  have n : P ≠ D := by
    rintro rfl
    rw [h1] at hD
    cases hD
  exact ⟨ps, by rw [upd_ne n]; exact h1, t1⟩
theorem ddA_mem {K : PySem.W.Frag} {H : Hp} {xs : List V} {ds : List PyData} {x : V} (h : DdAll K H xs ds) (hx : x ∈ xs) : ∃ d ∈ ds, Dd K H x d := by
  obtain ⟨i, hi⟩ := List.getElem?_of_mem hx
  obtain ⟨d, e, q⟩ := ddA_at h hi
  exact ⟨d, List.mem_of_getElem? e, q⟩
theorem cut_strs (fm : List Str) (lo hi : Option Int) : ∃ ts, cutV (strV fm) lo hi = strV ts ∧ (∀ t ∈ ts, t ∈ fm) ∧ ts.length ≤ fm.length := by
  unfold cutV strV
  rw [← List.map_drop, ← List.map_take]
  refine ⟨_, rfl, fun t ht => List.mem_of_mem_drop (List.mem_of_mem_take ht), ?_⟩
  rw [List.length_take, List.length_drop]
  omega
theorem sl_tW {K : PySem.W.Frag} {S : List Addr} {H : Hp} {Q : VK} {a : Addr} {fm : List Str} {lo hi : Option Int} (h1 : SqT K (Wo S H) a (strV fm)) (hs : ∀ p, H p = none → p ∉ S)
    (q : ∀ p H' ts, Gr H H' → SqT K (Wo S H') p (strV ts) → (∀ t ∈ ts, t ∈ fm) → ts.length ≤ fm.length → Q (.ref p) H') : rSlU K (.ref a) lo hi H Q := by
  refine sl_t ((wo_gr S H).seqT h1) (fun _ => q a H fm (Gr.refl H) h1 (fun _ z => z) (Nat.le_refl _)) (fun _ p hp => ?_)
  obtain ⟨ts, e, m, l⟩ := cut_strs fm lo hi
  rw [e]
  exact newH hp fun H1 g1 s1 => q p H1 ts g1 (SqT.of (wo_some (hs p hp) s1)) m l
end Vf
end
section
set_option Elab.async false
set_option linter.all false
set_option maxRecDepth 100000
set_option maxHeartbeats 4000000
namespace Vf
open PySem PySem.Spec PyProof.Rows L2 GxR GenW RZ
/-! ### the classes -/
def c5 : List Str := ["SyntaxProblem", "NotCarried", "NotMakable", "Gone", "TooMany"]
def c17 : List Str := ["NoContent", "NoForm", "NoMaker", "NoProgram", "NoDocument", "NoEntry", "NoPlace", "NoMark", "NotOffered", "NameTaken", "TooLarge", "NothingToUndo", "EditedSince", "HistoryFull", "InvalidCommand", "NoDesk", "NoLink"]
def c22 : List Str := c5 ++ c17
def c23 : List Str := c22 ++ (["ClipError"] : List Str)
abbrev cA (K : PySem.W.Frag) (x : Str) : Addr := He.ga K x
structure TK (K : PySem.W.Frag) (mg : Str → Option Value) : Prop extends TX mg where
  b_isinstance : mg "isinstance" = none
  b_ValueError : mg "ValueError" = none
  g : ∀ x ∈ c23, mg x = some (.ref (cA K x))
  ec : ∀ x ∈ c23, ExcC K (cA K x)
  kit : ∀ x ∈ c23, ∀ y ∈ c22, PySem.W.kitOne K (.ref (cA K x)) (.ref (cA K y)) = some (decide (x = y))
  kic : ∀ x ∈ c23, PySem.W.kitOne K (.ref (cA K x)) (.ref (cA K "ClipError")) = some true
  kiv : ∀ x ∈ c23, PySem.W.kitOne K (.ref (cA K x)) (.type "ValueError") = some true
  dx : ∀ x ∈ c17 ++ (["ClipError"] : List Str), DfX K mg x (cA K x)
  ox : ∀ x ∈ c5, OexC K (cA K x)
  no_SyntaxProblem_line : PySem.W.findIn K (.ref (cA K "SyntaxProblem")) "line" = some none
  no_SyntaxProblem_column : PySem.W.findIn K (.ref (cA K "SyntaxProblem")) "column" = some none
  no_NotCarried_feature : PySem.W.findIn K (.ref (cA K "NotCarried")) "feature" = some none
  no_NotMakable_form : PySem.W.findIn K (.ref (cA K "NotMakable")) "form" = some none
  no_NotMakable_closed : PySem.W.findIn K (.ref (cA K "NotMakable")) "closed" = some none
  no_Gone_closed : PySem.W.findIn K (.ref (cA K "Gone")) "closed" = some none
  no_TooMany_limit : PySem.W.findIn K (.ref (cA K "TooMany")) "limit" = some none
theorem TK.g_SyntaxProblem {K : PySem.W.Frag} {mg : Str → Option Value} (T : TK K mg) : mg "SyntaxProblem" = some (.ref (cA K "SyntaxProblem")) := T.g _ (by simp [c23, c22, c5, c17])
theorem TK.g_NotCarried {K : PySem.W.Frag} {mg : Str → Option Value} (T : TK K mg) : mg "NotCarried" = some (.ref (cA K "NotCarried")) := T.g _ (by simp [c23, c22, c5, c17])
theorem TK.g_NotMakable {K : PySem.W.Frag} {mg : Str → Option Value} (T : TK K mg) : mg "NotMakable" = some (.ref (cA K "NotMakable")) := T.g _ (by simp [c23, c22, c5, c17])
theorem TK.g_Gone {K : PySem.W.Frag} {mg : Str → Option Value} (T : TK K mg) : mg "Gone" = some (.ref (cA K "Gone")) := T.g _ (by simp [c23, c22, c5, c17])
theorem TK.g_TooMany {K : PySem.W.Frag} {mg : Str → Option Value} (T : TK K mg) : mg "TooMany" = some (.ref (cA K "TooMany")) := T.g _ (by simp [c23, c22, c5, c17])
theorem TK.g_NoContent {K : PySem.W.Frag} {mg : Str → Option Value} (T : TK K mg) : mg "NoContent" = some (.ref (cA K "NoContent")) := T.g _ (by simp [c23, c22, c5, c17])
theorem TK.g_NoForm {K : PySem.W.Frag} {mg : Str → Option Value} (T : TK K mg) : mg "NoForm" = some (.ref (cA K "NoForm")) := T.g _ (by simp [c23, c22, c5, c17])
theorem TK.g_NoMaker {K : PySem.W.Frag} {mg : Str → Option Value} (T : TK K mg) : mg "NoMaker" = some (.ref (cA K "NoMaker")) := T.g _ (by simp [c23, c22, c5, c17])
theorem TK.g_NoProgram {K : PySem.W.Frag} {mg : Str → Option Value} (T : TK K mg) : mg "NoProgram" = some (.ref (cA K "NoProgram")) := T.g _ (by simp [c23, c22, c5, c17])
theorem TK.g_NoDocument {K : PySem.W.Frag} {mg : Str → Option Value} (T : TK K mg) : mg "NoDocument" = some (.ref (cA K "NoDocument")) := T.g _ (by simp [c23, c22, c5, c17])
theorem TK.g_NoEntry {K : PySem.W.Frag} {mg : Str → Option Value} (T : TK K mg) : mg "NoEntry" = some (.ref (cA K "NoEntry")) := T.g _ (by simp [c23, c22, c5, c17])
theorem TK.g_NoPlace {K : PySem.W.Frag} {mg : Str → Option Value} (T : TK K mg) : mg "NoPlace" = some (.ref (cA K "NoPlace")) := T.g _ (by simp [c23, c22, c5, c17])
theorem TK.g_NoMark {K : PySem.W.Frag} {mg : Str → Option Value} (T : TK K mg) : mg "NoMark" = some (.ref (cA K "NoMark")) := T.g _ (by simp [c23, c22, c5, c17])
theorem TK.g_NotOffered {K : PySem.W.Frag} {mg : Str → Option Value} (T : TK K mg) : mg "NotOffered" = some (.ref (cA K "NotOffered")) := T.g _ (by simp [c23, c22, c5, c17])
theorem TK.g_NameTaken {K : PySem.W.Frag} {mg : Str → Option Value} (T : TK K mg) : mg "NameTaken" = some (.ref (cA K "NameTaken")) := T.g _ (by simp [c23, c22, c5, c17])
theorem TK.g_TooLarge {K : PySem.W.Frag} {mg : Str → Option Value} (T : TK K mg) : mg "TooLarge" = some (.ref (cA K "TooLarge")) := T.g _ (by simp [c23, c22, c5, c17])
theorem TK.g_NothingToUndo {K : PySem.W.Frag} {mg : Str → Option Value} (T : TK K mg) : mg "NothingToUndo" = some (.ref (cA K "NothingToUndo")) := T.g _ (by simp [c23, c22, c5, c17])
theorem TK.g_EditedSince {K : PySem.W.Frag} {mg : Str → Option Value} (T : TK K mg) : mg "EditedSince" = some (.ref (cA K "EditedSince")) := T.g _ (by simp [c23, c22, c5, c17])
theorem TK.g_HistoryFull {K : PySem.W.Frag} {mg : Str → Option Value} (T : TK K mg) : mg "HistoryFull" = some (.ref (cA K "HistoryFull")) := T.g _ (by simp [c23, c22, c5, c17])
theorem TK.g_InvalidCommand {K : PySem.W.Frag} {mg : Str → Option Value} (T : TK K mg) : mg "InvalidCommand" = some (.ref (cA K "InvalidCommand")) := T.g _ (by simp [c23, c22, c5, c17])
theorem TK.g_NoDesk {K : PySem.W.Frag} {mg : Str → Option Value} (T : TK K mg) : mg "NoDesk" = some (.ref (cA K "NoDesk")) := T.g _ (by simp [c23, c22, c5, c17])
theorem TK.g_NoLink {K : PySem.W.Frag} {mg : Str → Option Value} (T : TK K mg) : mg "NoLink" = some (.ref (cA K "NoLink")) := T.g _ (by simp [c23, c22, c5, c17])
theorem TK.g_ClipError {K : PySem.W.Frag} {mg : Str → Option Value} (T : TK K mg) : mg "ClipError" = some (.ref (cA K "ClipError")) := T.g _ (by simp [c23, c22, c5, c17])
theorem IsEx.gr {H H' : Hp} {a C : Addr} (h : IsEx H a C) (g : Gr H H') : IsEx H' a C := by
  rcases h with h | ⟨d, fs, h1, h2⟩
  · exact .inl (g.keep h (fun _ z => by have z' : HO.ext _ = HO.tbl _ := z; cases z'))
  · exact .inr ⟨d, fs, g.keep h1 (fun _ z => exo_tbl z), g.keep h2 (fun _ z => by have z' : HO.ext _ = HO.tbl _ := z; cases z')⟩
theorem Gr.exo {H H' : Hp} (g : Gr H H') {a C : Addr} {d : Option Addr} (h : H a = some (exo a C d)) : H' a = some (exo a C d) := g.keep h (fun _ z => exo_tbl z)
theorem Gr.exd {H H' : Hp} (g : Gr H H') {d : Addr} {fs : List (Str × V)} (h : H d = some (exd d fs)) : H' d = some (exd d fs) := g.keep h (fun _ z => by have z' : HO.ext _ = HO.tbl _ := z; cases z')
theorem is_y {K : PySem.W.Frag} {mg : Str → Option Value} (T : TK K mg) {H : Hp} {Q : VK} {a : Addr} {x y : Str} (hx : x ∈ c23) (hy : y ∈ c22) (h : IsEx H a (cA K x)) (q : Q (.bl (decide (x = y))) H) : rIsX K [.ref a, .ref (cA K y)] H Q :=
  ⟨_, _, _, _, _, rfl, h, T.ec x hx, .own _, T.kit x hx y hy, q⟩
theorem is_c {K : PySem.W.Frag} {mg : Str → Option Value} (T : TK K mg) {H : Hp} {Q : VK} {a : Addr} {x : Str} (hx : x ∈ c23) (h : IsEx H a (cA K x)) (q : Q (.bl true) H) : rIsX K [.ref a, .ref (cA K "ClipError")] H Q :=
  ⟨_, _, _, _, _, rfl, h, T.ec x hx, .own _, T.kic x hx, q⟩
theorem is_v {K : PySem.W.Frag} {mg : Str → Option Value} (T : TK K mg) {H : Hp} {Q : VK} {a : Addr} {x : Str} (hx : x ∈ c23) (h : IsEx H a (cA K x)) (q : Q (.bl true) H) : rIsX K [.ref a, .ty "ValueError"] H Q :=
  ⟨_, _, _, _, _, rfl, h, T.ec x hx, .ty _, T.kiv x hx, q⟩
/-! ### their inits -/
/-- kept, but for what stands at a -/
def Kp (a : Addr) (H H' : Hp) : Prop := ∀ b o, b ≠ a → H b = some o → H' b = some o
theorem Kp.gr {a : Addr} {H H' : Hp} {o : HO} (k : Kp a (upd H a o) H') (h : H a = none) : Gr H H' := fun b w e => .inl (k b w (fun z => by rw [z, h] at e; cases e) (by rw [upd_ne (ne_of_none e h)]; exact e))
def spI1 (K : PySem.W.Frag) (x f : Str) : Sp := fun vs H Q _ => ∃ (a : Addr) (v : V), vs = [.ref a, v] ∧ H a = some (exo a (cA K x) none) ∧ ∀ d H', Kp a H H' → H' a = some (exo a (cA K x) (some d)) → H' d = some (exd d [(f, v)]) → Q .non H'
def spI2 (K : PySem.W.Frag) (x f g : Str) : Sp := fun vs H Q _ => ∃ (a : Addr) (v w : V), vs = [.ref a, v, w] ∧ H a = some (exo a (cA K x) none) ∧ ∀ d H', Kp a H H' → H' a = some (exo a (cA K x) (some d)) → H' d = some (exd d [(g, w), (f, v)]) → Q .non H'
abbrev FnI (K : PySem.W.Frag) (x : Str) (st : Stmt) (fd : FuncData) : Prop := FunD K "__init__" (x ++ ".__init__") (defArgs st) (defBody st) (defScope st) [] [] (He.fAd K (x, some "__init__")) fd
abbrev s_SyntaxProblem____init__ : Stmt := inClass (top 2) 0
abbrev n_SyntaxProblem____init__ : List Str := ["self", "line", "column"]
abbrev p_SyntaxProblem____init__ : List Str := ["self", "line", "column"]
theorem sc_SyntaxProblem____init__ : FnScope n_SyntaxProblem____init__ p_SyntaxProblem____init__ (defScope s_SyntaxProblem____init__) := ⟨rfl, rfl, rfl, by decide +kernel, rfl, by decide +kernel, by decide +kernel⟩

abbrev s_NotCarried____init__ : Stmt := inClass (top 3) 0
abbrev n_NotCarried____init__ : List Str := ["self", "feature"]
abbrev p_NotCarried____init__ : List Str := ["self", "feature"]
theorem sc_NotCarried____init__ : FnScope n_NotCarried____init__ p_NotCarried____init__ (defScope s_NotCarried____init__) := ⟨rfl, rfl, rfl, by decide +kernel, rfl, by decide +kernel, by decide +kernel⟩

abbrev s_NotMakable____init__ : Stmt := inClass (top 4) 0
abbrev n_NotMakable____init__ : List Str := ["self", "form", "closed"]
abbrev p_NotMakable____init__ : List Str := ["self", "form", "closed"]
theorem sc_NotMakable____init__ : FnScope n_NotMakable____init__ p_NotMakable____init__ (defScope s_NotMakable____init__) := ⟨rfl, rfl, rfl, by decide +kernel, rfl, by decide +kernel, by decide +kernel⟩

abbrev s_Gone____init__ : Stmt := inClass (top 5) 0
abbrev n_Gone____init__ : List Str := ["self", "closed"]
abbrev p_Gone____init__ : List Str := ["self", "closed"]
theorem sc_Gone____init__ : FnScope n_Gone____init__ p_Gone____init__ (defScope s_Gone____init__) := ⟨rfl, rfl, rfl, by decide +kernel, rfl, by decide +kernel, by decide +kernel⟩

abbrev s_TooMany____init__ : Stmt := inClass (top 6) 0
abbrev n_TooMany____init__ : List Str := ["self", "limit"]
abbrev p_TooMany____init__ : List Str := ["self", "limit"]
theorem sc_TooMany____init__ : FnScope n_TooMany____init__ p_TooMany____init__ (defScope s_TooMany____init__) := ⟨rfl, rfl, rfl, by decide +kernel, rfl, by decide +kernel, by decide +kernel⟩

section
variable {P : Program} {w : World} {K : PySem.W.Frag} {mg : Str → Option Value} {base : Heap}
theorem ok_SyntaxProblem {fd : FuncData} (F : FnI K "SyntaxProblem" s_SyntaxProblem____init__ fd) (T : TK K mg) : FnOk P w K mg base CX0 1 (He.fAd K ("SyntaxProblem", some "__init__")) fd p_SyntaxProblem____init__ (spI2 K "SyntaxProblem" "line" "column") := by
  refine okP F sc_SyntaxProblem____init__ (fun vs H Q E h => by obtain ⟨a, v, w, rfl, _⟩ := h; rfl) (fun A outer s H vs Q E hr h => ?_)
  obtain ⟨a, v, w, rfl, h1, k⟩ := h
  refine ⟨_, (pss_cons (ps_ost (pv 0) (pv 1))
      (pss_one (ps_ost (pv 0) (pv 2)))), ?_⟩
  refine ⟨_, rfl, _, rfl, a, _, rfl, T.ox _ (by simp [c5]), T.no_SyntaxProblem_line, .inl ⟨h1, fun d hd hda => ?_⟩⟩
  refine ⟨_, rfl, _, rfl, a, _, rfl, T.ox _ (by simp [c5]), T.no_SyntaxProblem_column, .inr ⟨d, _, upd_same, by rw [upd_ne hda]; exact upd_same, (by show 1 ≤ 900; decide), ?_⟩⟩
  refine k d _ (fun b o hb e => ?_) (by rw [upd_ne (Ne.symm hda)]; exact upd_same) upd_same
  have hbd := ne_of_none e hd
  rw [upd_ne hbd, upd_ne hb, upd_ne hbd]
  exact e
theorem ok_NotCarried {fd : FuncData} (F : FnI K "NotCarried" s_NotCarried____init__ fd) (T : TK K mg) : FnOk P w K mg base CX0 1 (He.fAd K ("NotCarried", some "__init__")) fd p_NotCarried____init__ (spI1 K "NotCarried" "feature") := by
  refine okP F sc_NotCarried____init__ (fun vs H Q E h => by obtain ⟨a, v, rfl, _⟩ := h; rfl) (fun A outer s H vs Q E hr h => ?_)
  obtain ⟨a, v, rfl, h1, k⟩ := h
  refine ⟨_, (pss_one (ps_ost (pv 0) (pv 1))), ?_⟩
  refine ⟨_, rfl, _, rfl, a, _, rfl, T.ox _ (by simp [c5]), T.no_NotCarried_feature, .inl ⟨h1, fun d hd hda => ?_⟩⟩
  refine k d _ (fun b o hb e => ?_) upd_same (by rw [upd_ne hda]; exact upd_same)
  rw [upd_ne hb, upd_ne (ne_of_none e hd)]
  exact e
theorem ok_NotMakable {fd : FuncData} (F : FnI K "NotMakable" s_NotMakable____init__ fd) (T : TK K mg) : FnOk P w K mg base CX0 1 (He.fAd K ("NotMakable", some "__init__")) fd p_NotMakable____init__ (spI2 K "NotMakable" "form" "closed") := by
  refine okP F sc_NotMakable____init__ (fun vs H Q E h => by obtain ⟨a, v, w, rfl, _⟩ := h; rfl) (fun A outer s H vs Q E hr h => ?_)
  obtain ⟨a, v, w, rfl, h1, k⟩ := h
  refine ⟨_, (pss_cons (ps_ost (pv 0) (pv 1))
      (pss_one (ps_ost (pv 0) (pv 2)))), ?_⟩
  refine ⟨_, rfl, _, rfl, a, _, rfl, T.ox _ (by simp [c5]), T.no_NotMakable_form, .inl ⟨h1, fun d hd hda => ?_⟩⟩
  refine ⟨_, rfl, _, rfl, a, _, rfl, T.ox _ (by simp [c5]), T.no_NotMakable_closed, .inr ⟨d, _, upd_same, by rw [upd_ne hda]; exact upd_same, (by show 1 ≤ 900; decide), ?_⟩⟩
  refine k d _ (fun b o hb e => ?_) (by rw [upd_ne (Ne.symm hda)]; exact upd_same) upd_same
  have hbd := ne_of_none e hd
  rw [upd_ne hbd, upd_ne hb, upd_ne hbd]
  exact e
theorem ok_Gone {fd : FuncData} (F : FnI K "Gone" s_Gone____init__ fd) (T : TK K mg) : FnOk P w K mg base CX0 1 (He.fAd K ("Gone", some "__init__")) fd p_Gone____init__ (spI1 K "Gone" "closed") := by
  refine okP F sc_Gone____init__ (fun vs H Q E h => by obtain ⟨a, v, rfl, _⟩ := h; rfl) (fun A outer s H vs Q E hr h => ?_)
  obtain ⟨a, v, rfl, h1, k⟩ := h
  refine ⟨_, (pss_one (ps_ost (pv 0) (pv 1))), ?_⟩
  refine ⟨_, rfl, _, rfl, a, _, rfl, T.ox _ (by simp [c5]), T.no_Gone_closed, .inl ⟨h1, fun d hd hda => ?_⟩⟩
  refine k d _ (fun b o hb e => ?_) upd_same (by rw [upd_ne hda]; exact upd_same)
  rw [upd_ne hb, upd_ne (ne_of_none e hd)]
  exact e
theorem ok_TooMany {fd : FuncData} (F : FnI K "TooMany" s_TooMany____init__ fd) (T : TK K mg) : FnOk P w K mg base CX0 1 (He.fAd K ("TooMany", some "__init__")) fd p_TooMany____init__ (spI1 K "TooMany" "limit") := by
  refine okP F sc_TooMany____init__ (fun vs H Q E h => by obtain ⟨a, v, rfl, _⟩ := h; rfl) (fun A outer s H vs Q E hr h => ?_)
  obtain ⟨a, v, rfl, h1, k⟩ := h
  refine ⟨_, (pss_one (ps_ost (pv 0) (pv 1))), ?_⟩
  refine ⟨_, rfl, _, rfl, a, _, rfl, T.ox _ (by simp [c5]), T.no_TooMany_limit, .inl ⟨h1, fun d hd hda => ?_⟩⟩
  refine k d _ (fun b o hb e => ?_) upd_same (by rw [upd_ne hda]; exact upd_same)
  rw [upd_ne hb, upd_ne (ne_of_none e hd)]
  exact e
def kinds (x : Str) : List Bool := c22.map (fun y => decide (x = y)) ++ [true, true]
def spKinds (K : PySem.W.Frag) : Sp := fun vs H Q _ => ∃ (a : Addr) (x : Str), vs = [.ref a] ∧ x ∈ c23 ∧ IsEx H a (cA K x) ∧ ∀ l H', Gr H H' → H l = none → H' l = some (.lst ((kinds x).map V.bl)) → Q (.ref l) H'
abbrev s__law_kinds_of : Stmt := top 30
abbrev n__law_kinds_of : List Str := ["caught", "found"]
abbrev p__law_kinds_of : List Str := ["caught"]
theorem sc__law_kinds_of : FnScope n__law_kinds_of p__law_kinds_of (defScope s__law_kinds_of) := ⟨rfl, rfl, rfl, by decide +kernel, rfl, by decide +kernel, by decide +kernel⟩

theorem ok_kinds {fd : FuncData} (F : FnP K "_law_kinds_of" s__law_kinds_of fd) (T : TK K mg) : FnOk P w K mg base CX0 1 (He.fAd K ("_law_kinds_of", none)) fd p__law_kinds_of (spKinds K) := by
  refine okP F sc__law_kinds_of (fun vs H Q E h => by obtain ⟨a, x, rfl, _⟩ := h; rfl) (fun A outer s H vs Q E hr h => ?_)
  obtain ⟨a, x, rfl, hx, hE, k⟩ := h
  refine ⟨_, (pss_cons (ps_set (i := 1) sc__law_kinds_of.nd rfl (by first | exact Or.inl rfl | exact Or.inr rfl) (pe_lst (pa_cons (pe_callB (call_isX (K := K) rfl) rfl T.b_isinstance (by decide +kernel) (pa_cons (pv 0) (pa_cons (pe_ref rfl T.g_SyntaxProblem) pa_nil))) (pa_cons (pe_callB (call_isX (K := K) rfl) rfl T.b_isinstance (by decide +kernel) (pa_cons (pv 0) (pa_cons (pe_ref rfl T.g_NotCarried) pa_nil))) (pa_cons (pe_callB (call_isX (K := K) rfl) rfl T.b_isinstance (by decide +kernel) (pa_cons (pv 0) (pa_cons (pe_ref rfl T.g_NotMakable) pa_nil))) pa_nil)))))
      (pss_cons (ps_set (i := 1) sc__law_kinds_of.nd rfl (by first | exact Or.inl rfl | exact Or.inr rfl) (pe_op (u_add (K := K) rfl) (pv 1) (pe_lst (pa_cons (pe_callB (call_isX (K := K) rfl) rfl T.b_isinstance (by decide +kernel) (pa_cons (pv 0) (pa_cons (pe_ref rfl T.g_Gone) pa_nil))) (pa_cons (pe_callB (call_isX (K := K) rfl) rfl T.b_isinstance (by decide +kernel) (pa_cons (pv 0) (pa_cons (pe_ref rfl T.g_TooMany) pa_nil))) (pa_cons (pe_callB (call_isX (K := K) rfl) rfl T.b_isinstance (by decide +kernel) (pa_cons (pv 0) (pa_cons (pe_ref rfl T.g_NoContent) pa_nil))) pa_nil))))))
      (pss_cons (ps_set (i := 1) sc__law_kinds_of.nd rfl (by first | exact Or.inl rfl | exact Or.inr rfl) (pe_op (u_add (K := K) rfl) (pv 1) (pe_lst (pa_cons (pe_callB (call_isX (K := K) rfl) rfl T.b_isinstance (by decide +kernel) (pa_cons (pv 0) (pa_cons (pe_ref rfl T.g_NoForm) pa_nil))) (pa_cons (pe_callB (call_isX (K := K) rfl) rfl T.b_isinstance (by decide +kernel) (pa_cons (pv 0) (pa_cons (pe_ref rfl T.g_NoMaker) pa_nil))) (pa_cons (pe_callB (call_isX (K := K) rfl) rfl T.b_isinstance (by decide +kernel) (pa_cons (pv 0) (pa_cons (pe_ref rfl T.g_NoProgram) pa_nil))) pa_nil))))))
      (pss_cons (ps_set (i := 1) sc__law_kinds_of.nd rfl (by first | exact Or.inl rfl | exact Or.inr rfl) (pe_op (u_add (K := K) rfl) (pv 1) (pe_lst (pa_cons (pe_callB (call_isX (K := K) rfl) rfl T.b_isinstance (by decide +kernel) (pa_cons (pv 0) (pa_cons (pe_ref rfl T.g_NoDocument) pa_nil))) (pa_cons (pe_callB (call_isX (K := K) rfl) rfl T.b_isinstance (by decide +kernel) (pa_cons (pv 0) (pa_cons (pe_ref rfl T.g_NoEntry) pa_nil))) (pa_cons (pe_callB (call_isX (K := K) rfl) rfl T.b_isinstance (by decide +kernel) (pa_cons (pv 0) (pa_cons (pe_ref rfl T.g_NoPlace) pa_nil))) pa_nil))))))
      (pss_cons (ps_set (i := 1) sc__law_kinds_of.nd rfl (by first | exact Or.inl rfl | exact Or.inr rfl) (pe_op (u_add (K := K) rfl) (pv 1) (pe_lst (pa_cons (pe_callB (call_isX (K := K) rfl) rfl T.b_isinstance (by decide +kernel) (pa_cons (pv 0) (pa_cons (pe_ref rfl T.g_NoMark) pa_nil))) (pa_cons (pe_callB (call_isX (K := K) rfl) rfl T.b_isinstance (by decide +kernel) (pa_cons (pv 0) (pa_cons (pe_ref rfl T.g_NotOffered) pa_nil))) (pa_cons (pe_callB (call_isX (K := K) rfl) rfl T.b_isinstance (by decide +kernel) (pa_cons (pv 0) (pa_cons (pe_ref rfl T.g_NameTaken) pa_nil))) pa_nil))))))
      (pss_cons (ps_set (i := 1) sc__law_kinds_of.nd rfl (by first | exact Or.inl rfl | exact Or.inr rfl) (pe_op (u_add (K := K) rfl) (pv 1) (pe_lst (pa_cons (pe_callB (call_isX (K := K) rfl) rfl T.b_isinstance (by decide +kernel) (pa_cons (pv 0) (pa_cons (pe_ref rfl T.g_TooLarge) pa_nil))) (pa_cons (pe_callB (call_isX (K := K) rfl) rfl T.b_isinstance (by decide +kernel) (pa_cons (pv 0) (pa_cons (pe_ref rfl T.g_NothingToUndo) pa_nil))) (pa_cons (pe_callB (call_isX (K := K) rfl) rfl T.b_isinstance (by decide +kernel) (pa_cons (pv 0) (pa_cons (pe_ref rfl T.g_EditedSince) pa_nil))) pa_nil))))))
      (pss_cons (ps_set (i := 1) sc__law_kinds_of.nd rfl (by first | exact Or.inl rfl | exact Or.inr rfl) (pe_op (u_add (K := K) rfl) (pv 1) (pe_lst (pa_cons (pe_callB (call_isX (K := K) rfl) rfl T.b_isinstance (by decide +kernel) (pa_cons (pv 0) (pa_cons (pe_ref rfl T.g_HistoryFull) pa_nil))) (pa_cons (pe_callB (call_isX (K := K) rfl) rfl T.b_isinstance (by decide +kernel) (pa_cons (pv 0) (pa_cons (pe_ref rfl T.g_InvalidCommand) pa_nil))) pa_nil)))))
      (pss_cons (ps_set (i := 1) sc__law_kinds_of.nd rfl (by first | exact Or.inl rfl | exact Or.inr rfl) (pe_op (u_add (K := K) rfl) (pv 1) (pe_lst (pa_cons (pe_callB (call_isX (K := K) rfl) rfl T.b_isinstance (by decide +kernel) (pa_cons (pv 0) (pa_cons (pe_ref rfl T.g_NoDesk) pa_nil))) (pa_cons (pe_callB (call_isX (K := K) rfl) rfl T.b_isinstance (by decide +kernel) (pa_cons (pv 0) (pa_cons (pe_ref rfl T.g_NoLink) pa_nil))) pa_nil)))))
      (pss_one (ps_ret (pe_op (u_add (K := K) rfl) (pv 1) (pe_lst (pa_cons (pe_callB (call_isX (K := K) rfl) rfl T.b_isinstance (by decide +kernel) (pa_cons (pv 0) (pa_cons (pe_ref rfl T.g_ClipError) pa_nil))) (pa_cons (pe_callB (call_isX (K := K) rfl) rfl T.b_isinstance (by decide +kernel) (pa_cons (pv 0) (pa_cons (pe_ty (T := "ValueError") rfl T.b_ValueError (by decide +kernel)) pa_nil))) pa_nil)))))))))))))), ?_⟩
  refine ⟨_, rfl, is_y T hx (by simp [c22, c5, c17]) hE ⟨_, rfl, is_y T hx (by simp [c22, c5, c17]) hE ⟨_, rfl, is_y T hx (by simp [c22, c5, c17]) hE ⟨by show 3 ≤ sizeLine; rw [sizeLine_eq]; decide, fun p1 hp1 => ?_⟩⟩⟩⟩
  refine newH hp1 fun H1 g1 s1 => ?_
  have G1 := g1
  have l1 := s1
  have hE1 := hE.gr G1
  refine ⟨_, rfl, ⟨_, rfl, is_y T hx (by simp [c22, c5, c17]) hE1 ⟨_, rfl, is_y T hx (by simp [c22, c5, c17]) hE1 ⟨_, rfl, is_y T hx (by simp [c22, c5, c17]) hE1 ⟨by show 3 ≤ sizeLine; rw [sizeLine_eq]; decide, fun p2 hp2 => ?_⟩⟩⟩⟩⟩
  refine newH hp2 fun H2 g2 s2 => ?_
  have G2 := G1.trans g2
  refine a_ll (g2.lst l1) s2 (by rw [sizeLine_eq]; show 3 + 3 ≤ 16777216; decide) fun p3 hp3 => ?_
  refine newH hp3 fun H3 g3 s3 => ?_
  have G3 := G2.trans g3
  have l3 := s3
  have hE3 := hE.gr G3
  refine ⟨_, rfl, ⟨_, rfl, is_y T hx (by simp [c22, c5, c17]) hE3 ⟨_, rfl, is_y T hx (by simp [c22, c5, c17]) hE3 ⟨_, rfl, is_y T hx (by simp [c22, c5, c17]) hE3 ⟨by show 3 ≤ sizeLine; rw [sizeLine_eq]; decide, fun p4 hp4 => ?_⟩⟩⟩⟩⟩
  refine newH hp4 fun H4 g4 s4 => ?_
  have G4 := G3.trans g4
  refine a_ll (g4.lst l3) s4 (by rw [sizeLine_eq]; show 6 + 3 ≤ 16777216; decide) fun p5 hp5 => ?_
  refine newH hp5 fun H5 g5 s5 => ?_
  have G5 := G4.trans g5
  have l5 := s5
  have hE5 := hE.gr G5
  refine ⟨_, rfl, ⟨_, rfl, is_y T hx (by simp [c22, c5, c17]) hE5 ⟨_, rfl, is_y T hx (by simp [c22, c5, c17]) hE5 ⟨_, rfl, is_y T hx (by simp [c22, c5, c17]) hE5 ⟨by show 3 ≤ sizeLine; rw [sizeLine_eq]; decide, fun p6 hp6 => ?_⟩⟩⟩⟩⟩
  refine newH hp6 fun H6 g6 s6 => ?_
  have G6 := G5.trans g6
  refine a_ll (g6.lst l5) s6 (by rw [sizeLine_eq]; show 9 + 3 ≤ 16777216; decide) fun p7 hp7 => ?_
  refine newH hp7 fun H7 g7 s7 => ?_
  have G7 := G6.trans g7
  have l7 := s7
  have hE7 := hE.gr G7
  refine ⟨_, rfl, ⟨_, rfl, is_y T hx (by simp [c22, c5, c17]) hE7 ⟨_, rfl, is_y T hx (by simp [c22, c5, c17]) hE7 ⟨_, rfl, is_y T hx (by simp [c22, c5, c17]) hE7 ⟨by show 3 ≤ sizeLine; rw [sizeLine_eq]; decide, fun p8 hp8 => ?_⟩⟩⟩⟩⟩
  refine newH hp8 fun H8 g8 s8 => ?_
  have G8 := G7.trans g8
  refine a_ll (g8.lst l7) s8 (by rw [sizeLine_eq]; show 12 + 3 ≤ 16777216; decide) fun p9 hp9 => ?_
  refine newH hp9 fun H9 g9 s9 => ?_
  have G9 := G8.trans g9
  have l9 := s9
  have hE9 := hE.gr G9
  refine ⟨_, rfl, ⟨_, rfl, is_y T hx (by simp [c22, c5, c17]) hE9 ⟨_, rfl, is_y T hx (by simp [c22, c5, c17]) hE9 ⟨_, rfl, is_y T hx (by simp [c22, c5, c17]) hE9 ⟨by show 3 ≤ sizeLine; rw [sizeLine_eq]; decide, fun p10 hp10 => ?_⟩⟩⟩⟩⟩
  refine newH hp10 fun H10 g10 s10 => ?_
  have G10 := G9.trans g10
  refine a_ll (g10.lst l9) s10 (by rw [sizeLine_eq]; show 15 + 3 ≤ 16777216; decide) fun p11 hp11 => ?_
  refine newH hp11 fun H11 g11 s11 => ?_
  have G11 := G10.trans g11
  have l11 := s11
  have hE11 := hE.gr G11
  refine ⟨_, rfl, ⟨_, rfl, is_y T hx (by simp [c22, c5, c17]) hE11 ⟨_, rfl, is_y T hx (by simp [c22, c5, c17]) hE11 ⟨by show 2 ≤ sizeLine; rw [sizeLine_eq]; decide, fun p12 hp12 => ?_⟩⟩⟩⟩
  refine newH hp12 fun H12 g12 s12 => ?_
  have G12 := G11.trans g12
  refine a_ll (g12.lst l11) s12 (by rw [sizeLine_eq]; show 18 + 2 ≤ 16777216; decide) fun p13 hp13 => ?_
  refine newH hp13 fun H13 g13 s13 => ?_
  have G13 := G12.trans g13
  have l13 := s13
  have hE13 := hE.gr G13
  refine ⟨_, rfl, ⟨_, rfl, is_y T hx (by simp [c22, c5, c17]) hE13 ⟨_, rfl, is_y T hx (by simp [c22, c5, c17]) hE13 ⟨by show 2 ≤ sizeLine; rw [sizeLine_eq]; decide, fun p14 hp14 => ?_⟩⟩⟩⟩
  refine newH hp14 fun H14 g14 s14 => ?_
  have G14 := G13.trans g14
  refine a_ll (g14.lst l13) s14 (by rw [sizeLine_eq]; show 20 + 2 ≤ 16777216; decide) fun p15 hp15 => ?_
  refine newH hp15 fun H15 g15 s15 => ?_
  have G15 := G14.trans g15
  have l15 := s15
  have hE15 := hE.gr G15
  refine ⟨_, rfl, ⟨_, rfl, is_c T hx hE15 ⟨_, rfl, is_v T hx hE15 ⟨by show 2 ≤ sizeLine; rw [sizeLine_eq]; decide, fun p16 hp16 => ?_⟩⟩⟩⟩
  refine newH hp16 fun H16 g16 s16 => ?_
  have G16 := G15.trans g16
  refine a_ll (g16.lst l15) s16 (by rw [sizeLine_eq]; show 22 + 2 ≤ 16777216; decide) fun p17 hp17 => ?_
  refine newH hp17 fun Hz gz sz => ?_
  refine k _ Hz (G16.trans gz) (G16.free hp17) (sz.trans ?_)
  rfl
end
end Vf
end
section
set_option Elab.async false
set_option linter.all false
set_option maxRecDepth 100000
set_option maxHeartbeats 4000000
namespace Vf
open PySem PySem.Spec PyProof.Rows L2 GxR GenW RZ
abbrev s_law : Stmt := top 31
abbrev n_law : List Str := ["script", "urn", "turn", "line", "column", "limit", "other", "text", "closed", "feature", "form", "built", "again", "place", "error", "number", "found"]
abbrev p_law : List Str := ["script"]
theorem sc_law : FnScope n_law p_law (defScope s_law) := ⟨rfl, rfl, rfl, by decide +kernel, rfl, by decide +kernel, by decide +kernel⟩

def spLaw (K : PySem.W.Frag) : Sp := fun vs H Q _ => ∃ (a : Addr) (ns : List Int), vs = [.ref a] ∧ SqL K H a (ns.map V.int) ∧ ns.length ≤ 63 ∧ ∀ H', Q (.bl true) H'
inductive Fo2 (K : PySem.W.Frag) (H : Hp) : List Addr → List Str → Prop
  | nil : Fo2 K H [] []
  | cons {a : Addr} {as : List Addr} {x : Str} {xs : List Str} : IsEx H a (cA K x) → Fo2 K H as xs → Fo2 K H (a :: as) (x :: xs)
theorem Fo2.at {K : PySem.W.Frag} {H : Hp} : ∀ {as : List Addr} {xs : List Str}, Fo2 K H as xs → ∀ {i : Nat} {v : V}, (as.map V.ref)[i]? = some v → ∃ a y, v = .ref a ∧ xs[i]? = some y ∧ IsEx H a (cA K y)
  | _, _, .nil, i, v, h => by simp at h
  | _, _, .cons e r, 0, v, h => ⟨_, _, (Option.some.inj h).symm, rfl, e⟩
  | _, _, .cons e r, i + 1, v, h => Fo2.at r h
theorem Fo2.gr {K : PySem.W.Frag} {H H' : Hp} : ∀ {as : List Addr} {xs : List Str}, Fo2 K H as xs → Gr H H' → Fo2 K H' as xs
  | _, _, .nil, _ => .nil
  | _, _, .cons e r, g => .cons (e.gr g) (Fo2.gr r g)
theorem mem2 {x a b : Str} (h : x ∈ [a, b]) : x = a ∨ x = b := by simpa using h
theorem kinds_at : ∀ i, i < 22 → kinds (c22.getD i "") = (List.range 22).map (fun n => decide (n = i)) ++ [true, true] := by decide +kernel
theorem kinds_base : kinds "ClipError" = List.replicate 22 false ++ [true, true] := by decide +kernel
theorem dp_bls {K : PySem.W.Frag} {H : Hp} : ∀ bs : List Bool, DpAll K H (bs.map V.bl) (bs.map PyData.bool)
  | [] => .nil
  | z :: zs => .cons (.bl z) (dp_bls zs)
theorem lay_bls : ∀ bs : List Bool, PyData.canLayAll0 (bs.map PyData.bool) = true
  | [] => rfl
  | z :: zs => by
    show (PyData.canLay0 (.bool z) && PyData.canLayAll0 (zs.map PyData.bool)) = true
    rw [lay_bls zs]; rfl
theorem dep_bls : ∀ bs : List Bool, PyData.depthAll (bs.map PyData.bool) ≤ 1
  | [] => Nat.zero_le _
  | z :: zs => by
    have := dep_bls zs
    simp only [List.map_cons, PyData.depthAll, PyData.depth]
    omega
theorem shp_bls (bs : List Bool) : SeqAt.shaped (.list (bs.map PyData.bool)) = true := by
  unfold SeqAt.shaped
  have h1 : PyData.canLay0 (.list (bs.map PyData.bool)) = true := lay_bls bs
  have h2 := dep_bls bs
  have h3 : PyData.depth (.list (bs.map PyData.bool)) ≤ 64 := by simp only [PyData.depth]; omega
  rw [h1, decide_eq_true h3]; rfl
theorem same {d : PyData} (h : SeqAt.shaped d = true) : PyData.eqv d d = true := by
  unfold SeqAt.shaped at h
  rw [Bool.and_eq_true] at h
  exact PySem.SeqAt.eqv_refl d h.1
theorem map_bl (l : List Nat) (f : Nat → Bool) : l.map (fun n => V.bl (f n)) = (l.map f).map V.bl := by rw [List.map_map]; rfl
theorem shp_row {a b c : Int} {f g : Str} {ts us : List Str} (hf : PyData.canLay0 (.str f) = true) (hg : PyData.canLay0 (.str g) = true) (ht : ∀ t ∈ ts, PyData.canLay0 (.str t) = true) (hu : ∀ t ∈ us, PyData.canLay0 (.str t) = true) :
    SeqAt.shaped (.list [.int a, .int b, .str f, .str g, .tuple (ts.map PyData.str), .tuple (us.map PyData.str), .int c]) = true := by
  unfold SeqAt.shaped
  have h1 : PyData.canLay0 (.list [.int a, .int b, .str f, .str g, .tuple (ts.map PyData.str), .tuple (us.map PyData.str), .int c]) = true := by
    have e1 : PyData.canLay0 (.tuple (ts.map PyData.str)) = true := lay_strs ts ht
    have e2 : PyData.canLay0 (.tuple (us.map PyData.str)) = true := lay_strs us hu
    show (PyData.canLay0 (.int a) && (PyData.canLay0 (.int b) && (PyData.canLay0 (.str f) && (PyData.canLay0 (.str g) && (PyData.canLay0 (.tuple (ts.map PyData.str)) && (PyData.canLay0 (.tuple (us.map PyData.str)) && (PyData.canLay0 (.int c) && PyData.canLayAll0 []))))))) = true
    rw [e1, e2, hf, hg]; rfl
  have h3 : PyData.depth (.list [.int a, .int b, .str f, .str g, .tuple (ts.map PyData.str), .tuple (us.map PyData.str), .int c]) ≤ 64 := by
    have d1 := dep_strs ts
    have d2 := dep_strs us
    simp only [PyData.depth, PyData.depthAll]
    omega
  rw [h1, decide_eq_true h3]; rfl
section
variable {P : Program} {w : World} {K : PySem.W.Frag} {mg : Str → Option Value} {base : Heap}
theorem ok_law {fd : FuncData} (F : FnP K "law" s_law fd) (T : TK K mg) (D__law_urn_of : Df P w K mg base "_law_urn_of" 1 p__law_urn_of (spUrnOf K)) (D__law_upto : Df P w K mg base "_law_upto" 2 p__law_upto spUpto) (D__law_choice : Df P w K mg base "_law_choice" 3 p__law_choice (spChoice K)) (D__law_kinds_of : Df P w K mg base "_law_kinds_of" 1 p__law_kinds_of (spKinds K))
    (D_SyntaxProblem : DfI P w K mg base "SyntaxProblem" (cA K "SyntaxProblem") 1 p_SyntaxProblem____init__ (spI2 K "SyntaxProblem" "line" "column"))
    (D_NotCarried : DfI P w K mg base "NotCarried" (cA K "NotCarried") 1 p_NotCarried____init__ (spI1 K "NotCarried" "feature"))
    (D_NotMakable : DfI P w K mg base "NotMakable" (cA K "NotMakable") 1 p_NotMakable____init__ (spI2 K "NotMakable" "form" "closed"))
    (D_Gone : DfI P w K mg base "Gone" (cA K "Gone") 1 p_Gone____init__ (spI1 K "Gone" "closed"))
    (D_TooMany : DfI P w K mg base "TooMany" (cA K "TooMany") 1 p_TooMany____init__ (spI1 K "TooMany" "limit"))
    : FnOk P w K mg base CX0 4 (He.fAd K ("law", none)) fd p_law (spLaw K) := by
  refine okP F sc_law (fun vs H Q E h => by obtain ⟨a, ns, rfl, _⟩ := h; rfl) (fun A outer s H vs Q E hr h => ?_)
  obtain ⟨a, ns, rfl, hS, hl, k⟩ := h
  have D_NoContent := T.dx "NoContent" (by simp [c17])
  have D_NoForm := T.dx "NoForm" (by simp [c17])
  have D_NoMaker := T.dx "NoMaker" (by simp [c17])
  have D_NoProgram := T.dx "NoProgram" (by simp [c17])
  have D_NoDocument := T.dx "NoDocument" (by simp [c17])
  have D_NoEntry := T.dx "NoEntry" (by simp [c17])
  have D_NoPlace := T.dx "NoPlace" (by simp [c17])
  have D_NoMark := T.dx "NoMark" (by simp [c17])
  have D_NotOffered := T.dx "NotOffered" (by simp [c17])
  have D_NameTaken := T.dx "NameTaken" (by simp [c17])
  have D_TooLarge := T.dx "TooLarge" (by simp [c17])
  have D_NothingToUndo := T.dx "NothingToUndo" (by simp [c17])
  have D_EditedSince := T.dx "EditedSince" (by simp [c17])
  have D_HistoryFull := T.dx "HistoryFull" (by simp [c17])
  have D_InvalidCommand := T.dx "InvalidCommand" (by simp [c17])
  have D_NoDesk := T.dx "NoDesk" (by simp [c17])
  have D_NoLink := T.dx "NoLink" (by simp [c17])
  have D_ClipError := T.dx "ClipError" (by simp [c17])
  refine ⟨_, (pss_cons (ps_set (i := 1) sc_law.nd rfl (by first | exact Or.inl rfl | exact Or.inr rfl) (pe_fn D__law_urn_of hr (by decide) rfl (pa_cons (pv 0) pa_nil)))
      (pss_cons (ps_asg (pe_lc (own := [("turn", 2)]) (g := gName 2) (tt := tYes) rfl sc_law.nd (pi_range1 rfl T.b_range (pa_cons pe_int pa_nil)) (blkOk_by (own := [("turn", 2)]) (N := n_law) (sc := defScope s_law) (by decide +kernel)) (fun _ _ _ _ _ => (pg_name (i := 2) sc_law.nd rfl (by first | exact Or.inl rfl | exact Or.inr rfl))) (fun _ _ _ _ _ => pts_nil) (fun _ _ _ _ _ => (pe_fn D__law_upto hr (by decide) rfl (pa_cons (pv 1) (pa_cons (pe_op u_pow pe_int pe_int) pa_nil))))) (k_unl 4 (K := K) rfl rfl (pgs_cons (pg_name (i := 3) sc_law.nd rfl (by first | exact Or.inl rfl | exact Or.inr rfl)) (pgs_cons (pg_name (i := 4) sc_law.nd rfl (by first | exact Or.inl rfl | exact Or.inr rfl)) (pgs_cons (pg_name (i := 5) sc_law.nd rfl (by first | exact Or.inl rfl | exact Or.inr rfl)) (pgs_cons (pg_name (i := 6) sc_law.nd rfl (by first | exact Or.inl rfl | exact Or.inr rfl)) pgs_nil))))))
      (pss_cons (ps_par (i := 7) (j := 8) (by rfl) sc_law.nd rfl rfl (by decide) rfl rfl (pa_cons (pe_fn D__law_choice hr (by decide) rfl (pa_cons (pv 1) (pa_cons (pe_lst (pa_cons pe_str (pa_cons pe_str (pa_cons pe_str pa_nil)))) pa_nil))) (pa_cons (pe_slice (u_sl (K := K) rfl) (pe_tup (pa_cons pe_str (pa_cons pe_str pa_nil))) po_none (po_some (pe_fn D__law_upto hr (by decide) rfl (pa_cons (pv 1) (pa_cons pe_int pa_nil))))) pa_nil)) (by rfl))
      (pss_cons (ps_par (i := 9) (j := 10) (by rfl) sc_law.nd rfl rfl (by decide) rfl rfl (pa_cons (pe_fn D__law_choice hr (by decide) rfl (pa_cons (pv 1) (pa_cons (pe_lst (pa_cons pe_str (pa_cons pe_str pa_nil))) pa_nil))) (pa_cons (pe_fn D__law_choice hr (by decide) rfl (pa_cons (pv 1) (pa_cons (pe_lst (pa_cons pe_str (pa_cons pe_str pa_nil))) pa_nil))) pa_nil)) (by rfl))
      (pss_cons (ps_set (i := 11) sc_law.nd rfl (by first | exact Or.inl rfl | exact Or.inr rfl) (pe_lst (pa_cons (pe_mkV D_SyntaxProblem hr (by decide) rfl (pa_cons (pv 3) (pa_cons (pv 4) pa_nil))) (pa_cons (pe_mkV D_NotCarried hr (by decide) rfl (pa_cons (pv 9) pa_nil)) (pa_cons (pe_mkV D_NotMakable hr (by decide) rfl (pa_cons (pv 10) (pa_cons (pv 8) pa_nil))) (pa_cons (pe_mkV D_Gone hr (by decide) rfl (pa_cons (pv 8) pa_nil)) (pa_cons (pe_mkV D_TooMany hr (by decide) rfl (pa_cons (pv 5) pa_nil)) pa_nil)))))))
      (pss_cons (ps_set (i := 11) sc_law.nd rfl (by first | exact Or.inl rfl | exact Or.inr rfl) (pe_op (u_add (K := K) rfl) (pv 11) (pe_lst (pa_cons (pe_mkX D_NoContent rfl (pv 7)) (pa_cons (pe_mkX D_NoForm rfl (pv 7)) (pa_cons (pe_mkX D_NoMaker rfl (pv 7)) (pa_cons (pe_mkX D_NoProgram rfl (pv 7)) (pa_cons (pe_mkX D_NoDocument rfl (pv 7)) (pa_cons (pe_mkX D_NoEntry rfl (pv 7)) pa_nil)))))))))
      (pss_cons (ps_set (i := 11) sc_law.nd rfl (by first | exact Or.inl rfl | exact Or.inr rfl) (pe_op (u_add (K := K) rfl) (pv 11) (pe_lst (pa_cons (pe_mkX D_NoPlace rfl (pv 7)) (pa_cons (pe_mkX D_NoMark rfl (pv 7)) (pa_cons (pe_mkX D_NotOffered rfl (pv 7)) (pa_cons (pe_mkX D_NameTaken rfl (pv 7)) (pa_cons (pe_mkX D_TooLarge rfl (pv 7)) pa_nil))))))))
      (pss_cons (ps_set (i := 11) sc_law.nd rfl (by first | exact Or.inl rfl | exact Or.inr rfl) (pe_op (u_add (K := K) rfl) (pv 11) (pe_lst (pa_cons (pe_mkX D_NothingToUndo rfl (pv 7)) (pa_cons (pe_mkX D_EditedSince rfl (pv 7)) (pa_cons (pe_mkX D_HistoryFull rfl (pv 7)) (pa_cons (pe_mkX D_InvalidCommand rfl (pv 7)) (pa_cons (pe_mkX D_NoDesk rfl (pv 7)) pa_nil))))))))
      (pss_cons (ps_expr (k_bm (K := K) rfl PySem.F.plainAttrs_list PySem.F.slot_list_append PySem.F.type_list_append mt_append (pv 11) (pa_cons (pe_mkX D_NoLink rfl (pv 7)) pa_nil)))
      (pss_cons (ps_set (i := 12) sc_law.nd rfl (by first | exact Or.inl rfl | exact Or.inr rfl) (pe_lst (pa_cons (pe_mkV D_SyntaxProblem hr (by decide) rfl (pa_cons (pv 6) (pa_cons (pv 5) pa_nil))) (pa_cons (pe_mkV D_NotCarried hr (by decide) rfl (pa_cons pe_str pa_nil)) (pa_cons (pe_mkV D_NotMakable hr (by decide) rfl (pa_cons pe_str (pa_cons (pe_tup pa_nil) pa_nil))) (pa_cons (pe_mkV D_Gone hr (by decide) rfl (pa_cons (pe_tup (pa_cons pe_str pa_nil)) pa_nil)) (pa_cons (pe_mkV D_TooMany hr (by decide) rfl (pa_cons (pv 6) pa_nil)) pa_nil)))))))
      (pss_cons (ps_for PassesOwn.never rfl (k_enum (K := K) rfl rfl T.b_enumerate (pa_cons (pv 11) pa_nil)) (kg_tup 2 (K := K) rfl rfl (pgs_cons (pg_name (i := 13) sc_law.nd rfl (by first | exact Or.inl rfl | exact Or.inr rfl)) (pgs_cons (pg_name (i := 14) sc_law.nd rfl (by first | exact Or.inl rfl | exact Or.inr rfl)) pgs_nil)))
      (pss_one (ps_if (pt_cmpR (u_ne (K := K) rfl hr.units) (pe_fn D__law_kinds_of hr (by decide) rfl (pa_cons (pv 14) pa_nil)) (pe_op (u_add (K := K) rfl) (pe_lc (own := [("number", 15)]) (g := gName 15) (tt := tYes) rfl sc_law.nd (pi_range1 rfl T.b_range (pa_cons pe_int pa_nil)) (blkOk_by (own := [("number", 15)]) (N := n_law) (sc := defScope s_law) (by decide +kernel)) (fun _ _ _ _ _ => (pg_name (i := 15) sc_law.nd rfl (by first | exact Or.inl rfl | exact Or.inr rfl))) (fun _ _ _ _ _ => pts_nil) (fun _ _ _ _ _ => (pe_cmpR (u_eq (K := K) rfl hr.units) (pv 15) (pv 13) (nomark _)))) (pe_lst (pa_cons pe_bl (pa_cons pe_bl pa_nil)))) (nomark _))
      (pss_one (ps_ret pe_bl))
      pss_nil)))
      (pss_cons (ps_set (i := 16) sc_law.nd rfl (by first | exact Or.inl rfl | exact Or.inr rfl) (pe_lst (pa_cons (pe_fldX (K := K) rfl (pe_ix (u_ix (K := K) rfl) (pv 11) pe_int (fun _ _ => rfl))) (pa_cons (pe_fldX (K := K) rfl (pe_ix (u_ix (K := K) rfl) (pv 11) pe_int (fun _ _ => rfl))) (pa_cons (pe_fldX (K := K) rfl (pe_ix (u_ix (K := K) rfl) (pv 11) pe_int (fun _ _ => rfl))) (pa_cons (pe_fldX (K := K) rfl (pe_ix (u_ix (K := K) rfl) (pv 11) pe_int (fun _ _ => rfl))) (pa_cons (pe_fldX (K := K) rfl (pe_ix (u_ix (K := K) rfl) (pv 11) pe_int (fun _ _ => rfl))) (pa_cons (pe_fldX (K := K) rfl (pe_ix (u_ix (K := K) rfl) (pv 11) pe_int (fun _ _ => rfl))) pa_nil))))))))
      (pss_cons (ps_if (pt_cmpR (u_ne (K := K) rfl hr.units) (pe_op (u_add (K := K) rfl) (pv 16) (pe_lst (pa_cons (pe_fldX (K := K) rfl (pe_ix (u_ix (K := K) rfl) (pv 11) pe_int (fun _ _ => rfl))) pa_nil))) (pe_lst (pa_cons (pv 3) (pa_cons (pv 4) (pa_cons (pv 9) (pa_cons (pv 10) (pa_cons (pv 8) (pa_cons (pv 8) (pa_cons (pv 5) pa_nil)))))))) (nomark _))
      (pss_one (ps_ret pe_bl))
      pss_nil)
      (pss_cons (ps_set (i := 16) sc_law.nd rfl (by first | exact Or.inl rfl | exact Or.inr rfl) (pe_lst (pa_cons (pe_fldX (K := K) rfl (pe_ix (u_ix (K := K) rfl) (pv 12) pe_int (fun _ _ => rfl))) (pa_cons (pe_fldX (K := K) rfl (pe_ix (u_ix (K := K) rfl) (pv 12) pe_int (fun _ _ => rfl))) (pa_cons (pe_fldX (K := K) rfl (pe_ix (u_ix (K := K) rfl) (pv 12) pe_int (fun _ _ => rfl))) (pa_cons (pe_fldX (K := K) rfl (pe_ix (u_ix (K := K) rfl) (pv 12) pe_int (fun _ _ => rfl))) (pa_cons (pe_fldX (K := K) rfl (pe_ix (u_ix (K := K) rfl) (pv 12) pe_int (fun _ _ => rfl))) (pa_cons (pe_fldX (K := K) rfl (pe_ix (u_ix (K := K) rfl) (pv 12) pe_int (fun _ _ => rfl))) pa_nil))))))))
      (pss_cons (ps_if (pt_cmpR (u_ne (K := K) rfl hr.units) (pe_op (u_add (K := K) rfl) (pv 16) (pe_lst (pa_cons (pe_fldX (K := K) rfl (pe_ix (u_ix (K := K) rfl) (pv 12) pe_int (fun _ _ => rfl))) pa_nil))) (pe_lst (pa_cons (pv 6) (pa_cons (pv 5) (pa_cons pe_str (pa_cons pe_str (pa_cons (pe_tup pa_nil) (pa_cons (pe_tup (pa_cons pe_str pa_nil)) (pa_cons (pv 6) pa_nil)))))))) (nomark _))
      (pss_one (ps_ret pe_bl))
      pss_nil)
      (pss_one (ps_ret (pe_cmpR (u_eq (K := K) rfl hr.units) (pe_fn D__law_kinds_of hr (by decide) rfl (pa_cons (pe_mkX D_ClipError rfl (pv 7)) pa_nil)) (pe_op (u_add (K := K) rfl) (pe_op (u_mul (K := K) rfl) (pe_lst (pa_cons pe_bl pa_nil)) pe_int) (pe_lst (pa_cons pe_bl (pa_cons pe_bl pa_nil)))) (nomark _))))))))))))))))))), ?_⟩
  refine ⟨_, rfl, a, ns, rfl, hS, hl, fun u c H1 hu0 hc0 g1 hu1 => ?_⟩
  -- line, column, limit, other
  refine ⟨4, rfl, by decide, by decide, fun D hD => ?_⟩
  have Du := hu1.ou hD
  have Dc := hu1.oc hD
  refine lc_range (lo := 0) (n := 4) (fun i H' => ∃ ms : List Int, ms.length = i ∧ GrU u H1 H' ∧ Urn c H' u ∧ H' D = some (.lst (ms.map V.int))) ⟨[], rfl, gruD (GrU.refl _ _) hD, hu1.gr (Gr.new hD), upd_same⟩ ?_ ?_
  · rintro i H' hi ⟨ms, hm, g, hu, hL⟩
    refine ⟨rfl, ?_⟩
    refine ⟨_, rfl, pw_ii ⟨by decide, by decide, by decide⟩ ⟨u, c, _, rfl, hu, by decide, by decide, fun r H2 h0 h1 g2 hu2 => ?_⟩⟩
    refine ⟨_, g2.keep Du hL (fun _ z => by cases z), by rw [List.length_map, hm, sizeLine_eq]; omega, ms ++ [r], by rw [List.length_append, hm]; rfl, gruD (g.trans g2) hD, hu2.updD Du Dc, ?_⟩
    rw [upd_same, List.map_append]; rfl
  rintro H2 ⟨ms, hm, g2, hu2, hL⟩
  obtain ⟨m1, m2, m3, m4, rfl⟩ : ∃ a b c d, ms = [a, b, c, d] := match ms, hm with | [a, b, c, d], _ => ⟨a, b, c, d, rfl⟩
  refine ⟨D, [.int m1, .int m2, .int m3, .int m4], rfl, SqL.of hL, rfl, _, _, rfl, _, _, rfl, _, _, rfl, _, _, rfl, rfl, ?_⟩
  -- text, closed
  refine ⟨_, rfl, by show 3 ≤ sizeLine; rw [sizeLine_eq]; decide, fun p3 hp3 => ?_⟩
  have n3 := hu2.ou hp3
  refine newH hp3 fun H3 g3 s3 => ?_
  have hu3 := hu2.gr g3
  refine ⟨u, c, p3, _, rfl, hu3, n3, .inl (SqL.of s3), by decide, by decide, fun text H4 htext g4 hu4 => ?_⟩
  refine ⟨by show 2 ≤ sizeLine; rw [sizeLine_eq]; decide, fun p5 hp5 => ?_⟩
  have n5 := hu4.ou hp5
  refine newH hp5 fun H5 g5 s5 => ?_
  have hu5 := hu4.gr g5
  refine ⟨_, rfl, u, c, 3, rfl, hu5, by decide, by decide, fun r H6 h0 hr6 g6 hu6 => ?_⟩
  have s6 : SqT K (Wo [u] H6) p5 (strV ["a", "b"]) := (g6.wo (S := [u]) (by simp)).seqT (SqT.of (wo_some (by simpa using n5) s5))
  refine ⟨_, rfl, sl_tW (S := [u]) s6 (fun p hp => by simpa using hu6.ou hp) fun pc H7 ts g7 s7 m7 l7 => ?_⟩
  have hu7 := hu6.gr g7
  refine ⟨_, _, rfl, ?_⟩
  -- feature, form
  refine ⟨_, rfl, by show 2 ≤ sizeLine; rw [sizeLine_eq]; decide, fun p8 hp8 => ?_⟩
  have n8 := hu7.ou hp8
  refine newH hp8 fun H8 g8 s8 => ?_
  have hu8 := hu7.gr g8
  refine ⟨u, c, p8, strV ["cells", "slant"], rfl, hu8, n8, .inl (SqL.of s8), by decide, by decide, fun feature H9 hfe g9 hu9 => ?_⟩
  refine ⟨_, rfl, by show 2 ≤ sizeLine; rw [sizeLine_eq]; decide, fun pa hpa => ?_⟩
  have na := hu9.ou hpa
  refine newH hpa fun Ha ga sa => ?_
  have hua := hu9.gr ga
  refine ⟨u, c, pa, strV ["plain", "f1"], rfl, hua, na, .inl (SqL.of sa), by decide, by decide, fun form Hb hfo gb hub => ?_⟩
  refine ⟨_, _, rfl, ?_⟩
  have sb : SqT K Hb pc (strV ts) := (wo_gr [u] Hb).seqT (((((g8.wo [u]).trans (g9.wo (S := [u]) (by simp))).trans (ga.wo [u])).trans (gb.wo (S := [u]) (by simp))).seqT s7)
  obtain ⟨fe, mfe, rfl⟩ := List.mem_map.mp hfe
  obtain ⟨fo, mfo, rfl⟩ := List.mem_map.mp hfo
  have cfe : PyData.canLay0 (.str fe) = true := by
    rcases mem2 mfe with rfl | rfl <;> decide +kernel
  have cfo : PyData.canLay0 (.str fo) = true := by
    rcases mem2 mfo with rfl | rfl <;> decide +kernel
  have cts : ∀ t ∈ ts, PyData.canLay0 (.str t) = true := fun t ht => by
    rcases mem2 (m7 t ht) with rfl | rfl <;> decide +kernel
  clear hS hu0 hc0 g1 hL s3 s5 s6 s8 sa hub hua hu9 hu8 hu7 hu6 hu5 hu4 hu3 hu2 hu1 g2 g3 g4 g5 g6 g7 g8 g9 ga gb htext s7 m7 l7
  -- built
  refine ⟨_, rfl, _, rfl, by show 2 ≤ 1000; decide, fun a1 ha1 => ⟨a1, _, _, rfl, upd_same, fun d1 K1 k1 e1 f1 => ⟨rfl, ?_⟩⟩⟩
  have j1 := Kp.gr k1 ha1
  refine ⟨_, rfl, by show 1 ≤ 1000; decide, fun a2 ha2 => ⟨a2, _, rfl, upd_same, fun d2 K2 k2 e2 f2 => ⟨rfl, ?_⟩⟩⟩
  have j2 := Kp.gr k2 ha2
  refine ⟨_, rfl, _, rfl, by show 2 ≤ 1000; decide, fun a3 ha3 => ⟨a3, _, _, rfl, upd_same, fun d3 K3 k3 e3 f3 => ⟨rfl, ?_⟩⟩⟩
  have j3 := Kp.gr k3 ha3
  refine ⟨_, rfl, by show 1 ≤ 1000; decide, fun a4 ha4 => ⟨a4, _, rfl, upd_same, fun d4 K4 k4 e4 f4 => ⟨rfl, ?_⟩⟩⟩
  have j4 := Kp.gr k4 ha4
  refine ⟨_, rfl, by show 1 ≤ 1000; decide, fun a5 ha5 => ⟨a5, _, rfl, upd_same, fun d5 K5 k5 e5 f5 => ⟨rfl, ?_⟩⟩⟩
  have j5 := Kp.gr k5 ha5
  refine ⟨by show 5 ≤ sizeLine; rw [sizeLine_eq]; decide, fun p hp => ?_⟩
  refine newH hp fun K6 j6 q6 => ?_
  have pl6 := p
  refine ⟨_, rfl, _, rfl, fun a7 ha7 => ?_⟩
  refine newH ha7 fun K7 j7 e7 => ?_
  refine ⟨_, rfl, fun a8 ha8 => ?_⟩
  refine newH ha8 fun K8 j8 e8 => ?_
  refine ⟨_, rfl, fun a9 ha9 => ?_⟩
  refine newH ha9 fun K9 j9 e9 => ?_
  refine ⟨_, rfl, fun a10 ha10 => ?_⟩
  refine newH ha10 fun K10 j10 e10 => ?_
  refine ⟨_, rfl, fun a11 ha11 => ?_⟩
  refine newH ha11 fun K11 j11 e11 => ?_
  refine ⟨_, rfl, fun a12 ha12 => ?_⟩
  refine newH ha12 fun K12 j12 e12 => ?_
  refine ⟨by show 6 ≤ sizeLine; rw [sizeLine_eq]; decide, fun r1 hr1 => ?_⟩
  refine newH hr1 fun K13 j13 q13 => ?_
  refine a_ll (((((((j7.trans j8).trans j9).trans j10).trans j11).trans j12).trans j13).lst q6) q13 (by rw [sizeLine_eq]; show 5 + 6 ≤ 16777216; decide) fun p1_ hp1_ => ?_
  refine newH hp1_ fun K14 j14 q14 => ?_
  refine ⟨_, rfl, _, rfl, fun a15 ha15 => ?_⟩
  refine newH ha15 fun K15 j15 e15 => ?_
  refine ⟨_, rfl, fun a16 ha16 => ?_⟩
  refine newH ha16 fun K16 j16 e16 => ?_
  refine ⟨_, rfl, fun a17 ha17 => ?_⟩
  refine newH ha17 fun K17 j17 e17 => ?_
  refine ⟨_, rfl, fun a18 ha18 => ?_⟩
  refine newH ha18 fun K18 j18 e18 => ?_
  refine ⟨_, rfl, fun a19 ha19 => ?_⟩
  refine newH ha19 fun K19 j19 e19 => ?_
  refine ⟨by show 5 ≤ sizeLine; rw [sizeLine_eq]; decide, fun r2 hr2 => ?_⟩
  refine newH hr2 fun K20 j20 q20 => ?_
  refine a_ll ((((((j15.trans j16).trans j17).trans j18).trans j19).trans j20).lst q14) q20 (by rw [sizeLine_eq]; show 11 + 5 ≤ 16777216; decide) fun p2_ hp2_ => ?_
  refine newH hp2_ fun K21 j21 q21 => ?_
  refine ⟨_, rfl, _, rfl, fun a22 ha22 => ?_⟩
  refine newH ha22 fun K22 j22 e22 => ?_
  refine ⟨_, rfl, fun a23 ha23 => ?_⟩
  refine newH ha23 fun K23 j23 e23 => ?_
  refine ⟨_, rfl, fun a24 ha24 => ?_⟩
  refine newH ha24 fun K24 j24 e24 => ?_
  refine ⟨_, rfl, fun a25 ha25 => ?_⟩
  refine newH ha25 fun K25 j25 e25 => ?_
  refine ⟨_, rfl, fun a26 ha26 => ?_⟩
  refine newH ha26 fun K26 j26 e26 => ?_
  refine ⟨by show 5 ≤ sizeLine; rw [sizeLine_eq]; decide, fun r3 hr3 => ?_⟩
  refine newH hr3 fun K27 j27 q27 => ?_
  refine a_ll ((((((j22.trans j23).trans j24).trans j25).trans j26).trans j27).lst q21) q27 (by rw [sizeLine_eq]; show 16 + 5 ≤ 16777216; decide) fun p3_ hp3_ => ?_
  refine newH hp3_ fun K28 j28 q28 => ?_
  have q28 : K28 p3_ = some (.lst ([.ref a1, .ref a2, .ref a3, .ref a4, .ref a5, .ref a7, .ref a8, .ref a9, .ref a10, .ref a11, .ref a12, .ref a15, .ref a16, .ref a17, .ref a18, .ref a19, .ref a22, .ref a23, .ref a24, .ref a25, .ref a26])) := q28
  refine ⟨_, rfl, .inl ⟨rfl, _, SqL.of q28⟩, _, rfl, fun a29 ha29 => ?_⟩
  refine newH ha29 fun K29 j29 e29 => ?_
  refine ⟨p3_, _, _, rfl, rfl, j29.lst q28, by rw [sizeLine_eq]; show 21 < 16777216; decide, ?_⟩
  have nb : ∀ b o, b ≠ p3_ → K29 b = some o → (upd K29 p3_ (.lst ([.ref a1, .ref a2, .ref a3, .ref a4, .ref a5, .ref a7, .ref a8, .ref a9, .ref a10, .ref a11, .ref a12, .ref a15, .ref a16, .ref a17, .ref a18, .ref a19, .ref a22, .ref a23, .ref a24, .ref a25, .ref a26] ++ [.ref a29]))) b = some o := fun b o hb e => by rw [upd_ne hb]; exact e
  have E1 := (((((((((((((((((((((((((((j2.trans j3).trans j4).trans j5).trans j6).trans j7).trans j8).trans j9).trans j10).trans j11).trans j12).trans j13).trans j14).trans j15).trans j16).trans j17).trans j18).trans j19).trans j20).trans j21).trans j22).trans j23).trans j24).trans j25).trans j26).trans j27).trans j28).trans j29).exo e1
  have F1 := (((((((((((((((((((((((((((j2.trans j3).trans j4).trans j5).trans j6).trans j7).trans j8).trans j9).trans j10).trans j11).trans j12).trans j13).trans j14).trans j15).trans j16).trans j17).trans j18).trans j19).trans j20).trans j21).trans j22).trans j23).trans j24).trans j25).trans j26).trans j27).trans j28).trans j29).exd f1
  have E2 := ((((((((((((((((((((((((((j3.trans j4).trans j5).trans j6).trans j7).trans j8).trans j9).trans j10).trans j11).trans j12).trans j13).trans j14).trans j15).trans j16).trans j17).trans j18).trans j19).trans j20).trans j21).trans j22).trans j23).trans j24).trans j25).trans j26).trans j27).trans j28).trans j29).exo e2
  have F2 := ((((((((((((((((((((((((((j3.trans j4).trans j5).trans j6).trans j7).trans j8).trans j9).trans j10).trans j11).trans j12).trans j13).trans j14).trans j15).trans j16).trans j17).trans j18).trans j19).trans j20).trans j21).trans j22).trans j23).trans j24).trans j25).trans j26).trans j27).trans j28).trans j29).exd f2
  have E3 := (((((((((((((((((((((((((j4.trans j5).trans j6).trans j7).trans j8).trans j9).trans j10).trans j11).trans j12).trans j13).trans j14).trans j15).trans j16).trans j17).trans j18).trans j19).trans j20).trans j21).trans j22).trans j23).trans j24).trans j25).trans j26).trans j27).trans j28).trans j29).exo e3
  have F3 := (((((((((((((((((((((((((j4.trans j5).trans j6).trans j7).trans j8).trans j9).trans j10).trans j11).trans j12).trans j13).trans j14).trans j15).trans j16).trans j17).trans j18).trans j19).trans j20).trans j21).trans j22).trans j23).trans j24).trans j25).trans j26).trans j27).trans j28).trans j29).exd f3
  have E4 := ((((((((((((((((((((((((j5.trans j6).trans j7).trans j8).trans j9).trans j10).trans j11).trans j12).trans j13).trans j14).trans j15).trans j16).trans j17).trans j18).trans j19).trans j20).trans j21).trans j22).trans j23).trans j24).trans j25).trans j26).trans j27).trans j28).trans j29).exo e4
  have F4 := ((((((((((((((((((((((((j5.trans j6).trans j7).trans j8).trans j9).trans j10).trans j11).trans j12).trans j13).trans j14).trans j15).trans j16).trans j17).trans j18).trans j19).trans j20).trans j21).trans j22).trans j23).trans j24).trans j25).trans j26).trans j27).trans j28).trans j29).exd f4
  have E5 := (((((((((((((((((((((((j6.trans j7).trans j8).trans j9).trans j10).trans j11).trans j12).trans j13).trans j14).trans j15).trans j16).trans j17).trans j18).trans j19).trans j20).trans j21).trans j22).trans j23).trans j24).trans j25).trans j26).trans j27).trans j28).trans j29).exo e5
  have F5 := (((((((((((((((((((((((j6.trans j7).trans j8).trans j9).trans j10).trans j11).trans j12).trans j13).trans j14).trans j15).trans j16).trans j17).trans j18).trans j19).trans j20).trans j21).trans j22).trans j23).trans j24).trans j25).trans j26).trans j27).trans j28).trans j29).exd f5
  have E7 : K29 a7 = some (ExO (.ref (cA K "NoContent")) a7) := (((((((((((((((((((((j8.trans j9).trans j10).trans j11).trans j12).trans j13).trans j14).trans j15).trans j16).trans j17).trans j18).trans j19).trans j20).trans j21).trans j22).trans j23).trans j24).trans j25).trans j26).trans j27).trans j28).trans j29).keep e7 (fun _ z => by have z' : HO.ext _ = HO.tbl _ := z; cases z')
  have E8 : K29 a8 = some (ExO (.ref (cA K "NoForm")) a8) := ((((((((((((((((((((j9.trans j10).trans j11).trans j12).trans j13).trans j14).trans j15).trans j16).trans j17).trans j18).trans j19).trans j20).trans j21).trans j22).trans j23).trans j24).trans j25).trans j26).trans j27).trans j28).trans j29).keep e8 (fun _ z => by have z' : HO.ext _ = HO.tbl _ := z; cases z')
  have E9 : K29 a9 = some (ExO (.ref (cA K "NoMaker")) a9) := (((((((((((((((((((j10.trans j11).trans j12).trans j13).trans j14).trans j15).trans j16).trans j17).trans j18).trans j19).trans j20).trans j21).trans j22).trans j23).trans j24).trans j25).trans j26).trans j27).trans j28).trans j29).keep e9 (fun _ z => by have z' : HO.ext _ = HO.tbl _ := z; cases z')
  have E10 : K29 a10 = some (ExO (.ref (cA K "NoProgram")) a10) := ((((((((((((((((((j11.trans j12).trans j13).trans j14).trans j15).trans j16).trans j17).trans j18).trans j19).trans j20).trans j21).trans j22).trans j23).trans j24).trans j25).trans j26).trans j27).trans j28).trans j29).keep e10 (fun _ z => by have z' : HO.ext _ = HO.tbl _ := z; cases z')
  have E11 : K29 a11 = some (ExO (.ref (cA K "NoDocument")) a11) := (((((((((((((((((j12.trans j13).trans j14).trans j15).trans j16).trans j17).trans j18).trans j19).trans j20).trans j21).trans j22).trans j23).trans j24).trans j25).trans j26).trans j27).trans j28).trans j29).keep e11 (fun _ z => by have z' : HO.ext _ = HO.tbl _ := z; cases z')
  have E12 : K29 a12 = some (ExO (.ref (cA K "NoEntry")) a12) := ((((((((((((((((j13.trans j14).trans j15).trans j16).trans j17).trans j18).trans j19).trans j20).trans j21).trans j22).trans j23).trans j24).trans j25).trans j26).trans j27).trans j28).trans j29).keep e12 (fun _ z => by have z' : HO.ext _ = HO.tbl _ := z; cases z')
  have E15 : K29 a15 = some (ExO (.ref (cA K "NoPlace")) a15) := (((((((((((((j16.trans j17).trans j18).trans j19).trans j20).trans j21).trans j22).trans j23).trans j24).trans j25).trans j26).trans j27).trans j28).trans j29).keep e15 (fun _ z => by have z' : HO.ext _ = HO.tbl _ := z; cases z')
  have E16 : K29 a16 = some (ExO (.ref (cA K "NoMark")) a16) := ((((((((((((j17.trans j18).trans j19).trans j20).trans j21).trans j22).trans j23).trans j24).trans j25).trans j26).trans j27).trans j28).trans j29).keep e16 (fun _ z => by have z' : HO.ext _ = HO.tbl _ := z; cases z')
  have E17 : K29 a17 = some (ExO (.ref (cA K "NotOffered")) a17) := (((((((((((j18.trans j19).trans j20).trans j21).trans j22).trans j23).trans j24).trans j25).trans j26).trans j27).trans j28).trans j29).keep e17 (fun _ z => by have z' : HO.ext _ = HO.tbl _ := z; cases z')
  have E18 : K29 a18 = some (ExO (.ref (cA K "NameTaken")) a18) := ((((((((((j19.trans j20).trans j21).trans j22).trans j23).trans j24).trans j25).trans j26).trans j27).trans j28).trans j29).keep e18 (fun _ z => by have z' : HO.ext _ = HO.tbl _ := z; cases z')
  have E19 : K29 a19 = some (ExO (.ref (cA K "TooLarge")) a19) := (((((((((j20.trans j21).trans j22).trans j23).trans j24).trans j25).trans j26).trans j27).trans j28).trans j29).keep e19 (fun _ z => by have z' : HO.ext _ = HO.tbl _ := z; cases z')
  have E22 : K29 a22 = some (ExO (.ref (cA K "NothingToUndo")) a22) := ((((((j23.trans j24).trans j25).trans j26).trans j27).trans j28).trans j29).keep e22 (fun _ z => by have z' : HO.ext _ = HO.tbl _ := z; cases z')
  have E23 : K29 a23 = some (ExO (.ref (cA K "EditedSince")) a23) := (((((j24.trans j25).trans j26).trans j27).trans j28).trans j29).keep e23 (fun _ z => by have z' : HO.ext _ = HO.tbl _ := z; cases z')
  have E24 : K29 a24 = some (ExO (.ref (cA K "HistoryFull")) a24) := ((((j25.trans j26).trans j27).trans j28).trans j29).keep e24 (fun _ z => by have z' : HO.ext _ = HO.tbl _ := z; cases z')
  have E25 : K29 a25 = some (ExO (.ref (cA K "InvalidCommand")) a25) := (((j26.trans j27).trans j28).trans j29).keep e25 (fun _ z => by have z' : HO.ext _ = HO.tbl _ := z; cases z')
  have E26 : K29 a26 = some (ExO (.ref (cA K "NoDesk")) a26) := ((j27.trans j28).trans j29).keep e26 (fun _ z => by have z' : HO.ext _ = HO.tbl _ := z; cases z')
  have E29 : K29 a29 = some (ExO (.ref (cA K "NoLink")) a29) := (Gr.refl _).keep e29 (fun _ z => by have z' : HO.ext _ = HO.tbl _ := z; cases z')
  have Q0 := j29.lst q28
  have S0 := ((((((((((((((((((((((((((((j1.trans j2).trans j3).trans j4).trans j5).trans j6).trans j7).trans j8).trans j9).trans j10).trans j11).trans j12).trans j13).trans j14).trans j15).trans j16).trans j17).trans j18).trans j19).trans j20).trans j21).trans j22).trans j23).trans j24).trans j25).trans j26).trans j27).trans j28).trans j29).seqT sb
  have XL : ∀ {a1 C1 : Addr} {d1 : Option Addr}, K29 a1 = some (exo a1 C1 d1) → a1 ≠ p3_ := fun h z => by rw [z, Q0] at h; have z' : HO.lst _ = HO.ext _ := Option.some.inj h; cases z'
  have XD : ∀ {a1 : Addr} {f1 : List (Str × V)}, K29 a1 = some (exd a1 f1) → a1 ≠ p3_ := fun h z => by rw [z, Q0] at h; have z' : HO.lst _ = HO.ext _ := Option.some.inj h; cases z'
  have XO : ∀ {a1 : Addr} {C1 : Value}, K29 a1 = some (ExO C1 a1) → a1 ≠ p3_ := fun h z => by rw [z, Q0] at h; have z' : HO.lst _ = HO.ext _ := Option.some.inj h; cases z'
  replace E1 := nb _ _ (XL E1) E1
  replace F1 := nb _ _ (XD F1) F1
  replace E2 := nb _ _ (XL E2) E2
  replace F2 := nb _ _ (XD F2) F2
  replace E3 := nb _ _ (XL E3) E3
  replace F3 := nb _ _ (XD F3) F3
  replace E4 := nb _ _ (XL E4) E4
  replace F4 := nb _ _ (XD F4) F4
  replace E5 := nb _ _ (XL E5) E5
  replace F5 := nb _ _ (XD F5) F5
  replace E7 := nb _ _ (XO E7) E7
  replace E8 := nb _ _ (XO E8) E8
  replace E9 := nb _ _ (XO E9) E9
  replace E10 := nb _ _ (XO E10) E10
  replace E11 := nb _ _ (XO E11) E11
  replace E12 := nb _ _ (XO E12) E12
  replace E15 := nb _ _ (XO E15) E15
  replace E16 := nb _ _ (XO E16) E16
  replace E17 := nb _ _ (XO E17) E17
  replace E18 := nb _ _ (XO E18) E18
  replace E19 := nb _ _ (XO E19) E19
  replace E22 := nb _ _ (XO E22) E22
  replace E23 := nb _ _ (XO E23) E23
  replace E24 := nb _ _ (XO E24) E24
  replace E25 := nb _ _ (XO E25) E25
  replace E26 := nb _ _ (XO E26) E26
  replace E29 := nb _ _ (XO E29) E29
  have S1 : SqT K (upd K29 p3_ (.lst ([.ref a1, .ref a2, .ref a3, .ref a4, .ref a5, .ref a7, .ref a8, .ref a9, .ref a10, .ref a11, .ref a12, .ref a15, .ref a16, .ref a17, .ref a18, .ref a19, .ref a22, .ref a23, .ref a24, .ref a25, .ref a26] ++ [.ref a29]))) pc (strV ts) := by
    rcases S0 with (S0 | ⟨o, S0⟩) | S0
    · exact .inl (.inl (nb _ _ (fun z => by rw [z, Q0] at S0; cases S0) S0))
    · exact .inl (.inr ⟨o, nb _ _ (fun z => by rw [z, Q0] at S0; cases S0) S0⟩)
    · exact .inr S0
  have B1 : (upd K29 p3_ (.lst ([.ref a1, .ref a2, .ref a3, .ref a4, .ref a5, .ref a7, .ref a8, .ref a9, .ref a10, .ref a11, .ref a12, .ref a15, .ref a16, .ref a17, .ref a18, .ref a19, .ref a22, .ref a23, .ref a24, .ref a25, .ref a26] ++ [.ref a29]))) p3_ = some (.lst [.ref a1, .ref a2, .ref a3, .ref a4, .ref a5, .ref a7, .ref a8, .ref a9, .ref a10, .ref a11, .ref a12, .ref a15, .ref a16, .ref a17, .ref a18, .ref a19, .ref a22, .ref a23, .ref a24, .ref a25, .ref a26, .ref a29]) := upd_same
  show _
  clear nb XL XD XO Q0 S0
  generalize hKB : upd K29 p3_ (HO.lst ([.ref a1, .ref a2, .ref a3, .ref a4, .ref a5, .ref a7, .ref a8, .ref a9, .ref a10, .ref a11, .ref a12, .ref a15, .ref a16, .ref a17, .ref a18, .ref a19, .ref a22, .ref a23, .ref a24, .ref a25, .ref a26] ++ [.ref a29])) = KB at *
  refine (fun hh => ?_) hKB
  have BT : Fo2 K KB [a1, a2, a3, a4, a5, a7, a8, a9, a10, a11, a12, a15, a16, a17, a18, a19, a22, a23, a24, a25, a26, a29] c22 := (.cons (.inr ⟨_, _, E1, F1⟩) (.cons (.inr ⟨_, _, E2, F2⟩) (.cons (.inr ⟨_, _, E3, F3⟩) (.cons (.inr ⟨_, _, E4, F4⟩) (.cons (.inr ⟨_, _, E5, F5⟩) (.cons (.inl E7) (.cons (.inl E8) (.cons (.inl E9) (.cons (.inl E10) (.cons (.inl E11) (.cons (.inl E12) (.cons (.inl E15) (.cons (.inl E16) (.cons (.inl E17) (.cons (.inl E18) (.cons (.inl E19) (.cons (.inl E22) (.cons (.inl E23) (.cons (.inl E24) (.cons (.inl E25) (.cons (.inl E26) (.cons (.inl E29) .nil))))))))))))))))))))))
  clear hKB hh
  -- again
  refine ⟨_, rfl, _, rfl, by show 2 ≤ 1000; decide, fun a201 ha201 => ⟨a201, _, _, rfl, upd_same, fun d201 K201 k201 e201 f201 => ⟨rfl, ?_⟩⟩⟩
  have j201 := Kp.gr k201 ha201
  refine ⟨by show 1 ≤ 1000; decide, fun a202 ha202 => ⟨a202, _, rfl, upd_same, fun d202 K202 k202 e202 f202 => ⟨rfl, ?_⟩⟩⟩
  have j202 := Kp.gr k202 ha202
  refine ⟨Nat.zero_le _, fun b203 hb203 => ?_⟩
  refine newH hb203 fun K203 j203 q203 => ?_
  refine ⟨by show 2 ≤ 1000; decide, fun a204 ha204 => ⟨a204, _, _, rfl, upd_same, fun d204 K204 k204 e204 f204 => ⟨rfl, ?_⟩⟩⟩
  have j204 := Kp.gr k204 ha204
  refine ⟨by show 1 ≤ sizeLine; rw [sizeLine_eq]; decide, fun b205 hb205 => ?_⟩
  refine newH hb205 fun K205 j205 q205 => ?_
  refine ⟨by show 1 ≤ 1000; decide, fun a206 ha206 => ⟨a206, _, rfl, upd_same, fun d206 K206 k206 e206 f206 => ⟨rfl, ?_⟩⟩⟩
  have j206 := Kp.gr k206 ha206
  refine ⟨_, rfl, by show 1 ≤ 1000; decide, fun a207 ha207 => ⟨a207, _, rfl, upd_same, fun d207 K207 k207 e207 f207 => ⟨rfl, ?_⟩⟩⟩
  have j207 := Kp.gr k207 ha207
  refine ⟨by show 5 ≤ sizeLine; rw [sizeLine_eq]; decide, fun b208 hb208 => ?_⟩
  refine newH hb208 fun KC j208 q208 => ?_
  have E201 := ((((((j202.trans j203).trans j204).trans j205).trans j206).trans j207).trans j208).exo e201
  have F201 := ((((((j202.trans j203).trans j204).trans j205).trans j206).trans j207).trans j208).exd f201
  have E202 := (((((j203.trans j204).trans j205).trans j206).trans j207).trans j208).exo e202
  have F202 := (((((j203.trans j204).trans j205).trans j206).trans j207).trans j208).exd f202
  have E204 := (((j205.trans j206).trans j207).trans j208).exo e204
  have F204 := (((j205.trans j206).trans j207).trans j208).exd f204
  have E206 := (j207.trans j208).exo e206
  have F206 := (j207.trans j208).exd f206
  have E207 := j208.exo e207
  have F207 := j208.exd f207
  have T1 := ((((j204.trans j205).trans j206).trans j207).trans j208).tup q203
  have T2 := ((j206.trans j207).trans j208).tup q205
  have JJ := (((((((j201.trans j202).trans j203).trans j204).trans j205).trans j206).trans j207).trans j208)
  have B2 := JJ.lst B1
  have S2 := JJ.seqT S1
  replace E1 := JJ.exo E1
  replace F1 := JJ.exd F1
  replace E2 := JJ.exo E2
  replace F2 := JJ.exd F2
  replace E3 := JJ.exo E3
  replace F3 := JJ.exd F3
  replace E4 := JJ.exo E4
  replace F4 := JJ.exd F4
  replace E5 := JJ.exo E5
  replace F5 := JJ.exd F5
  replace BT : Fo2 K KC _ _ := Fo2.gr BT JJ
  -- the walk
  refine ⟨_, rfl, p3_, _, rfl, SqL.of B2, ?_⟩
  refine for_enum (K := K) (a := p3_) (xs := [.ref a1, .ref a2, .ref a3, .ref a4, .ref a5, .ref a7, .ref a8, .ref a9, .ref a10, .ref a11, .ref a12, .ref a15, .ref a16, .ref a17, .ref a18, .ref a19, .ref a22, .ref a23, .ref a24, .ref a25, .ref a26, .ref a29]) (fun i σ H' => ∃ (x1 x2 x3 : Option V), σ = [some (.ref a), some (.ref u), none, some (.int m1), some (.int m2), some (.int m3), some (.int m4), some text, some (.ref pc), some (.str fe), some (.str fo), some (.ref p3_), some (.ref b208), x1, x2, x3, none] ∧ Gr KC H') ⟨_, _, _, rfl, Gr.refl _⟩ ?_ ?_ ?_
  · rintro i σ H' _ ⟨x1, x2, x3, rfl, g⟩
    exact SqL.of (g.lst B2)
  · rintro i x Tp σ H' hx ⟨x1, x2, x3, rfl, g⟩ hTp
    obtain ⟨ai, y, rfl, hy, hE⟩ := Fo2.at BT (show (List.map V.ref [a1, a2, a3, a4, a5, a7, a8, a9, a10, a11, a12, a15, a16, a17, a18, a19, a22, a23, a24, a25, a26, a29])[i]? = some x from hx)
    have hi : i < 22 := (List.getElem?_eq_some_iff.mp hy).1
    have ey : y = c22.getD i "" := by rw [List.getD_eq_getElem?_getD, hy]; rfl
    have my : y ∈ c23 := List.mem_append_left _ (List.mem_of_getElem? hy)
    refine newH hTp fun H2 g2 s2 => ?_
    have g3 := g.trans g2
    refine ⟨Tp, _, rfl, SqT.of s2, rfl, _, _, rfl, _, _, rfl, rfl, ?_⟩
    refine ⟨_, rfl, ai, y, rfl, my, hE.gr g3, fun l H3 g4 hl sl => ?_⟩
    have g5 := g3.trans g4
    refine ⟨22, rfl, by decide, by decide, fun D hD => ?_⟩
    refine lc_range (lo := 0) (n := 22) (fun j H' => Gr H3 H' ∧ H' D = some (.lst ((List.range j).map fun n => V.bl (decide (n = i))))) ⟨Gr.new hD, upd_same⟩ ?_ ?_
    · rintro j H' hj ⟨g6, hL⟩
      refine ⟨rfl, ?_⟩
      refine ⟨_, rfl, _, rfl, e_flat rfl ⟨_, hL, by rw [List.length_map, List.length_range, sizeLine_eq]; omega, g6.upd' hD, ?_⟩⟩
      rw [upd_same, List.range_succ, List.map_append]
      have e : decide (V.int ((0 : Int) + (j : Nat)) = V.int (i : Nat)) = decide (j = i) := by
        rw [decide_eq_decide]
        constructor
        · intro z
          injection z with z
          omega
        · intro z
          rw [z]
          congr 1
          omega
      rw [e]; rfl
    rintro H4 ⟨g6, hL⟩
    refine ⟨by show 2 ≤ sizeLine; rw [sizeLine_eq]; decide, fun p hp => ?_⟩
    refine newH hp fun H5 g7 s7 => ?_
    refine a_ll (g7.lst hL) s7 (by rw [List.length_map, List.length_range, sizeLine_eq]; show 22 + 2 ≤ 16777216; decide) fun p8 hp8 => ?_
    refine newH hp8 fun H6 g8 s8 => ?_
    rw [map_bl] at s8
    have s8 : H6 p8 = some (.lst ((((List.range 22).map fun n => decide (n = i)) ++ [true, true]).map V.bl)) := s8.trans (by rw [List.map_append]; rfl)
    have g9 := (g6.trans g7).trans g8
    have s9 := g9.lst sl
    rw [ey, kinds_at i hi] at s9
    refine n_data (Dp.lst (SqL.of s9) (dp_bls _)) (Dp.lst (SqL.of s8) (dp_bls _)) (shp_bls _) (shp_bls _) ⟨_, rfl, ?_⟩
    rw [same (shp_bls _)]
    refine iteF ?_
    exact ⟨_, _, _, rfl, g5.trans g9⟩
  rintro σ H7 ⟨x1, x2, x3, rfl, g7⟩
  -- found (u)
  refine ⟨_, rfl, x_l (SqL.of (g7.lst B2)) rfl ⟨a1, cA K "SyntaxProblem", d1, _, _, rfl, Vf.ExcC.xf (T.ec "SyntaxProblem" (by simp [c23, c22, c5])), T.no_SyntaxProblem_line, g7.exo E1, g7.exd F1, rfl, ⟨_, rfl, x_l (SqL.of (g7.lst B2)) rfl ⟨a1, cA K "SyntaxProblem", d1, _, _, rfl, Vf.ExcC.xf (T.ec "SyntaxProblem" (by simp [c23, c22, c5])), T.no_SyntaxProblem_column, g7.exo E1, g7.exd F1, rfl, ⟨_, rfl, x_l (SqL.of (g7.lst B2)) rfl ⟨a2, cA K "NotCarried", d2, _, _, rfl, Vf.ExcC.xf (T.ec "NotCarried" (by simp [c23, c22, c5])), T.no_NotCarried_feature, g7.exo E2, g7.exd F2, rfl, ⟨_, rfl, x_l (SqL.of (g7.lst B2)) rfl ⟨a3, cA K "NotMakable", d3, _, _, rfl, Vf.ExcC.xf (T.ec "NotMakable" (by simp [c23, c22, c5])), T.no_NotMakable_form, g7.exo E3, g7.exd F3, rfl, ⟨_, rfl, x_l (SqL.of (g7.lst B2)) rfl ⟨a3, cA K "NotMakable", d3, _, _, rfl, Vf.ExcC.xf (T.ec "NotMakable" (by simp [c23, c22, c5])), T.no_NotMakable_closed, g7.exo E3, g7.exd F3, rfl, ⟨_, rfl, x_l (SqL.of (g7.lst B2)) rfl ⟨a4, cA K "Gone", d4, _, _, rfl, Vf.ExcC.xf (T.ec "Gone" (by simp [c23, c22, c5])), T.no_Gone_closed, g7.exo E4, g7.exd F4, rfl, ⟨by show 6 ≤ sizeLine; rw [sizeLine_eq]; decide, fun pu hpu => ?_⟩⟩⟩⟩⟩⟩⟩⟩⟩⟩⟩⟩⟩
  refine newH hpu fun Hu gu su => ?_
  have Gu := g7.trans gu
  refine ⟨_, rfl, ⟨_, rfl, x_l (SqL.of (Gu.lst B2)) rfl ⟨a5, cA K "TooMany", d5, _, _, rfl, Vf.ExcC.xf (T.ec "TooMany" (by simp [c23, c22, c5])), T.no_TooMany_limit, Gu.exo E5, Gu.exd F5, rfl, ⟨by show 1 ≤ sizeLine; rw [sizeLine_eq]; decide, fun ru hru => ?_⟩⟩⟩⟩
  refine newH hru fun Hua gua sua => ?_
  refine a_ll (gua.lst su) sua (by rw [sizeLine_eq]; show 6 + 1 ≤ 16777216; decide) fun rub hrub => ?_
  refine newH hrub fun Hub gub sub => ?_
  have Gub := (Gu.trans gua).trans gub
  refine ⟨_, rfl, _, rfl, _, rfl, _, rfl, _, rfl, _, rfl, _, rfl, by show 7 ≤ sizeLine; rw [sizeLine_eq]; decide, fun ru hru => ?_⟩
  refine newH hru fun Hv gv sv => ?_
  have Gv := Gub.trans gv
  have SS := Gv.seqT S2
  have DR : DpAll K Hv [.int m1, .int m2, .str fe, .str fo, .ref pc, .ref pc, .int m3] [.int m1, .int m2, .str fe, .str fo, .tuple (ts.map PyData.str), .tuple (ts.map PyData.str), .int m3] :=
    .cons (.int _) (.cons (.int _) (.cons (.str _) (.cons (.str _) (.cons (Dp.tup SS (dp_strs ts)) (.cons (Dp.tup SS (dp_strs ts)) (.cons (.int _) .nil))))))
  refine n_data (Dp.lst (SqL.of (gv.lst sub)) DR) (Dp.lst (SqL.of sv) DR) (shp_row cfe cfo cts cts) (shp_row cfe cfo cts cts) ⟨_, rfl, ?_⟩
  rw [same (shp_row cfe cfo cts cts)]
  refine iteF ?_
  have hAG := Gv.lst q208
  -- found (w)
  refine ⟨_, rfl, x_l (SqL.of (Gv.lst q208)) rfl ⟨a201, cA K "SyntaxProblem", d201, _, _, rfl, Vf.ExcC.xf (T.ec "SyntaxProblem" (by simp [c23, c22, c5])), T.no_SyntaxProblem_line, Gv.exo E201, Gv.exd F201, rfl, ⟨_, rfl, x_l (SqL.of (Gv.lst q208)) rfl ⟨a201, cA K "SyntaxProblem", d201, _, _, rfl, Vf.ExcC.xf (T.ec "SyntaxProblem" (by simp [c23, c22, c5])), T.no_SyntaxProblem_column, Gv.exo E201, Gv.exd F201, rfl, ⟨_, rfl, x_l (SqL.of (Gv.lst q208)) rfl ⟨a202, cA K "NotCarried", d202, _, _, rfl, Vf.ExcC.xf (T.ec "NotCarried" (by simp [c23, c22, c5])), T.no_NotCarried_feature, Gv.exo E202, Gv.exd F202, rfl, ⟨_, rfl, x_l (SqL.of (Gv.lst q208)) rfl ⟨a204, cA K "NotMakable", d204, _, _, rfl, Vf.ExcC.xf (T.ec "NotMakable" (by simp [c23, c22, c5])), T.no_NotMakable_form, Gv.exo E204, Gv.exd F204, rfl, ⟨_, rfl, x_l (SqL.of (Gv.lst q208)) rfl ⟨a204, cA K "NotMakable", d204, _, _, rfl, Vf.ExcC.xf (T.ec "NotMakable" (by simp [c23, c22, c5])), T.no_NotMakable_closed, Gv.exo E204, Gv.exd F204, rfl, ⟨_, rfl, x_l (SqL.of (Gv.lst q208)) rfl ⟨a206, cA K "Gone", d206, _, _, rfl, Vf.ExcC.xf (T.ec "Gone" (by simp [c23, c22, c5])), T.no_Gone_closed, Gv.exo E206, Gv.exd F206, rfl, ⟨by show 6 ≤ sizeLine; rw [sizeLine_eq]; decide, fun pw hpw => ?_⟩⟩⟩⟩⟩⟩⟩⟩⟩⟩⟩⟩⟩
  refine newH hpw fun Hw gw sw => ?_
  have Gw := Gv.trans gw
  refine ⟨_, rfl, ⟨_, rfl, x_l (SqL.of (Gw.lst q208)) rfl ⟨a207, cA K "TooMany", d207, _, _, rfl, Vf.ExcC.xf (T.ec "TooMany" (by simp [c23, c22, c5])), T.no_TooMany_limit, Gw.exo E207, Gw.exd F207, rfl, ⟨by show 1 ≤ sizeLine; rw [sizeLine_eq]; decide, fun rw hrw => ?_⟩⟩⟩⟩
  refine newH hrw fun Hwa gwa swa => ?_
  refine a_ll (gwa.lst sw) swa (by rw [sizeLine_eq]; show 6 + 1 ≤ 16777216; decide) fun rwb hrwb => ?_
  refine newH hrwb fun Hwb gwb swb => ?_
  have Gwb := (Gw.trans gwa).trans gwb
  refine ⟨_, rfl, _, rfl, Nat.zero_le _, fun t1 ht1 => ?_⟩
  refine newH ht1 fun Hx gx sx => ?_
  refine ⟨by show 1 ≤ sizeLine; rw [sizeLine_eq]; decide, fun t2 ht2 => ?_⟩
  refine newH ht2 fun Hy gy sy => ?_
  refine ⟨_, rfl, by show 7 ≤ sizeLine; rw [sizeLine_eq]; decide, fun rw' hrw => ?_⟩
  refine newH hrw fun Hz gz sz => ?_
  have Gz := ((Gwb.trans gx).trans gy).trans gz
  have c1 : PyData.canLay0 (.str "bold") = true := by decide +kernel
  have c2 : PyData.canLay0 (.str "x") = true := by decide +kernel
  have c3 : ∀ t ∈ ([] : List Str), PyData.canLay0 (.str t) = true := fun t h => by cases h
  have c4 : ∀ t ∈ (["z"] : List Str), PyData.canLay0 (.str t) = true := fun t h => by
    rw [List.mem_singleton.mp h]
    decide +kernel
  have shp := shp_row (a := m4) (b := m3) (c := m4) (f := "bold") (g := "x") (ts := []) (us := ["z"]) c1 c2 c3 c4
  refine n_data (Dp.lst (SqL.of (((gx.trans gy).trans gz).lst swb)) (.cons (.int _) (.cons (.int _) (.cons (.str _) (.cons (.str _) (.cons (Dp.tup (SqT.of (Gz.tup T1)) (dp_strs [])) (.cons (Dp.tup (SqT.of (Gz.tup T2)) (dp_strs ["z"])) (.cons (.int _) .nil))))))))
    (Dp.lst (SqL.of sz) (.cons (.int _) (.cons (.int _) (.cons (.str _) (.cons (.str _) (.cons (Dp.tup (SqT.of ((gy.trans gz).tup sx)) (dp_strs [])) (.cons (Dp.tup (SqT.of (gz.tup sy)) (dp_strs ["z"])) (.cons (.int _) .nil)))))))) shp shp ⟨_, rfl, ?_⟩
  rw [same shp]
  refine iteF ?_
  -- the base class
  refine ⟨_, rfl, fun ac hac => ?_⟩
  refine newH hac fun Hc gc sc => ?_
  refine ⟨ac, "ClipError", rfl, by simp [c23], .inl sc, fun l Hd gd hl sl => ?_⟩
  refine ⟨by show 1 ≤ sizeLine; rw [sizeLine_eq]; decide, fun p1 hp1 => ?_⟩
  refine newH hp1 fun He ge se => ?_
  refine m_ll se (by decide) (by decide) (by show 1 * 22 ≤ sizeLine; rw [sizeLine_eq]; decide) fun p2 hp2 => ?_
  refine newH hp2 fun Hf gf sf => ?_
  refine ⟨by show 2 ≤ sizeLine; rw [sizeLine_eq]; decide, fun p3 hp3 => ?_⟩
  refine newH hp3 fun Hg gg sg => ?_
  refine a_ll (gg.lst sf) sg (by rw [sizeLine_eq]; show 22 + 2 ≤ 16777216; decide) fun p4 hp4 => ?_
  refine newH hp4 fun Hh gh sh => ?_
  have sh : Hh p4 = some (.lst ((List.replicate 22 false ++ [true, true]).map V.bl)) := sh.trans rfl
  rw [kinds_base] at sl
  have sl := (((ge.trans gf).trans gg).trans gh).lst sl
  refine e_data (Dp.lst (SqL.of sl) (dp_bls _)) (Dp.lst (SqL.of sh) (dp_bls _)) (shp_bls _) (shp_bls _) ?_
  rw [same (shp_bls _)]
  exact k _
end
end Vf
end
section
set_option Elab.async false
set_option linter.all false
set_option maxRecDepth 100000
set_option maxHeartbeats 0
namespace Vf
open PySem PySem.Spec PyProof.Rows L2 GxR GenW RZ
/-! ### the head: what stands where the law is called -/
def dd (x : Str) (st : Stmt) : He.DefD := ⟨(x, none), x, x, defArgs st, defBody st, defScope st, [], []⟩
def di (x : Str) (st : Stmt) : He.DefD := ⟨(x, some "__init__"), "__init__", x ++ ".__init__", defArgs st, defBody st, defScope st, [], []⟩
def fns : List He.DefD := [di "SyntaxProblem" s_SyntaxProblem____init__, di "NotCarried" s_NotCarried____init__, di "NotMakable" s_NotMakable____init__, di "Gone" s_Gone____init__, di "TooMany" s_TooMany____init__,
  dd "_law_churned" s__law_churned, dd "_law_urn_of" s__law_urn_of, dd "_law_upto" s__law_upto, dd "_law_choice" s__law_choice, dd "_law_kinds_of" s__law_kinds_of, dd "law" s_law]
def fcs : List He.Fa := [.glo "_law_churned", .glo "_law_urn_of", .glo "_law_upto", .glo "_law_choice", .glo "_law_kinds_of", .glo "law",
  .free "range", .free "abs", .free "enumerate", .free "len", .free "int", .free "repr", .free "isinstance", .free "ValueError",
  .meth "SyntaxProblem" "__init__", .meth "NotCarried" "__init__", .meth "NotMakable" "__init__", .meth "Gone" "__init__", .meth "TooMany" "__init__",
  .noat "SyntaxProblem" "line", .noat "SyntaxProblem" "column", .noat "NotCarried" "feature", .noat "NotMakable" "form", .noat "NotMakable" "closed", .noat "Gone" "closed", .noat "TooMany" "limit"]
def exs (K : PySem.W.Frag) : Bool :=
  c23.all (fun x => decide (PySem.W.nsIn K mainGlobals x = some (some (.ref (cA K x)))) && excCB K (cA K x) && c22.all (fun y => decide (PySem.W.kitOne K (.ref (cA K x)) (.ref (cA K y)) = some (decide (x = y)))) &&
    decide (PySem.W.kitOne K (.ref (cA K x)) (.ref (cA K "ClipError")) = some true) && decide (PySem.W.kitOne K (.ref (cA K x)) (.type "ValueError") = some true)) &&
  (c17 ++ (["ClipError"] : List Str)).all (fun x => PySem.W.excIn K (cA K x) He.veBase "ValueError.__new__" && PySem.W.keepIn K (.ref (cA K x))) && c5.all (fun x => oexB K (cA K x))
abbrev R : PySem.W.OpenRow := PySem.W.OpenLaw.row PySem.Challenge.rw_clipforms_k06_errors
abbrev hk : PySem.W.Hook := He.hookX 5 fcs fns [] [] exs
def ob (s : PySem.W.SharedT) : He.AlX := He.obsX 5 fcs fns [] [] exs (HandSHeadRun.getT s)
theorem ob_eq (s : PySem.W.SharedT) : ob s = hk.obs s.abs := He.obsX_eq (HandSHeadRun.getT_eq s)
def loose : List Str := (["SyntaxProblem", "NotCarried", "NotMakable", "Gone", "TooMany", "NoContent", "NoForm", "NoMaker", "NoProgram", "NoDocument", "NoEntry", "NoPlace", "NoMark", "NotOffered", "NameTaken", "TooLarge", "NothingToUndo", "EditedSince", "HistoryFull", "InvalidCommand", "NoDesk", "NoLink", "ClipError", "_law_churned", "_law_urn_of", "_law_upto", "_law_choice", "_law_kinds_of", "_law_equal"] : List Str)
theorem run (w : World) : HandSHeadRun.RunEq R (PySem.W.view R.prog [31]) hk ob 40000 loose w := by
  intro os
  kernel_rfl
end Vf
end
section
set_option Elab.async false
set_option linter.all false
set_option maxRecDepth 100000
set_option maxHeartbeats 0
namespace Vf
open PySem PySem.Spec PyProof.Rows L2 GxR GenW RZ
section
variable {P : Program} {w : World} {K : PySem.W.Frag} {h : Heap} {mg : Str → Option Value} {base : Heap}
theorem fnd (c : He.SaysD fcs fns K) {x : Str} {st : Stmt} (hm : dd x st ∈ fns) : ∃ fd, FnP K x st fd := c.defs hm
theorem fni (c : He.SaysD fcs fns K) {x : Str} {st : Stmt} (hm : di x st ∈ fns) : ∃ fd, FnI K x st fd := c.defs hm
theorem mk1 {x : Str} {st : Stmt} {k : Nat} {ps : List Str} {sp : Sp} {fd : FuncData} (X : K.In h) (G : h.Ns mainGlobals mg) (c : He.SaysD fcs fns K) (F : FnP K x st fd) (hg : He.Fa.glo x ∈ fcs) (O : FnOk P w K mg base CX0 k (He.fAd K (x, none)) fd ps sp)
    (hb : ∀ (kV doc pm : Value) (an : Option Addr) (cdv ct : Value) (us : List Value), us.length = ps.length → bindArgs (PySem.W.fnOf x x (defArgs st) (defBody st) (defScope st) .none kV doc pm an cdv ct) ⟨us, []⟩ = pure (ps.zip us)) : Df P w K mg base x k ps sp :=
  ⟨⟨_, fd, O, He.glo_ok X G (c.facts hg), F.kp, F.bindsN hb⟩⟩
theorem all_of {α : Type} {l : List α} {p : α → Bool} (h : l.all p = true) : ∀ x ∈ l, p x = true := List.all_eq_true.mp h
theorem tk_of (X : K.In h) (G : h.Ns mainGlobals mg) (c : He.SaysD fcs fns K) (m : exs K = true) : TK K mg := by
  have fr : ∀ {x : Str}, He.Fa.free x ∈ fcs → mg x = none := fun hx => He.free_ok X G (c.facts hx)
  obtain ⟨m12, m3⟩ := He.ba m
  obtain ⟨m1, m2⟩ := He.ba m12
  have a1 : ∀ x ∈ c23, mg x = some (.ref (cA K x)) ∧ ExcC K (cA K x) ∧ (∀ y ∈ c22, PySem.W.kitOne K (.ref (cA K x)) (.ref (cA K y)) = some (decide (x = y))) ∧ PySem.W.kitOne K (.ref (cA K x)) (.ref (cA K "ClipError")) = some true ∧ PySem.W.kitOne K (.ref (cA K x)) (.type "ValueError") = some true := fun x hx => by
    obtain ⟨q, e5⟩ := He.ba (all_of m1 x hx)
    obtain ⟨q, e4⟩ := He.ba q
    obtain ⟨q, e3⟩ := He.ba q
    obtain ⟨e1, e2⟩ := He.ba q
    exact ⟨PySem.W.mg_of X G (of_decide_eq_true e1), excCB_ok e2, fun y hy => of_decide_eq_true (all_of e3 y hy), of_decide_eq_true e4, of_decide_eq_true e5⟩
  refine { b_range := fr (by simp [fcs]), b_abs := fr (by simp [fcs]), b_enumerate := fr (by simp [fcs]), b_len := fr (by simp [fcs]), b_int := fr (by simp [fcs]), b_repr := fr (by simp [fcs]), b_isinstance := fr (by simp [fcs]), b_ValueError := fr (by simp [fcs]),
           g := fun x hx => (a1 x hx).1, ec := fun x hx => (a1 x hx).2.1, kit := fun x hx => (a1 x hx).2.2.1, kic := fun x hx => (a1 x hx).2.2.2.1, kiv := fun x hx => (a1 x hx).2.2.2.2,
           dx := fun x hx => ?_, ox := fun x hx => oexB_ok (all_of m3 x hx), no_SyntaxProblem_line := He.noat_ok (c.facts (f := .noat "SyntaxProblem" "line") (by simp [fcs])), no_SyntaxProblem_column := He.noat_ok (c.facts (f := .noat "SyntaxProblem" "column") (by simp [fcs])), no_NotCarried_feature := He.noat_ok (c.facts (f := .noat "NotCarried" "feature") (by simp [fcs])), no_NotMakable_form := He.noat_ok (c.facts (f := .noat "NotMakable" "form") (by simp [fcs])), no_NotMakable_closed := He.noat_ok (c.facts (f := .noat "NotMakable" "closed") (by simp [fcs])), no_Gone_closed := He.noat_ok (c.facts (f := .noat "Gone" "closed") (by simp [fcs])), no_TooMany_limit := He.noat_ok (c.facts (f := .noat "TooMany" "limit") (by simp [fcs])) }
  obtain ⟨q1, q2⟩ := He.ba (all_of m2 x hx)
  have hx3 : x ∈ c23 := by
    rcases List.mem_append.mp hx with z | z
    · exact List.mem_append_left _ (List.mem_append_right _ z)
    · exact List.mem_append_right _ z
  exact ⟨(a1 x hx3).1, q1, q2⟩
theorem mkI {x : Str} {st : Stmt} {ps : List Str} {sp : Sp} {fd : FuncData} (T : TK K mg) (c : He.SaysD fcs fns K) (hx : x ∈ c5) (F : FnI K x st fd) (hg : He.Fa.meth x "__init__" ∈ fcs) (O : FnOk P w K mg base CX0 1 (He.fAd K (x, some "__init__")) fd ps sp)
    (hb : ∀ (kV doc pm : Value) (an : Option Addr) (cdv ct : Value) (us : List Value), us.length = ps.length → bindArgs (PySem.W.fnOf "__init__" (x ++ ".__init__") (defArgs st) (defBody st) (defScope st) .none kV doc pm an cdv ct) ⟨us, []⟩ = pure (ps.zip us)) : DfI P w K mg base x (cA K x) 1 ps sp := by
  have M := He.meth_ok (c.facts hg)
  exact ⟨⟨_, fd, T.ox x hx, T.g x (List.mem_append_left _ (List.mem_append_left _ hx)), M.at_, beq_iff_eq.mp M.fn, O, F.bindsN hb⟩⟩
theorem law_base (X : K.In h) (G : h.Ns mainGlobals mg) (c : He.SaysD fcs fns K) (T : TK K mg) {fd : FuncData} (FL : FnP K "law" s_law fd) : FnOk P w K mg base CX0 4 (He.fAd K ("law", none)) fd p_law (spLaw K) := by
  obtain ⟨f_law_churned, F_law_churned⟩ := fnd (x := "_law_churned") (st := s__law_churned) c (by simp [fns])
  obtain ⟨f_law_urn_of, F_law_urn_of⟩ := fnd (x := "_law_urn_of") (st := s__law_urn_of) c (by simp [fns])
  obtain ⟨f_law_upto, F_law_upto⟩ := fnd (x := "_law_upto") (st := s__law_upto) c (by simp [fns])
  obtain ⟨f_law_choice, F_law_choice⟩ := fnd (x := "_law_choice") (st := s__law_choice) c (by simp [fns])
  obtain ⟨f_law_kinds_of, F_law_kinds_of⟩ := fnd (x := "_law_kinds_of") (st := s__law_kinds_of) c (by simp [fns])
  obtain ⟨f_SyntaxProblem, F_SyntaxProblem⟩ := fni (x := "SyntaxProblem") (st := s_SyntaxProblem____init__) c (by simp [fns])
  obtain ⟨f_NotCarried, F_NotCarried⟩ := fni (x := "NotCarried") (st := s_NotCarried____init__) c (by simp [fns])
  obtain ⟨f_NotMakable, F_NotMakable⟩ := fni (x := "NotMakable") (st := s_NotMakable____init__) c (by simp [fns])
  obtain ⟨f_Gone, F_Gone⟩ := fni (x := "Gone") (st := s_Gone____init__) c (by simp [fns])
  obtain ⟨f_TooMany, F_TooMany⟩ := fni (x := "TooMany") (st := s_TooMany____init__) c (by simp [fns])
  have d_law_churned := mk1 X G c F_law_churned (by simp [fcs]) (ok_churned F_law_churned T.toTX (P := P) (w := w) (base := base)) fun _ _ _ _ _ _ us hl => match us, hl with | [_, _], _ => rfl
  have d_law_urn_of := mk1 X G c F_law_urn_of (by simp [fcs]) (ok_urn_of F_law_urn_of T.toTX (P := P) (w := w) (base := base)) fun _ _ _ _ _ _ us hl => match us, hl with | [_], _ => rfl
  have d_law_upto := mk1 X G c F_law_upto (by simp [fcs]) (ok_upto F_law_upto T.toTX d_law_churned) fun _ _ _ _ _ _ us hl => match us, hl with | [_, _], _ => rfl
  have d_law_choice := mk1 X G c F_law_choice (by simp [fcs]) (ok_choice F_law_choice T.toTX d_law_upto) fun _ _ _ _ _ _ us hl => match us, hl with | [_, _], _ => rfl
  have d_law_kinds_of := mk1 X G c F_law_kinds_of (by simp [fcs]) (ok_kinds F_law_kinds_of T (P := P) (w := w) (base := base)) fun _ _ _ _ _ _ us hl => match us, hl with | [_], _ => rfl
  have i_SyntaxProblem := mkI T c (by simp [c5]) F_SyntaxProblem (by simp [fcs]) (ok_SyntaxProblem F_SyntaxProblem T (P := P) (w := w) (base := base)) fun _ _ _ _ _ _ us hl => match us, hl with | [_, _, _], _ => rfl
  have i_NotCarried := mkI T c (by simp [c5]) F_NotCarried (by simp [fcs]) (ok_NotCarried F_NotCarried T (P := P) (w := w) (base := base)) fun _ _ _ _ _ _ us hl => match us, hl with | [_, _], _ => rfl
  have i_NotMakable := mkI T c (by simp [c5]) F_NotMakable (by simp [fcs]) (ok_NotMakable F_NotMakable T (P := P) (w := w) (base := base)) fun _ _ _ _ _ _ us hl => match us, hl with | [_, _, _], _ => rfl
  have i_Gone := mkI T c (by simp [c5]) F_Gone (by simp [fcs]) (ok_Gone F_Gone T (P := P) (w := w) (base := base)) fun _ _ _ _ _ _ us hl => match us, hl with | [_, _], _ => rfl
  have i_TooMany := mkI T c (by simp [c5]) F_TooMany (by simp [fcs]) (ok_TooMany F_TooMany T (P := P) (w := w) (base := base)) fun _ _ _ _ _ _ us hl => match us, hl with | [_, _], _ => rfl
  exact ok_law FL T d_law_urn_of d_law_upto d_law_choice d_law_kinds_of i_SyntaxProblem i_NotCarried i_NotMakable i_Gone i_TooMany
end
abbrev LW : PySem.W.OpenLaw := PySem.Challenge.rw_clipforms_k06_errors
theorem law_at {w : World} {mg : Str → Option Value} {fa : Addr} {h : Heap} (Y : hk.says w h) (G : h.Ns mainGlobals mg) (hmg : mg "law" = some (.ref fa)) : ∃ K : PySem.W.Frag, K.In h ∧ LawAtG LW w K CX0 4 63 "script" mg fa h := by
  obtain ⟨K, X, s⟩ := Y
  have c := s.t.d
  have T := tk_of X G c s.more
  obtain ⟨fd, FL⟩ := fnd (x := "law") (st := s_law) c (by simp [fns])
  have e := hmg.symm.trans (He.glo_ok X G (c.facts (f := .glo "law") (by simp [fcs])))
  cases e
  refine ⟨K, X, fd, [], spLaw K, fun p hp => absurd hp List.not_mem_nil, fun p hp => absurd hp List.not_mem_nil, fun p hp => absurd hp List.not_mem_nil, fun s v => ?_, fun H a ns hl _ _ _ hS => ?_, fun base Xb Gb TB => ?_⟩
  · exact (FunD.bindsA (ps := ["script"]) FL fun _ _ _ _ _ _ us hl => match us, hl with | [_], _ => rfl) s [v] rfl
  · exact ⟨a, ns, rfl, hS, hl, fun _ => rfl⟩
  · exact FnG.of (law_base X G c T FL)
end Vf
end
section
set_option Elab.async false
set_option linter.all false
set_option maxRecDepth 100000
set_option maxHeartbeats 0
open PySem PySem.W PySem.Calls PyProof.Rows
theorem PySem.Challenge.cw_clipforms_k06_errors_holds : PySem.Challenge.rw_clipforms_k06_errors.Holds := by
  w_on; o_law
  refine HandSHeadRun.head_any (r := OpenLaw.row PySem.Challenge.rw_clipforms_k06_errors) (q := view (OpenLaw.row PySem.Challenge.rw_clipforms_k06_errors).prog [31]) (H := Vf.hk) (ob := Vf.ob) (M := 40000) (loose := Vf.loose) (d := HandSHeadRun.topDef (OpenLaw.row PySem.Challenge.rw_clipforms_k06_errors).prog 31) (kwd := []) Vf.ob_eq
    (by kernel_rfl) (fun s => by kernel_rfl) Vf.run (by kernel_rfl) (by kernel_rfl) (by kernel_rfl) (by rfl) (by first | assumption | decide +kernel) (by decide +kernel) ⟨rfl, rfl, rfl, rfl, rfl, by decide +kernel⟩ ?hw ?hc
  case hw => w_witness2
  case hc =>
    refine Vf.walkG (l := PySem.Challenge.rw_clipforms_k06_errors) (n := 63) (k := 4) (x := "script") (CX := fun _ => L2.CX0) rfl (by decide) (by kernel_rfl) ⟨rfl, by decide, by decide⟩ ?F (fun _ _ _ _ _ z => z)
    intro w mg fa h Y G hmg0
    have hmg : mg ("law" : PySem.Str) = some (.ref fa) := by
      have e : (HandSHeadRun.topDef (OpenLaw.row PySem.Challenge.rw_clipforms_k06_errors).prog 31).name = ("law" : PySem.Str) := by kernel_rfl
      rw [← e]
      exact hmg0
    exact Vf.law_at Y G hmg
end
