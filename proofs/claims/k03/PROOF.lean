import PyProof.Rows.All
import Wide.All
import OpenK.AllK
import Wide.FinOn
import Lean
import HandS.ForMost
import HandS.Strs
import HandS.Conv
import HandS.TupAny
import HandS.TupMul
import HandS.Zip
import HandS.Deep
import HandS.Codes
import HandS.Wide
import HandS.IsInst
import HandS.AnyAll
import HandS.GenList
import HandS.Defaults
import HandS.Head0
import HandS.Head1
import HandS.Head2
import HandS.HeadEnd
import HandS.HeadHook1
import HandS.HeadHook2
import HandS.HeadHook4
import HandS.HeadWalk
import HandS.EndTab
import PyProof.ReprRoads
import PySem.Challenge.RW_clipforms_k03_forms_of_any_object
import PyProof.ReprLen
import HandS.NestedK
section
set_option Elab.async false
set_option linter.all false
set_option maxRecDepth 100000
set_option maxHeartbeats 4000000
/-! Own layer: defs that are called where no repr runs (FnG), repr of data, unions. -/
namespace Vf
open PySem PySem.Spec PyProof.Rows L2

/-- as FnOk, for calls where no repr is under way -/
structure FnG (P : Program) (w : World) (K : PySem.W.Frag) (mg : Str → Option Value) (base : Heap) (CX : CXT) (k : Nat) (f : Addr) (fd : FuncData) (ps : List Str) (sp : Sp) : Prop where
  len : ∀ vs H Q E, sp vs H Q E → vs.length = ps.length
  run : ∀ (A : Around) (outer : List Env) (s : Shared) (H : Hp) (args : Args) (us : List Value) (vs : List V) (Q : VK) (E : XK), A.guards = some [] → Room k A → Env0 P w K mg base A outer s H →
    BindsTo s fd args (ps.zip us) → Vals vs us → sp vs H Q E → codeAny (model P w) A (.call (.ref f) args) (CR CX outer P w H s Q E) s
section
variable {P : Program} {w : World} {K : PySem.W.Frag} {mg : Str → Option Value} {base : Heap} {CX : CXT} {k : Nat} {f : Addr} {fd : FuncData} {ps : List Str} {sp : Sp}
theorem FnG.of (F : FnOk P w K mg base CX k f fd ps sp) : FnG P w K mg base CX k f fd ps sp :=
  ⟨F.len, fun A outer s H args us vs Q E _ => F.run A outer s H args us vs Q E⟩
theorem deeper_guards {A : Around} {env : Env} (h : A.guards = some []) : (A.deeper env).guards = some [] := h

/-- a def's body where no repr is under way -/
theorem okG {x qual : Str} {params : Arguments} {body : List Stmt} {scope : Scope} {dvs : List V} {kws : List (Str × V)} {N : List Str}
    (F : FunD K x qual params body scope dvs kws f fd) (S : FnScope N ps scope) (len : ∀ vs H Q E, sp vs H Q E → vs.length = ps.length)
    (hbody : ∀ (cdv : Value) (hcv : fd.code = cdv) (A : Around) (outer : List Env) (s : Shared) (H : Hp) (vs : List V) (Q : VK) (E : XK), A.guards = some [] → Room k (A.deeper (envOfC qual scope s.heap.objs.size f cdv)) → sp vs H Q E →
      ∃ t, PSs (cxOf CX P w K mg base N qual scope f cdv A outer s H E) body t ∧ t { nx := fun _ H' => Q .non H', rt := Q } (start N vs) H) :
    FnG P w K mg base CX (k + 1) f fd ps sp := by
  obtain ⟨oc, od, dV, kV, doc, pm, an, cdv, ct, osl, rfl, lk, hcd, _, _⟩ := F.ex
  refine ⟨len, ?_⟩
  intro A outer s H args us vs Q E hg hr e0 hb r hsp
  have inS : K.In s.heap := e0.mod.kin.keeps (fun b o e => (e0.bs b o e).1)
  have noL : s.heap.NoLimit := e0.mod.nolimit.keeps (fun b o e => (e0.bs b o e).1)
  obtain ⟨t, ht, hq⟩ := hbody cdv rfl A outer s H vs Q E hg (hr.deeper _) hsp
  refine codeAny_call_function hr.depth (inS _ _ lk) rfl S.co S.gen rfl (PySem.W.codeRec_of inS hcd) (hb _ _ _ _ (wpAny_newFunctionEnv_cells S.kind ?_ ?_))
  · rintro ⟨n, v⟩ hy
    rcases S.par n (List.of_mem_zip hy).1 with q | q
    · exact Or.inl q
    · exact Or.inr ⟨q, PySem.W.cellsFrom_some _ _ _ (Or.inl q)⟩
  · intro env he s1 x
    subst he
    have I := inv_start (CX := CX) (E := E) (f := f) (cd := cdv) (qual := qual) S hr.hd e0 (len _ _ _ _ hsp) r x
    refine ⟨noL.keeps x.toInCall.keep, codeAny_func (wpAny_mono (ht.run [] s1 (start N vs) H _ I hq) ?_ (fun e s' hs => hs))⟩
    intro fl s' hs
    cases fl with
    | ret u =>
      obtain ⟨v, σ', H', J, rv, q⟩ := hs
      exact ⟨v, H', J.os, J.bare, J.base, J.hok, rv, q⟩
    | next =>
      obtain ⟨σ', H', J, q⟩ := hs
      exact ⟨V.non, H', J.os, J.bare, J.base, J.hok, rfl, q⟩
    | brk => exact hs.elim fun _ z => z.elim fun _ y => y.2.elim
    | cont => exact hs.elim fun _ z => z.elim fun _ y => y.2.elim
end

section
variable {X : Cx} {CX : CXT} {k : Nat} {f : Addr} {fd : FuncData} {ps : List Str} {sp : Sp} {dvs : List V} {ds : List Value} {E : XK} {x : Str} {p pos : Pos} {e : Expr} {es : List Expr} {t : TA}
/-- f(e, ..), f a def of this kind -/
theorem pe_callG (hgu : X.A.guards = some []) (F : FnG X.prog X.w X.K X.mg X.base CX k f fd ps sp) (hr : Room k X.A) (hg : Gl X x) (hm : X.mg x = some (.ref f)) (hk : PySem.W.keepIn X.K (.ref f) = true) (hb : Binds X.K fd ps ds)
    (hd : Vals dvs ds) (hx : Passes CX X E) (ha : PA X (e :: es) t) (hdb : (x == ("__debug__" : Str)) = false := by decide) (he : starEach (e :: es) X.env = (false, eval e X.env) :: starEach es X.env := by rfl)
    (hpl : (backTo pos (starEach es X.env)).any (·.1) = false := by rfl) : PE X (.Call (.Name x p) (e :: es) [] pos) (tCall sp dvs E t) := by
  refine ⟨fun pins s σ H Q I h => wpAny_Call_Name_kw (ld_glob I hg hm ?_ hdb)⟩
  refine PySem.W.callWith_K (h₀ := X.base) I.ok.mod.kin hk (thn (ha.run pos pins s σ H _ I h) ?_) he hpl
  rintro us s1 ⟨vs, H1, I1, r, q⟩
  refine ⟨I1.kIn, ?_⟩
  have r2 : Vals (vs ++ dvs) (us ++ ds) := r.append hd
  have hl : (us ++ ds).length = ps.length := by rw [← r2.length]; exact F.len _ _ _ _ q
  refine wpAny_call (codeAny_mono (F.run X.A X.stack s1 H1 ⟨us, []⟩ (us ++ ds) (vs ++ dvs) Q E hgu hr I1.env0 (hb s1 us I1.kIn hl) r2 q) ?_)
  intro r s' hq
  cases r with
  | error e => exact hx pins σ H1 s1 e s' I1 hq
  | ok fl =>
    cases fl with
    | ret u => exact I1.after hq
    | next => exact hq.elim
    | brk => exact hq.elim
    | cont => exact hq.elim

end
/-! ### data, empty dicts too -/
mutual
inductive Dd (K : PySem.W.Frag) (H : Hp) : V → PyData → Prop
  | non : Dd K H .non .none
  | bl (b : Bool) : Dd K H (.bl b) (.bool b)
  | int (i : Int) : Dd K H (.int i) (.int i)
  | str (x : Str) : Dd K H (.str x) (.str x)
  | lst {a : Addr} {xs : List V} {ds : List PyData} : SqL K H a xs → DdAll K H xs ds → Dd K H (.ref a) (.list ds)
  | tup {a : Addr} {xs : List V} {ds : List PyData} : SqT K H a xs → DdAll K H xs ds → Dd K H (.ref a) (.tuple ds)
  | dct {a : Addr} : H a = some (.dK []) → Dd K H (.ref a) (.dict [])
inductive DdAll (K : PySem.W.Frag) (H : Hp) : List V → List PyData → Prop
  | nil : DdAll K H [] []
  | cons {v : V} {vs : List V} {d : PyData} {ds : List PyData} : Dd K H v d → DdAll K H vs ds → DdAll K H (v :: vs) (d :: ds)
end
mutual
/-- no list within -/
def noLst : PyData → Bool
  | .list _ => false
  | .tuple ds => noLstA ds
  | _ => true
def noLstA : List PyData → Bool
  | [] => true
  | d :: ds => noLst d && noLstA ds
end
section
variable {X : Cx} {pins : List (Addr × Obj)} {σ : L2.St} {H : Hp} {s : Shared}
mutual
theorem Dd.reads (I : Inv X pins σ H s) : ∀ (d : PyData) (v : V) (u : Value), Dd X.K H v d → RelV v u → ∃ as, Reads s.heap u d as ∧ (noLst d = true → sysModules ∉ as)
  | .none, _, _, h, r => by
    cases h; cases r
    exact ⟨_, Reads.none, fun _ => by simp⟩
  | .bool b, _, _, h, r => by
    cases h; cases r
    exact ⟨_, Reads.bool b, fun _ => by simp⟩
  | .int i, _, _, h, r => by
    cases h
    obtain ⟨t, rfl⟩ := r
    exact ⟨_, Reads.int i t, fun _ => by simp⟩
  | .str x, _, _, h, r => by
    cases h
    obtain ⟨t, rfl⟩ := r
    exact ⟨_, Reads.str x t, fun _ => by simp⟩
  | .list ds, _, _, h, r => by
    cases h with
    | lst hs ha =>
      cases r
      obtain ⟨its, rv, ⟨o, n, ho, hc, _, hd⟩, _⟩ := I.list hs
      obtain ⟨as, hr, _⟩ := DdAll.reads I ds _ its ha rv
      exact ⟨_, Reads.list ho hc hd hr, fun z => by simp [noLst] at z⟩
  | .tuple ds, _, _, h, r => by
    cases h with
    | tup hs ha =>
      cases r
      obtain ⟨its, rv, ⟨o, ho, hc, n, hd⟩, _⟩ := I.tuple hs
      obtain ⟨as, hr, hn⟩ := DdAll.reads I ds _ its ha rv
      exact ⟨_, Reads.tuple ho hc hd hr, fun z => hn (by simpa [noLst] using z)⟩
  | .dict kvs, _, _, h, r => by
    cases h with
    | dct hs =>
      cases r
      obtain ⟨_, hne, vs, kv, hd⟩ := I.hok _ _ hs
      cases kv
      obtain ⟨o, es, ep, ho, hx, hda, _, hp, _⟩ := hd
      have e0 : es.toList = [] := by
        generalize es.toList = l at hp
        cases hp
        rfl
      refine ⟨_, Reads.dict (kvs := []) ho hx.1 hda (by rw [e0]; exact ReadsAll.nil) (by rw [e0]; exact ReadsAll.nil), fun _ z => ?_⟩
      simp at z
      rw [← z] at hne
      simp at hne
theorem DdAll.reads (I : Inv X pins σ H s) : ∀ (ds : List PyData) (vs : List V) (us : List Value), DdAll X.K H vs ds → Vals vs us → ∃ as, ReadsAll s.heap us ds as ∧ (noLstA ds = true → sysModules ∉ as)
  | [], _, _, h, r => by
    cases h; cases r
    exact ⟨_, ReadsAll.nil, fun _ => by simp⟩
  | d :: ds, _, _, h, r => by
    cases h with
    | cons h1 h2 =>
      cases r with
      | cons r1 r2 =>
        obtain ⟨as, q1, n1⟩ := Dd.reads I d _ _ h1 r1
        obtain ⟨bs, q2, n2⟩ := DdAll.reads I ds _ _ h2 r2
        refine ⟨_, ReadsAll.cons q1 q2, fun z => ?_⟩
        simp only [noLstA, Bool.and_eq_true] at z
        intro m
        rcases List.mem_append.mp m with m | m
        · exact n1 z.1 m
        · exact n2 z.2 m
end
/-- repr(x) of data -/
theorem call_reprD (hgu : X.A.guards = some []) (hu : X.A.units + 64 < cLine) : CallR X (.builtin "repr") (fun xs H Q => ∃ v d, xs = [v] ∧ Dd X.K H v d ∧ d.showable = true ∧ (d.hasDict = true → noLst d = true) ∧ d.depth < 60 ∧ d.shown.length ≤ sizeLine ∧ Q (.str d.shown) H) := by
  intro pins s σ H xs us Q I r h
  obtain ⟨v, d, rfl, hd, hs, hdd, hdp, hz, q⟩ := h
  obtain ⟨u, rfl, rv⟩ := vals1 r
  have fin : ∀ a as, u = .ref a → Reads s.heap (.ref a) d as → (noLst d = true → sysModules ∉ as) → wpAny (model X.prog X.w) X.A (call (.builtin "repr") [u]) (EP X pins σ Q) X.xe s := by
    rintro a as rfl rd hn
    refine PySem.repr_of_reads' rd hs (fun z => hn (hdd z)) hgu (by omega) (fun _ _ e => e) (fun h' u tk k => ?_) hz
    exact ⟨.str d.shown, H, I.kept k, ⟨_, rfl⟩, q⟩
  cases hd with
  | non => cases rv; exact PySem.P.repr_of_none ⟨.str _, H, I.tok _, ⟨_, rfl⟩, q⟩
  | bl b => cases rv; exact PySem.P.repr_of_bool ⟨.str _, H, I.tok _, ⟨_, rfl⟩, q⟩
  | int i => obtain ⟨t, rfl⟩ := rv; exact PySem.P.repr_of_int (by simpa [PyData.showable] using hs) ⟨.str _, H, I.tok _, ⟨_, rfl⟩, q⟩
  | str y => obtain ⟨t, rfl⟩ := rv; exact PySem.P.repr_of_str ⟨.str _, H, I.tok _, ⟨_, rfl⟩, q⟩ hz
  | lst h1 h2 =>
    obtain ⟨as, rd, hn⟩ := Dd.reads I _ _ _ (Dd.lst h1 h2) rv
    cases rv
    exact fin _ as rfl rd hn
  | tup h1 h2 =>
    obtain ⟨as, rd, hn⟩ := Dd.reads I _ _ _ (Dd.tup h1 h2) rv
    cases rv
    exact fin _ as rfl rd hn
  | dct h1 =>
    obtain ⟨as, rd, hn⟩ := Dd.reads I _ _ _ (Dd.dct h1) rv
    cases rv
    exact fin _ as rfl rd hn
end
end Vf
end
section
set_option Elab.async false
set_option linter.all false
set_option maxRecDepth 100000
set_option maxHeartbeats 4000000
/-! The end of a law's row whose law is such a def. -/
namespace Vf
open PySem PySem.Spec PyProof.Rows L2 GxR
section
variable {P : Program} {w : World} {K : PySem.W.Frag} {mg mb : Str → Option Value} {CX : CXT} {k : Nat} {fa a : Addr} {cs : List (Addr × Addr)} {fd : FuncData} {x : Str} {sp : Sp} {s₁ : Shared} {vs : List Value} {ns : List Int}

/-- the script's own object -/
abbrev lo (vs : List Value) : Obj := { cls := .type "list", data := .seq vs.toArray }
/-- what is tracked where the law is called -/
def H1st (K : PySem.W.Frag) (T : List Addr) (a : Addr) (vs : List Value) (ns : List Int) : Hp := fun b =>
  if b ∈ T then some (.tbl #[]) else if b = a ∧ K.lookup a = none then some (.frz (lo vs) (.lst (ns.map V.int))) else none
theorem H1st_tab {T : List Addr} {b : Addr} (h : b ∈ T) : H1st K T a vs ns b = some (.tbl #[]) := if_pos h
theorem H1st_cases (T : List Addr) (b : Addr) : (b ∈ T ∧ H1st K T a vs ns b = some (.tbl #[])) ∨ (b ∉ T ∧ b = a ∧ K.lookup a = none ∧ H1st K T a vs ns b = some (.frz (lo vs) (.lst (ns.map V.int)))) ∨ (b ∉ T ∧ H1st K T a vs ns b = none) := by
  unfold H1st
  by_cases h1 : b ∈ T
  · exact Or.inl ⟨h1, if_pos h1⟩
  · by_cases h2 : b = a ∧ K.lookup a = none
    · exact Or.inr (Or.inl ⟨h1, h2.1, h2.2, by rw [if_neg h1, if_pos h2]⟩)
    · exact Or.inr (Or.inr ⟨h1, by rw [if_neg h1, if_neg h2]⟩)

theorem law_callG (inK : K.In s₁.heap) (gl : s₁.heap.Ns mainGlobals mg) (bl : s₁.heap.Ns builtinsNs mb) (bb : ∀ x : Str, x ≠ "__name__" → mb x = bootBuiltins x) (nl : s₁.heap.NoLimit) (ge : s₁.gens = #[])
    (tE : ∀ p ∈ cs, s₁.heap.get? p.2 = some { cls := .none, data := .fields #[] }) (tK : ∀ p ∈ cs, K.lookup p.2 = none) (cH : ∀ p ∈ cs, PySem.W.CodeHd s₁.heap p.1 p.2)
    (bM : ∃ (bm : Addr) (ob : Obj), mg "__builtins__" = some (.ref bm) ∧ bm ≠ builtinsNs ∧ s₁.heap.get? bm = some ob ∧ ob.cls = .type "module" ∧ ob.dict = some builtinsNs ∧ ob.data = .plain)
    (aL : s₁.heap.get? a = some (lo vs)) (iA : IntsAre vs ns) (nz : ns.length ≤ sizeLine) (hr : Room k callerA)
    (F : ∀ base : Heap, K.In base → base.Ns mainGlobals mg → (∀ p ∈ cs, TabB base mg p.1 p.2) → FnG P w K mg base CX k fa fd [x] sp) (bnd : ∀ (s : Shared) (u : Value), BindsTo s fd ⟨[u], []⟩ [(x, u)])
    (hsp : ∀ H : Hp, (∀ p ∈ cs, H p.2 = some (.tbl #[])) → (∀ b, H b = none ∨ b ∈ cs.map (·.2) ∨ b = a) → SqL K H a (ns.map V.int) → sp [.ref a] H (fun v _ => v = .bl true) fun _ _ _ => False)
    (nX : ∀ H e s', CX [] H s₁ (fun _ _ _ => False) e s' → False) :
    codeAny (model P w) callerA (.call (.ref fa) ⟨[.ref a], []⟩) (fun r s' => r = .ok (.ret (.bool true)) ∧ OldK s₁.heap s'.heap ∧ s'.os = s₁.os ∧ AllBare s'.gens) s₁ := by
  have vl := vals_ints iA
  have ln := iA.length
  generalize eT : cs.map (·.2) = T at hsp
  have inT : ∀ p ∈ cs, p.2 ∈ T := fun p hp => eT ▸ List.mem_map.mpr ⟨p, hp, rfl⟩
  have ofT : ∀ b ∈ T, ∃ p ∈ cs, p.2 = b := fun b hb => by
    rw [← eT] at hb
    exact List.mem_map.mp hb
  have tO : ∀ b ∈ T, s₁.heap.get? b = some { cls := .none, data := .fields #[] } := fun b hb => by
    obtain ⟨p, hp, rfl⟩ := ofT b hb
    exact tE p hp
  have aT : a ∉ T := fun z => by
    have q := tO a z
    rw [aL] at q
    exact nomatch congrArg Obj.data (Option.some.inj q)
  generalize eH : H1st K T a vs ns = H
  have cas := fun b => eH ▸ H1st_cases (K := K) (a := a) (vs := vs) (ns := ns) T b
  have hT : ∀ b ∈ T, H b = some (.tbl #[]) := fun b hb => eH ▸ H1st_tab hb
  -- an object that is neither a list nor an empty record is not tracked
  have plainO : ∀ {b : Addr} {o : Obj}, s₁.heap.get? b = some o → (∀ ys m, o.data ≠ .seq ys m) → o.data ≠ .fields #[] → H b = none := by
    intro b o e h1 h2
    rcases cas b with ⟨hb, _⟩ | ⟨_, rfl, _, _⟩ | ⟨_, h⟩
    · rw [tO b hb] at e
      exact (h2 (Option.some.inj e ▸ rfl)).elim
    · rw [aL] at e
      cases e
      exact (h1 _ _ rfl).elim
    · exact h
  have nsT : ∀ {b : Addr} {m : Str → Option Value}, s₁.heap.Ns b m → (hidT s₁.heap H).Ns b m := by
    rintro b m ⟨o, es, ep, e, d, r⟩
    exact ⟨o, es, ep, hidT_get e (plainO e (fun ys m z => nomatch d.symm.trans z) fun z => nomatch d.symm.trans z), d, r⟩
  have inB : K.In (hidT s₁.heap H) := fun b o e => by
    refine hidT_get (inK b o e) ?_
    rcases cas b with ⟨hb, _⟩ | ⟨_, rfl, h, _⟩ | ⟨_, h⟩
    · obtain ⟨p, hp, rfl⟩ := ofT b hb
      exact nomatch (tK p hp).symm.trans e
    · exact nomatch h.symm.trans e
    · exact h
  have M : L2.Mod K mg (hidT s₁.heap H) := by
    refine ⟨inB, nsT gl, ⟨mb, nsT bl, bb⟩, ?_⟩
    obtain ⟨mc, h1, h2⟩ := nl
    exact ⟨mc, nsT h1, h2⟩
  have TB : ∀ p ∈ cs, TabB (hidT s₁.heap H) mg p.1 p.2 := by
    intro p hp
    refine ⟨?_, ?_, ?_⟩
    · obtain ⟨o, us, file, tf, flags, tg, inF, text, tt, e1, r1, r2, r3, rest⟩ := cH p hp
      exact ⟨o, us, file, tf, flags, tg, inF, text, tt, hidT_get e1 (plainO e1 (fun ys m z => nomatch r2.symm.trans z) fun z => by
        rw [r2] at z
        injection z with z
        rw [z] at r3
        simp at r3), r1, r2, r3, rest⟩
    · obtain ⟨bm, ob, b1, b2, b3, b4, b5, b6⟩ := bM
      have d1 : ∀ ys m, ob.data ≠ .seq ys m := fun ys m z => nomatch b6.symm.trans z
      have d2 : ob.data ≠ .fields #[] := fun z => nomatch b6.symm.trans z
      refine ⟨bm, ob, b1, b2, ?_, ?_, hidT_get b3 (plainO b3 d1 d2), b4, b5, b6⟩
      · rintro rfl
        obtain ⟨o, es, ep, e, hd, _⟩ := gl
        rw [b3] at e
        rw [Option.some.inj e] at b6
        exact nomatch hd.symm.trans b6
      · rintro rfl
        rw [tE p hp] at b3
        exact d2 (Option.some.inj b3 ▸ rfl)
    · intro z
      obtain ⟨o, es, ep, e, hd, _⟩ := gl
      rw [z, tE p hp] at e
      rw [← Option.some.inj e] at hd
      exact nomatch hd
  have ok : HOk P w H s₁.heap := fun b u e => by
    rcases cas b with ⟨hb, h⟩ | ⟨_, rfl, _, h⟩ | ⟨_, h⟩
    · rw [h] at e
      cases e
      exact tO b hb
    · rw [h] at e
      cases e
      exact ⟨aL, by rw [List.length_map]; exact nz, vs, _, vl, aL⟩
    · rw [h] at e
      cases e
  have SQ : SqL K H a (ns.map V.int) := by
    rcases cas a with ⟨hb, _⟩ | ⟨_, _, _, h⟩ | ⟨_, h⟩
    · exact (aT hb).elim
    · exact Or.inl (Or.inr ⟨_, h⟩)
    · cases q : K.lookup a with
      | none =>
        rw [← eH] at h
        unfold H1st at h
        rw [if_neg aT, if_pos ⟨rfl, q⟩] at h
        cases h
      | some o =>
        have e := inK a o q
        rw [aL] at e
        cases e
        exact Or.inr ⟨_, vs.toArray, _, q, rfl, rfl, rfl, by rw [List.size_toArray, ln]; exact nz, by simpa using vl⟩
  have E0 : Env0 P w K mg (hidT s₁.heap H) callerA [] s₁ H := ⟨rfl, M, fun b o e => of_hidT e, Nat.le_of_eq (hidT_size _ _), trivial, fun b hb => absurd (show b ∈ ([] : List Addr) from hb) (by simp), ok, AllBare.of_eq ge⟩
  have go := (F _ inB (nsT gl) TB).run callerA [] s₁ H ⟨[.ref a], []⟩ [.ref a] [.ref a] _ _ rfl hr E0 (bnd s₁ (.ref a)) (.cons rfl .nil) (hsp H (fun p hp => hT _ (inT p hp)) (fun b => by
    rcases cas b with ⟨hb, _⟩ | ⟨_, h, _, _⟩ | ⟨_, h⟩
    · exact Or.inr (Or.inl hb)
    · exact Or.inr (Or.inr h)
    · exact Or.inl h) SQ)
  refine codeAny_mono go ?_
  intro r s' h
  cases r with
  | error e => exact (nX H e s' h).elim
  | ok fl =>
    cases fl with
    | next => exact h.elim
    | brk => exact h.elim
    | cont => exact h.elim
    | ret u =>
      obtain ⟨v, H', os, bare, un, ok', r', q⟩ := h
      cases (show v = .bl true from q)
      cases (show u = Value.bool true from r')
      have same : ∀ b o, b ∉ T → s₁.heap.get? b = some o → s'.heap.get? b = some o := by
        intro b o nb e
        rcases cas b with ⟨hb, _⟩ | ⟨_, rfl, _, h⟩ | ⟨_, h⟩
        · exact (nb hb).elim
        · rw [aL] at e
          cases e
          exact (ok' b _ (un.frzs b _ _ h)).1
        · exact un.keep b o e h (fun z => absurd (show b ∈ ([] : List Addr) from z) (by simp)) (by simp)
      have grew : ∀ b ∈ T, ∃ more : Array Value, s'.heap.get? b = some { cls := .none, data := .fields more } := fun b hb => by
        obtain ⟨more, z⟩ := un.tbls b #[] (hT b hb)
        exact ⟨_, ok' b _ z⟩
      refine ⟨rfl, ⟨?_, ?_⟩, os, bare⟩
      · intro b o e
        by_cases hb : b ∈ T
        · obtain ⟨more, hm⟩ := grew b hb
          rw [tO b hb] at e
          cases e
          obtain ⟨p, hp, rfl⟩ := ofT b hb
          exact Or.inr (Or.inl ⟨((cH p hp).tab (tE p hp)).isCodeTable, rfl, #[], more, rfl, by rw [Array.empty_append]; exact hm⟩)
        · exact Or.inl (same b o hb e)
      · intro b o e
        by_cases hb : b ∈ T
        · obtain ⟨more, hm⟩ := grew b hb
          exact ⟨_, hm⟩
        · exact ⟨o, same b o hb e⟩
end
/-- what is known of the law at the head's heap -/
def LawAtG (l : PySem.W.OpenLaw) (w : World) (K : PySem.W.Frag) (CX : CXT) (k n : Nat) (x : Str) (mg : Str → Option Value) (fa : Addr) (h : Heap) : Prop :=
  ∃ (fd : FuncData) (cs : List (Addr × Addr)) (sp : Sp), (∀ p ∈ cs, h.get? p.2 = some { cls := .none, data := .fields #[] }) ∧ (∀ p ∈ cs, K.lookup p.2 = none) ∧ (∀ p ∈ cs, PySem.W.CodeHd h p.1 p.2) ∧
    (∀ (s : Shared) (u : Value), BindsTo s fd ⟨[u], []⟩ [(x, u)]) ∧
    (∀ (H : Hp) (a : Addr) (ns : List Int), ns.length ≤ n → (∀ z ∈ ns, Builtin.Int.intBits z ≤ 1048576) → (∀ p ∈ cs, H p.2 = some (.tbl #[])) → (∀ b, H b = none ∨ b ∈ cs.map (·.2) ∨ b = a) → SqL K H a (ns.map V.int) →
      sp [.ref a] H (fun v _ => v = .bl true) fun _ _ _ => False) ∧
    ∀ base : Heap, K.In base → base.Ns mainGlobals mg → (∀ p ∈ cs, TabB base mg p.1 p.2) → FnG l.prog w K mg base CX k fa fd [x] sp
theorem walkG {l : PySem.W.OpenLaw} {n k : Nat} {q : Program} {loose : List Str} {XP : (Str → Option Value) → Heap → Prop} {YP : World → Heap → Prop} {d : DefRec} {CX : World → CXT} {x : Str}
    (hn : l.most = some n) (n2 : n ≤ sizeLine) (nd : d.params.defaults = []) (hr : Room k callerA)
    (F : ∀ (w : World) (mg : Str → Option Value) (fa : Addr) (h : Heap), YP w h → h.Ns mainGlobals mg → mg d.name = some (.ref fa) → ∃ K : PySem.W.Frag, K.In h ∧ LawAtG l w K (CX w) k n x mg fa h)
    (nX : ∀ (w : World) (H : Hp) (s : Shared) (e : Value) (s' : Shared), CX w [] H s (fun _ _ _ => False) e s' → False) :
    PySem.W.WalkO q loose XP YP l.row.toRowW d [] (fun f vs => PySem.call f vs) := by
  refine Att.attach_callB hn nd ?_
  intro w s₀ s₁ mg mb fa o pm cd doc a vs ns G Y ho hd hcd hmg hobj hints hlen hbits hg
  obtain ⟨K, KX, fd, cs, sp, h1, h2, h3, h4, h5, h6⟩ := F w mg fa _ Y G.T.g hmg
  exact law_callG KX G.T.g G.T.b G.T.builtins G.T.nolimit hg h1 h2 h3 G.T.bmain hobj hints (Nat.le_trans hlen n2) hr h6 h4 (fun H hH hO hS => h5 H a ns hlen hbits hH hO hS) fun H e s' => nX w H s₁ e s'
end Vf
end
section
set_option Elab.async false
set_option linter.all false
set_option maxRecDepth 100000
set_option maxHeartbeats 4000000
/-! any, all of a generator expression whose element may call defs. -/
namespace Vf
open PySem PySem.Spec PyProof.Rows L2 GxR

/-- a generator expression's own names, over the names N of the def around (scope sc): own, the slots that it hides -/
structure GOk (N : List Str) (sc scope : Scope) (x : Str) (own : List Nat) : Prop where
  kind : scope.kind = .function
  co : scope.isCoroutine = false
  cell : ∀ y ∈ scope.names, y.2 ≠ .cell
  dot : scope.names.lookup (".0" : Str) = some NameKind.local
  loc : scope.names.lookup x = some .local
  free : ∀ y ∈ scope.names, y.2 = .free → sc.names.lookup y.1 = some .cell ∨ sc.names.lookup y.1 = some .free
  own : ∀ p ∈ N.zipIdx, scope.names.lookup p.1 = some .local → p.2 ∈ own
def gokB (N : List Str) (sc scope : Scope) (x : Str) (own : List Nat) : Bool :=
  (match scope.kind with | .function => true | _ => false) && !scope.isCoroutine && scope.names.all (fun y => decide (y.2 ≠ .cell)) && decide (scope.names.lookup (".0" : Str) = some NameKind.local) && decide (scope.names.lookup x = some .local) &&
  scope.names.all (fun y => decide (y.2 ≠ .free) || decide (sc.names.lookup y.1 = some .cell) || decide (sc.names.lookup y.1 = some .free)) &&
  N.zipIdx.all (fun p => decide (scope.names.lookup p.1 ≠ some .local) || own.contains p.2)
theorem gok_by {N : List Str} {sc scope : Scope} {x : Str} {own : List Nat} (h : gokB N sc scope x own = true) : GOk N sc scope x own := by
  unfold gokB at h
  simp only [Bool.and_eq_true, List.all_eq_true, decide_eq_true_eq, Bool.or_eq_true, Bool.not_eq_true'] at h
  obtain ⟨⟨⟨⟨⟨⟨h1, h2⟩, h3⟩, h4⟩, h5⟩, h6⟩, h7⟩ := h
  refine ⟨?_, h2, h3, h4, h5, fun y hy e => ?_, fun p hp e => ?_⟩
  · split at h1
    · assumption
    · cases h1
  · rcases h6 y hy with (q | q) | q
    · exact absurd e q
    · exact Or.inl q
    · exact Or.inr q
  · rcases h7 p hp with q | q
    · exact absurd e q
    · exact List.contains_iff_mem.mp q

/-- the frame of the generator while it runs: A around it, s and H where it was made, fp its iterator's objects -/
abbrev gcx (X : Cx) (A : Around) (s : Shared) (H : Hp) (genv : Env) (fp : List Addr) : Cx :=
  { X with A := A, s_0 := s, H_0 := H, env := genv, outer := X.stack, stack := genv :: X.stack, ex := fp, fn := fun _ => false, calm := true, pn := [], xe := fun _ _ => False }

theorem over_comp {A : Around} {elt tg iter : Expr} {ifs : List Expr} {scope : Scope} {pos : Pos} {it acc : Value} {env : Env} :
    A.over (.compLoop (.GeneratorExp elt [⟨tg, iter, ifs, 0⟩] scope pos) 0 it acc env) [] = A.deeper env := by
  first
    | rfl
    | (obtain ⟨hd, d, fr, gs, u⟩ := A; simp [Around.over, Around.deeper, marksOver, frameCount, unitsOf, envsOf, guardsOf, pushEnvs, pushGuards, Code.envs, Code.env?, Code.isFrame, Code.guards, Code.isGuard, Code.weight, Code.frames, Code.isCreation, Code.isCaller, Code.cUnits])
theorem over_start {A : Around} {elt tg iter : Expr} {ifs : List Expr} {scope : Scope} {pos : Pos} {it acc : Value} {env : Env} :
    A.over (.compStart (.GeneratorExp elt [⟨tg, iter, ifs, 0⟩] scope pos) 0 it acc env) [] = A.deeper env := by
  first
    | rfl
    | (obtain ⟨hd, d, fr, gs, u⟩ := A; simp [Around.over, Around.deeper, marksOver, frameCount, unitsOf, envsOf, guardsOf, pushEnvs, pushGuards, Code.envs, Code.env?, Code.isFrame, Code.guards, Code.isGuard, Code.weight, Code.frames, Code.isCreation, Code.isCaller, Code.cUnits])

section
variable {X : Cx} {pins : List (Addr × Obj)} {σ : L2.St} {H : Hp} {s : Shared}

/-- the generator's frame as it is made -/
theorem gen_start {A : Around} {scope : Scope} {x : Str} {own : List Nat} {fp : List Addr} {it : Value} {code : Value} {h' h5 : Heap} {g5 : Array GenState} {t5 : Nat} {go : Obj} {a : Addr}
    (hA : A.handled = none) (hAf : A.frames = some (genEnv scope (cloFrom X.env.cells scope.names []) s.heap.objs.size code builtinsNs X.env :: X.stack))
    (I : Inv X pins σ H s) (ok : GOk X.N X.env.scope scope x own) (hfp : ∀ b ∈ fp, FpOk X pins H b ∧ b < s.heap.objs.size)
    (k5 : ∀ b o, s.heap.get? b = some o → h5.get? b = some o) (n5 : h5.Ns s.heap.objs.size (fun y => if y = (".0" : Str) then some it else none)) (b5 : AllBare g5)
    (ha : s.heap.objs.size < a) (ga : h5.get? a = some go) (gd : ∀ v, go.data ≠ .cell v) :
    Inv (gcx X A s H (genEnv scope (cloFrom X.env.cells scope.names []) s.heap.objs.size code builtinsNs X.env) fp) [(a, go)] (wipe σ own) H { s with heap := h5, gens := g5, toks := t5 } := by
  have hfree : ∀ y, (y, NameKind.free) ∈ scope.names → ∃ c, X.env.cells.lookup y = some c := fun y hy => by
    rcases ok.free _ hy rfl with k | k
    · exact I.ok.has _ (.inl k)
    · exact I.ok.has _ (.inr k)
  have cm : ∀ {y c}, (y, c) ∈ cloFrom X.env.cells scope.names [] → X.env.cells.lookup y = some c := fun {y c} hm => by
    rcases cloFrom_mem hm with hm | ⟨h1, rfl⟩
    · cases hm
    · obtain ⟨c, hc⟩ := hfree _ h1
      rw [hc]; rfl
  have cl : ∀ {y c}, (cloFrom X.env.cells scope.names []).lookup y = some c → X.env.cells.lookup y = some c := fun {y c} e => cm (PySem.mem_of_lookup e)
  have lk : ∀ {y}, scope.names.lookup y = some .free → ∃ c, (cloFrom X.env.cells scope.names []).lookup y = some c ∧ X.env.cells.lookup y = some c := fun {y} hl => by
    obtain ⟨c', e'⟩ := mem_lookup (cloFrom_has (cells := X.env.cells) (acc := []) (PySem.mem_of_lookup hl))
    exact ⟨c', e', cl e'⟩
  have nC : ∀ b, b ∈ fp → b ≠ s.heap.objs.size := fun b hb => Nat.ne_of_lt (hfp b hb).2
  refine ⟨⟨I.ok.mod, ok.kind, I.ok.glob, rfl, Nat.le_refl _, fun y z c e1 e2 => I.ok.inj y z c (cl e1) (cl e2), fun y hy => ?_, fun y c e => Bool.noConfusion (show false = true from e), fun _ => hA, hAf, .inr ⟨rfl, rfl⟩, fun b hb => ⟨nC b hb, fun y c e z => ?_⟩, I.bs,
      Nat.le_trans I.ok.bsz I.sz, fun b o e hb => ?_, fun b hb z => ?_, I.stack, I.stkFree⟩, rfl, b5, Un.kept k5, ⟨_, n5, fun i y v e1 e2 e3 => ?_⟩, fun y c e => ?_, I.hok.fresh (Nat.le_refl _), fun y c e => I.freeC y c (cl e), fun p hp => ?_, I.hok.kept k5, by rw [wipe_length]; exact I.len⟩
  · have hy : scope.names.lookup y = some .cell ∨ scope.names.lookup y = some .free := hy
    rcases hy with hy | hy
    · exact absurd rfl (ok.cell _ (PySem.mem_of_lookup hy))
    · obtain ⟨c, h1, _⟩ := lk hy
      exact ⟨c, h1⟩
  · exact (hfp b hb).1.2.2.2.2.1 y c (cl e) z
  · rcases (hfp b hb).1.2.2.2.1 with z | z
    · exact I.ok.noex b o e z
    · exact absurd (Nat.lt_of_lt_of_le (Heap.lt_size e) (Nat.le_trans I.ok.bsz z)) (Nat.lt_irrefl _)
  · rcases List.mem_cons.mp (I.stkSub b z) with z | z
    · exact (hfp b hb).1.2.1 z
    · exact (hfp b hb).1.2.2.1 z
  · obtain ⟨e2, hne⟩ := wipe_some e2
    have e3 : scope.names.lookup y = some .local ∨ scope.names.lookup y = some .cell ∨ scope.names.lookup y = some .free := e3
    have e1' : X.N[i]? = some y := e1
    rcases e3 with e3 | e3 | e3
    · have hm : (y, i) ∈ X.N.zipIdx := by
        rw [List.mem_zipIdx_iff_getElem?]
        exact e1'
      exact absurd (ok.own _ hm e3) hne
    · exact absurd rfl (ok.cell _ (PySem.mem_of_lookup e3))
    · obtain ⟨m, hn, hl⟩ := I.loc
      have hsc := ok.free _ (PySem.mem_of_lookup e3) rfl
      obtain ⟨u, r, q⟩ := hl i y v e1' e2 (hsc.elim (fun k => .inr (.inl k)) fun k => .inr (.inr k))
      obtain ⟨c, h1, h2⟩ := lk e3
      refine ⟨u, r, .inr ⟨.inr e3, c, h1, ?_⟩⟩
      rcases q with ⟨k, _⟩ | ⟨_, c', e', z⟩
      · have k : X.env.scope.names.lookup y = some .local := k
        rcases hsc with k' | k' <;> (have k' : X.env.scope.names.lookup y = _ := k'; rw [k] at k'; cases k')
      · rw [h2] at e'; cases e'
        exact z.keeps k5
  · obtain ⟨v, z⟩ := I.cell y c (cl e)
    exact ⟨v, z.keeps k5⟩
  · have hp : p ∈ ([] : List (Addr × Obj)) ++ [(a, go)] := hp
    simp only [List.nil_append, List.mem_singleton] at hp
    subst hp
    refine ⟨ga, I.hok.fresh (Nat.le_of_lt ha), Nat.ne_of_gt ha, fun z => ?_, gd⟩
    have z : a ∈ frs X.stack := z
    rcases List.mem_cons.mp (I.stkSub a z) with z | z
    · have := I.lt
      rw [← z] at this
      exact absurd (Nat.lt_trans this ha) (Nat.lt_irrefl _)
    · exact I.nofs (Nat.le_of_lt ha) z
end
end Vf
end
section
set_option Elab.async false
set_option linter.all false
set_option maxRecDepth 100000
set_option maxHeartbeats 4000000
namespace Vf
open PySem PySem.Spec PyProof.Rows L2 GxR

/-- while the generator sleeps nothing happens to the heap -/
structure Slp (s s' : Shared) : Prop where
  os : s'.os = s.os
  bare : AllBare s'.gens
  heap : s'.heap = s.heap
theorem Inv.slp {X : Cx} {pins : List (Addr × Obj)} {σ : L2.St} {H : Hp} {s s' : Shared} (I : Inv X pins σ H s) (z : Slp s s') : Inv X pins σ H s' := by
  obtain ⟨h1, h2, h3⟩ := z
  exact I.call' (ch := []) h1 (by rw [h3]; exact Un.refl) (by rw [h3]; exact I.hok) h2 (fun b hb => absurd hb (by simp))

/-- what the turns of an any (cont false), an all (cont true) are to reach -/
def Turns (cont : Bool) (j : Nat) (σ0 : L2.St) (tt : TT) (te : TE) (J : It) (Q : VK) (W : Nat → Nat → Hp → Prop) : Prop :=
  ∀ i m H, W i m H → (J.stop i H ∧ Q (.bl cont) H) ∨ (J.go i H ∧ ∃ Nx : Hp → Prop, (∀ H', Nx H' → ∃ m', m' < m ∧ W (i + 1) m' H') ∧ ∀ y H', J.yld i H y H' →
    tt (σ0.set j (some y)) H' fun b H3 => if b = true then te (σ0.set j (some y)) H3 fun z H4 => ∃ c, z = .bl c ∧ (if c = cont then Nx H4 else Q (.bl (!cont)) H4) else Nx H3)
def GPr (Xg : Cx) (pin : List (Addr × Obj)) (σ0 : L2.St) (Q : VK) (cont : Bool) : Protocol := fun n s₀ v s kap =>
  ∃ c H, v = .bool c ∧ Inv Xg pin σ0 H s ∧ (if c = cont then ∀ s', Slp s s' → kap (.send .none) s' else Q (.bl (!cont)) H)
def GRe (Xg : Cx) (pin : List (Addr × Obj)) (σ0 : L2.St) (Q : VK) (cont : Bool) : GenEnd := fun n s₀ r s => r = .ok .next ∧ ∃ H, Inv Xg pin σ0 H s ∧ Q (.bl cont) H

section
variable {Xg : Cx} {A : Around} {elt iter : Expr} {ifs : List Expr} {x : Str} {px : Pos} {scope : Scope} {pos : Pos} {it : Addr} {fp : List Addr} {tn : Nat → Heap → Prop} {J : It} {pin : List (Addr × Obj)} {j : Nat} {tt : TT} {te : TE} {σ0 : L2.St}
  {Q : VK} {W : Nat → Nat → Hp → Prop} {cont : Bool}
theorem seg_gl (hc : Xg.calm = true) (hov : A.deeper Xg.env = Xg.A) (T : Turn Xg.prog Xg.w Xg.K (.Name x px) J fp it tn) (hpn : Xg.pn = []) (hex : Xg.ex = fp) (hpin : ∀ p ∈ pin, p.1 ∉ fp)
    (pg : PG Xg (.Name x px) (gName j)) (pt : PTs Xg ifs tt) (pe : PE Xg elt te) (h0 : ∀ v, σ0[j]? ≠ some (some v)) (hco : Xg.env.scope.isCoroutine = false) (hxe : Xg.xe = fun _ _ => False) (tu : Turns cont j σ0 tt te J Q W) :
    ∀ (m n i : Nat) (s₀ s : Shared) (H : Hp), m < n → Inv Xg pin σ0 H s → tn i s.heap → (∀ b ∈ fp, H b = none) → W i m H →
      Seg (model Xg.prog Xg.w) A (GRe Xg pin σ0 Q cont) (GPr Xg pin σ0 Q cont) n s₀ (.compLoop (.GeneratorExp elt [⟨.Name x px, iter, ifs, 0⟩] scope pos) 0 (.ref it) .none Xg.env)
        ((model Xg.prog Xg.w).den (.compLoop (.GeneratorExp elt [⟨.Name x px, iter, ifs, 0⟩] scope pos) 0 (.ref it) .none Xg.env)) [] s := by
  have stat : ∀ {σ' : L2.St} {H' : Hp} {s' : Shared}, Inv Xg pin σ' H' s' → (∀ b ∈ fp, H' b = none) → ∀ b ∈ fp, FpOk Xg pin H' b := fun {σ' H' s'} I' hn b hb => by
    have hb' : b ∈ Xg.ex := hex ▸ hb
    refine ⟨hn b hb, (I'.ok.exf b hb').1, I'.ok.exfs b hb', .inl hb', fun x c e => (I'.ok.exf b hb').2 x c e, fun p hp z => ?_⟩
    rw [hpn, List.nil_append] at hp
    exact hpin p hp (z ▸ hb)
  have oA : A.over (.compLoop (.GeneratorExp elt [⟨.Name x px, iter, ifs, 0⟩] scope pos) 0 (.ref it) .none Xg.env) [] = Xg.A := over_comp.trans hov
  intro m
  induction m using Nat.strongRecOn with
  | _ m ih =>
  intro n i s₀ s H hmn I st nf w
  show Seg _ A _ _ _ s₀ _ ((compTurn (.GeneratorExp elt [⟨.Name x px, iter, ifs, 0⟩] scope pos) 0 (.ref it) .none Xg.env).onRaise (leaving Xg.env)) [] s
  rw [compTurn_gen, Sem.onRaise_eq_wrap]
  refine seg_bind_wrap (wpAny_standAt ?_)
  rcases tu i m H w with ⟨stop, qq⟩ | ⟨go, Nx, hNx, step⟩
  · refine seg_bind_wrap ?_
    rw [oA]
    refine thnF (T.done Xg rfl rfl rfl hc i pin s _ H (fun _ _ => False) I (stat I nf) st stop) fun r s1 ⟨hr, I1⟩ => ?_
    subst hr
    exact seg_end (.ok .next) ⟨rfl, H, I1, qq⟩
  · refine seg_bind_wrap ?_
    rw [oA]
    refine thnF (T.item Xg rfl rfl rfl hc i pin s _ H (fun _ _ => False) I (stat I nf) st go) fun r s1 ⟨u, hr, h1⟩ => ?_
    subst hr
    refine seg_bind_wrap ?_
    rw [oA]
    refine thnF h1 fun _ s2 ⟨y, H2, I2, r2, y2, st2, n2⟩ => ?_
    have I2' := I2.pinned (stat I2 n2) (T.obj _ _ st2)
    refine seg_bind_wrap ?_
    rw [oA]
    refine wpAny_mono (pg.run _ s2 _ H2 y u (fun σ' H' => σ' = σ0.set j (some y) ∧ H' = H2) I2' r2 ⟨rfl, rfl⟩) (fun _ s3 ⟨σ3, H3, I3, e3, e4⟩ => ?_) (fun e s' z => by rw [hxe] at z; exact z.elim)
    subst e3
    subst e4
    -- the turn's end
    have fin : ∀ {s' : Shared} {H' : Hp}, Inv Xg (pin ++ pinsAt fp s2.heap) (σ0.set j (some y)) H' s' → Inv Xg pin σ0 H' s' ∧ tn (i + 1) s'.heap ∧ ∀ b ∈ fp, H' b = none := fun {s' H'} I' => by
      have pin' : ∀ b ∈ fp, ∀ o, s2.heap.get? b = some o → s'.heap.get? b = some o ∧ H' b = none := fun b hb o e =>
        let z := I'.pin (b, o) (List.mem_append_right _ (List.mem_append_right _ (mem_pinsAt hb e)))
        ⟨z.1, z.2.1⟩
      refine ⟨I'.unpinned.weak (by rw [List.length_set]) (fun k v e => ?_), T.keep _ _ _ st2 fun b hb o e => (pin' b hb o e).1, fun b hb => ?_⟩
      · by_cases hk : j = k
        · subst hk
          exact absurd e (h0 v)
        · rw [List.getElem?_set_ne hk]
          exact e
      · obtain ⟨o, e, _⟩ := T.obj _ _ st2 b hb
        exact (pin' b hb o e).2
    refine seg_bind_wrap ?_
    rw [oA]
    refine wpAny_mono (pt.run _ s3 _ H3 _ I3 (step y H3 y2)) (fun b s4 ⟨H4, I4, q4⟩ => ?_) (fun e s' z => by rw [hxe] at z; exact z.elim)
    cases b with
    | false =>
      simp only [Bool.false_eq_true, if_false] at q4 ⊢
      obtain ⟨m', hm, w'⟩ := hNx _ q4
      obtain ⟨I5, st5, n5⟩ := fin I4
      exact seg_again rfl (ih m' hm n (i + 1) s₀ s4 H4 (by omega) I5 st5 n5 w')
    | true =>
      simp only [if_true] at q4 ⊢
      have hy : ∀ v, yieldOut Xg.env v = yieldValue v := fun v => by simp only [yieldOut, hco, Bool.false_eq_true, if_false]
      simp only [hy]
      rw [Sem.bind_eq_wrap', Sem.bind_eq_wrap', Sem.wrap_wrap, Sem.wrap_wrap]
      refine seg_wrap ?_
      rw [oA]
      refine wpAny_mono (pe.run _ s4 _ H4 _ I4 q4) (fun v s5 ⟨z, H5, I5, r5, c, hz, q5⟩ => ?_) (fun e s' z => by rw [hxe] at z; exact z.elim)
      subst hz
      cases r5
      obtain ⟨I6, st6, n6⟩ := fin I5
      obtain ⟨n', rfl⟩ : ∃ n', n = n' + 1 := ⟨n - 1, by omega⟩
      refine seg_at (seg_yield rfl rfl rfl ⟨c, H5, rfl, I6, ?_⟩)
      by_cases hcc : c = cont
      · rw [if_pos hcc] at q5 ⊢
        intro s6 z6
        obtain ⟨m', hm, w'⟩ := hNx _ q5
        exact seg_again rfl (ih m' hm n' (i + 1) s6 s6 H5 (by omega) (Inv.slp I6 z6) (by rw [z6.heap]; exact st6) n6 w')
      · rw [if_neg hcc] at q5 ⊢
        exact q5
end
end Vf
end
section
set_option Elab.async false
set_option linter.all false
set_option maxRecDepth 100000
set_option maxHeartbeats 4000000
namespace Vf
open PySem PySem.Spec PyProof.Rows L2 GxR GenW
section
variable {Xg : Cx} {A : Around} {elt iter : Expr} {ifs : List Expr} {x : Str} {px : Pos} {scope : Scope} {pos : Pos} {it : Addr} {fp : List Addr} {tn : Nat → Heap → Prop} {J : It} {pin : List (Addr × Obj)} {j : Nat} {tt : TT} {te : TE} {σ0 : L2.St}
  {Q : VK} {W : Nat → Nat → Hp → Prop} {cont : Bool}
theorem seg_gst (hov : A.deeper Xg.env = Xg.A) (T : Turn Xg.prog Xg.w Xg.K (.Name x px) J fp it tn) {n : Nat} {s₀ s : Shared} (st : tn 0 s.heap)
    (loop : Seg (model Xg.prog Xg.w) A (GRe Xg pin σ0 Q cont) (GPr Xg pin σ0 Q cont) n s₀ (.compLoop (.GeneratorExp elt [⟨.Name x px, iter, ifs, 0⟩] scope pos) 0 (.ref it) .none Xg.env)
        ((model Xg.prog Xg.w).den (.compLoop (.GeneratorExp elt [⟨.Name x px, iter, ifs, 0⟩] scope pos) 0 (.ref it) .none Xg.env)) [] s) :
      Seg (model Xg.prog Xg.w) A (GRe Xg pin σ0 Q cont) (GPr Xg pin σ0 Q cont) n s₀ (.compStart (.GeneratorExp elt [⟨.Name x px, iter, ifs, 0⟩] scope pos) 0 (.ref it) .none Xg.env)
        ((model Xg.prog Xg.w).den (.compStart (.GeneratorExp elt [⟨.Name x px, iter, ifs, 0⟩] scope pos) 0 (.ref it) .none Xg.env)) [] s := by
  show Seg _ A _ _ _ s₀ _ ((compStart (.GeneratorExp elt [⟨.Name x px, iter, ifs, 0⟩] scope pos) 0 (.ref it) .none Xg.env).onRaise (leaving Xg.env)) [] s
  unfold compStart
  rw [Sem.onRaise_eq_wrap]
  show Seg _ A _ _ _ s₀ _ ((ask >>= _).wrap _ _ _ _) [] s
  refine seg_bind_wrap (wpAny_askSetting ?_)
  split
  · exact seg_again rfl loop
  · first
      | exact seg_bind_wrap (wpAny_rule (seg_bind_wrap (wpAny_standAt (seg_bind_wrap (T.self _ 0 s _ _ st (seg_again rfl loop))))))
      | (refine seg_bind_wrap (wpAny_rule ?_); show Seg _ A _ _ _ s₀ _ ((standAt iter.pos >>= _).wrap _ _ _ _) [] s; exact seg_bind_wrap (wpAny_standAt (seg_bind_wrap (T.self _ 0 s _ _ st (seg_again rfl loop)))))

/-- all over such a generator -/
theorem all_loop {R : Result → Shared → Prop} {a : Addr} {g : Nat} {go : Obj} (hh : A.handled = none) (hd : A.depth < recursionLimit) (hgo : ∀ h : Heap, h.get? a = some go → h.IsGen a g)
    (hR : ∀ b H' s', Inv Xg [(a, go)] σ0 H' s' → Q (.bl b) H' → R (.ok (.ret (.bool b))) s') :
    ∀ (n : Nat) (s : Shared) (H : Hp), Inv Xg [(a, go)] σ0 H s →
      (∃ gs, s.gens[g]? = some gs ∧ gs.Goes (model Xg.prog Xg.w) A.in1.in1 (GRe Xg [(a, go)] σ0 Q true) (GPr Xg [(a, go)] σ0 Q true) n (.send .none) (s.setGen g .running)) →
      codeAny (model Xg.prog Xg.w) A (.builtin "all.loop" ⟨[.ref a], []⟩) R s := by
  intro n
  induction n with
  | zero =>
    intro s H I ⟨gs, hgs, go1⟩
    have pa : s.heap.get? a = some go := (I.pin (a, go) (List.mem_append_right _ (List.mem_singleton.mpr rfl))).1
    refine codeAny_builtin F.entry_all_loop ?_
    rw [Around.under_plainId F.plain_all_loop _]
    show wpAny _ A.in1 (pyNext (.ref a) >>= _) _ _ s
    refine wpAny_bind (wpAny_pyNext_genexpQ (A := A.in1) (P := fun n s₀ s₁ => ∃ H', Inv Xg [(a, go)] σ0 H' s₁ ∧ Q (.bl true) H') hh I.nolimit hd (hgo _ pa) hgs go1 (fun v s1 gs' hb hv => ?_) (fun s1 hp h' hk => ?_))
    · obtain ⟨c, H1, rfl, I1, q1⟩ := hv
      by_cases hc : c = true
      · rw [if_pos hc] at q1
        exact (q1 s1 ⟨rfl, I1.bare, rfl⟩).elim
      · rw [if_neg hc] at q1
        have hc' : c = false := by simpa using hc
        subst hc'
        refine wpAny_bind (wpAny_holding (wpAny_truthy_bool ?_))
        refine wpAny_bind (wpAny_letGo ?_)
        simp only [Bool.false_eq_true, if_false]
        exact wpAny_bind (wpAny_rule (wpAny_pure (hR false H1 _ (Inv.slp I1 ⟨rfl, allBare_setGen I1.bare hb, rfl⟩) q1)))
    · obtain ⟨H1, I1, q1⟩ := hp
      refine wpAny_bind (wpAny_rule (wpAny_pure (hR true H1 _ ?_ q1)))
      exact I1.call' (ch := []) rfl (Un.kept hk) (I1.hok.kept hk) (allBare_setGen I1.bare rfl) (fun b hb => absurd hb (by simp))
  | succ m ih =>
    intro s H I ⟨gs, hgs, go1⟩
    have pa : s.heap.get? a = some go := (I.pin (a, go) (List.mem_append_right _ (List.mem_singleton.mpr rfl))).1
    have hgl : g < s.gens.size := (Array.getElem?_eq_some_iff.mp hgs).1
    refine codeAny_builtin F.entry_all_loop ?_
    rw [Around.under_plainId F.plain_all_loop _]
    show wpAny _ A.in1 (pyNext (.ref a) >>= _) _ _ s
    refine wpAny_bind (wpAny_gsz (n := g + 1) hgl (wpAny_pyNext_genexpQ (A := A.in1) (P := fun n s₀ s₁ => ∃ H', Inv Xg [(a, go)] σ0 H' s₁ ∧ Q (.bl true) H') hh I.nolimit hd (hgo _ pa) hgs go1 (fun v s1 gs' hb hv => ?_) (fun s1 hp h' hk => ?_)))
    · intro hsz
      obtain ⟨c, H1, rfl, I1, q1⟩ := hv
      have I2 := Inv.slp I1 (s' := s1.setGen g gs') ⟨rfl, allBare_setGen I1.bare hb, rfl⟩
      by_cases hc : c = true
      · rw [if_pos hc] at q1
        subst hc
        refine wpAny_bind (wpAny_holding (wpAny_truthy_bool ?_))
        refine wpAny_bind (wpAny_letGo ?_)
        simp only [if_true]
        have hsz1 : g < s1.gens.size := by
          have q : (s1.setGen g gs').gens.size = s1.gens.size := setGen_size _ _ _
          have hsz' : g + 1 ≤ (s1.setGen g gs').gens.size := hsz
          omega
        refine wpAny_pure ⟨plainId_quiet F.plain_all_loop _, ih _ H1 I2 ⟨gs', setGen_at hsz1, ?_⟩⟩
        exact q1 _ ⟨rfl, allBare_setGen (s := s1.setGen g gs') (allBare_setGen I1.bare hb) rfl, rfl⟩
      · rw [if_neg hc] at q1
        have hc' : c = false := by simpa using hc
        subst hc'
        refine wpAny_bind (wpAny_holding (wpAny_truthy_bool ?_))
        refine wpAny_bind (wpAny_letGo ?_)
        simp only [Bool.false_eq_true, if_false]
        exact wpAny_bind (wpAny_rule (wpAny_pure (hR false H1 _ I2 q1)))
    · intro _
      obtain ⟨H1, I1, q1⟩ := hp
      refine wpAny_bind (wpAny_rule (wpAny_pure (hR true H1 _ ?_ q1)))
      exact I1.call' (ch := []) rfl (Un.kept hk) (I1.hok.kept hk) (allBare_setGen I1.bare rfl) (fun b hb => absurd hb (by simp))
/-- any over such a generator -/
theorem any_loop {R : Result → Shared → Prop} {a : Addr} {g : Nat} {go : Obj} (hh : A.handled = none) (hd : A.depth < recursionLimit) (hgo : ∀ h : Heap, h.get? a = some go → h.IsGen a g)
    (hR : ∀ b H' s', Inv Xg [(a, go)] σ0 H' s' → Q (.bl b) H' → R (.ok (.ret (.bool b))) s') :
    ∀ (n : Nat) (s : Shared) (H : Hp), Inv Xg [(a, go)] σ0 H s →
      (∃ gs, s.gens[g]? = some gs ∧ gs.Goes (model Xg.prog Xg.w) A.in1.in1 (GRe Xg [(a, go)] σ0 Q false) (GPr Xg [(a, go)] σ0 Q false) n (.send .none) (s.setGen g .running)) →
      codeAny (model Xg.prog Xg.w) A (.builtin "any.loop" ⟨[.ref a], []⟩) R s := by
  intro n
  induction n with
  | zero =>
    intro s H I ⟨gs, hgs, go1⟩
    have pa : s.heap.get? a = some go := (I.pin (a, go) (List.mem_append_right _ (List.mem_singleton.mpr rfl))).1
    refine codeAny_builtin F.entry_any_loop ?_
    rw [Around.under_plainId F.plain_any_loop _]
    show wpAny _ A.in1 (pyNext (.ref a) >>= _) _ _ s
    refine wpAny_bind (wpAny_pyNext_genexpQ (A := A.in1) (P := fun n s₀ s₁ => ∃ H', Inv Xg [(a, go)] σ0 H' s₁ ∧ Q (.bl false) H') hh I.nolimit hd (hgo _ pa) hgs go1 (fun v s1 gs' hb hv => ?_) (fun s1 hp h' hk => ?_))
    · obtain ⟨c, H1, rfl, I1, q1⟩ := hv
      by_cases hc : c = false
      · rw [if_pos hc] at q1
        exact (q1 s1 ⟨rfl, I1.bare, rfl⟩).elim
      · rw [if_neg hc] at q1
        have hc' : c = true := by simpa using hc
        subst hc'
        refine wpAny_bind (wpAny_holding (wpAny_truthy_bool ?_))
        refine wpAny_bind (wpAny_letGo ?_)
        simp only [if_true]
        exact wpAny_bind (wpAny_rule (wpAny_pure (hR true H1 _ (Inv.slp I1 ⟨rfl, allBare_setGen I1.bare hb, rfl⟩) q1)))
    · obtain ⟨H1, I1, q1⟩ := hp
      refine wpAny_bind (wpAny_rule (wpAny_pure (hR false H1 _ ?_ q1)))
      exact I1.call' (ch := []) rfl (Un.kept hk) (I1.hok.kept hk) (allBare_setGen I1.bare rfl) (fun b hb => absurd hb (by simp))
  | succ m ih =>
    intro s H I ⟨gs, hgs, go1⟩
    have pa : s.heap.get? a = some go := (I.pin (a, go) (List.mem_append_right _ (List.mem_singleton.mpr rfl))).1
    have hgl : g < s.gens.size := (Array.getElem?_eq_some_iff.mp hgs).1
    refine codeAny_builtin F.entry_any_loop ?_
    rw [Around.under_plainId F.plain_any_loop _]
    show wpAny _ A.in1 (pyNext (.ref a) >>= _) _ _ s
    refine wpAny_bind (wpAny_gsz (n := g + 1) hgl (wpAny_pyNext_genexpQ (A := A.in1) (P := fun n s₀ s₁ => ∃ H', Inv Xg [(a, go)] σ0 H' s₁ ∧ Q (.bl false) H') hh I.nolimit hd (hgo _ pa) hgs go1 (fun v s1 gs' hb hv => ?_) (fun s1 hp h' hk => ?_)))
    · intro hsz
      obtain ⟨c, H1, rfl, I1, q1⟩ := hv
      have I2 := Inv.slp I1 (s' := s1.setGen g gs') ⟨rfl, allBare_setGen I1.bare hb, rfl⟩
      by_cases hc : c = false
      · rw [if_pos hc] at q1
        subst hc
        refine wpAny_bind (wpAny_holding (wpAny_truthy_bool ?_))
        refine wpAny_bind (wpAny_letGo ?_)
        simp only [Bool.false_eq_true, if_false]
        have hsz1 : g < s1.gens.size := by
          have q : (s1.setGen g gs').gens.size = s1.gens.size := setGen_size _ _ _
          have hsz' : g + 1 ≤ (s1.setGen g gs').gens.size := hsz
          omega
        refine wpAny_pure ⟨plainId_quiet F.plain_any_loop _, ih _ H1 I2 ⟨gs', setGen_at hsz1, ?_⟩⟩
        exact q1 _ ⟨rfl, allBare_setGen (s := s1.setGen g gs') (allBare_setGen I1.bare hb) rfl, rfl⟩
      · rw [if_neg hc] at q1
        have hc' : c = true := by simpa using hc
        subst hc'
        refine wpAny_bind (wpAny_holding (wpAny_truthy_bool ?_))
        refine wpAny_bind (wpAny_letGo ?_)
        simp only [if_true]
        exact wpAny_bind (wpAny_rule (wpAny_pure (hR true H1 _ I2 q1)))
    · intro _
      obtain ⟨H1, I1, q1⟩ := hp
      refine wpAny_bind (wpAny_rule (wpAny_pure (hR false H1 _ ?_ q1)))
      exact I1.call' (ch := []) rfl (Un.kept hk) (I1.hok.kept hk) (allBare_setGen I1.bare rfl) (fun b hb => absurd hb (by simp))
end
end Vf
end
section
set_option Elab.async false
set_option linter.all false
set_option maxRecDepth 100000
set_option maxHeartbeats 4000000
namespace Vf
open PySem PySem.Spec PyProof.Rows L2 GxR GenW
/-- H' is H but for the table at P, which has grown -/
def Tabb (P : Addr) (H H' : Hp) : Prop := ∃ ps more : Array Value, H P = some (.tbl ps) ∧ TriplesOk ps.toList ∧ TriplesOk (ps ++ more).toList ∧ H' = upd H P (.tbl (ps ++ more))
section
variable {X : Cx} {pins : List (Addr × Obj)} {σ : L2.St} {H : Hp} {s : Shared}
/-- a generator that has been made -/
structure GM (X : Cx) (pins : List (Addr × Obj)) (σ : L2.St) (own : List Nat) (elt iter : Expr) (ifs : List Expr) (x : Str) (px gpos : Pos) (scope : Scope) (J : It) (H4 : Hp) (a : Addr) (s5 : Shared) (s4 : Shared) (genv : Env) (fp : List Addr) (tn : Nat → Heap → Prop) (it : Addr) (go : Obj) (g : Nat) : Prop where
  outer : Inv X pins σ H4 s4
  inner : ∀ A : Around, A.handled = none → A.frames = some (genv :: X.stack) → Inv (gcx X A s4 H4 genv fp) [(a, go)] (wipe σ own) H4 s5
  turn : Turn X.prog X.w X.K (.Name x px) J fp it tn
  at0 : tn 0 s5.heap
  fpo : ∀ b ∈ fp, FpOk X pins H4 b
  gen : ∀ h : Heap, h.get? a = some go → h.IsGen a g
  fresh : s5.gens[g]? = some (.fresh (.compStart (.GeneratorExp elt [⟨.Name x px, iter, ifs, 0⟩] scope gpos) 0 (.ref it) .none genv))
  env : ∃ C code, genv = genEnv scope (cloFrom X.env.cells scope.names []) C code builtinsNs X.env
  nfp : a ∉ fp
theorem gen_mk {c P : Addr} {elt iter : Expr} {ifs : List Expr} {x : Str} {px gpos : Pos} {scope : Scope} {own : List Nat} {wi : TI} {k : Nat} {R : It → Hp → Prop}
    (hr : Room k X.A) (TB : TabB X.base X.mg c P) (hcode : X.env.code = .ref c) (ok : GOk X.N X.env.scope scope x own) (hi : PI X (.Name x px) iter wi)
    (hs : ∀ v, genFold iter X.env v = pure v) (I : Inv X pins σ H s) (h : wi σ H fun J H1 => TabG H1 P ∧ ∀ H2, Tabb P H1 H2 → R J H2) :
    wpAny (model X.prog X.w) X.A (eval (.GeneratorExp elt [⟨.Name x px, iter, ifs, 0⟩] scope gpos) X.env)
      (fun gv s5 => ∃ J H4 a s4 genv fp tn it go g, gv = .ref a ∧ R J H4 ∧ GM X pins σ own elt iter ifs x px gpos scope J H4 a s5 s4 genv fp tn it go g) X.xe s := by
  have hfree : ∀ y ∈ scope.names, y.2 = .free → ∃ c, X.env.cells.lookup y.1 = some c := fun y hy e => by
    rcases ok.free y hy e with k | k
    · exact I.ok.has _ (.inl k)
    · exact I.ok.has _ (.inr k)
  refine wpAny_GeneratorExp_make ok.co (closure_ok hfree) ok.cell ok.dot ok.kind (by have := hr.dp; omega) ?_ hs
  refine thn (hi.run pins s σ H _ I h) fun xv s1 hx => thn hx fun itv s2 h2 => ?_
  obtain ⟨it, fp, tn, J, H2, e, I2, T, st2, f2, ⟨ps, hP, ht⟩, hR⟩ := h2
  subst e
  refine ⟨I2.nolimit, ?_⟩
  have oP : s2.heap.get? P = some { cls := .none, data := .fields ps } := I2.hok P _ hP
  have nPfp : ∀ b ∈ fp, b ≠ P := fun b hb z => by
    have q := (f2 b hb).1
    rw [z, hP] at q
    cases q
  have cd : PySem.W.CodeHd s2.heap c P := TB.code.keeps I2.bk
  have fin : ∀ (code : Value) (h3 : Heap) (tk : Nat) (ps' : Array Value), Heap.ExtBut P s2.heap h3 → h3.get? P = some { cls := .none, data := .fields ps' } → (∃ more, ps' = ps ++ more) → TriplesOk ps'.toList →
      wpAny (model X.prog X.w) X.A (builtinsFor X.env.globals X.env.builtins) (fun bi s4 => ∀ h' : Heap, h'.Ns s4.heap.objs.size (fun y => if y = (".0" : Str) then some (.ref it) else none) →
        Heap.SameBut s4.heap.objs.size (s4.heap.push { cls := .type "frame", data := .dict #[] }) h' →
        ∃ J H4 a s4' genv fp tn it' go g, (Value.ref h'.objs.size) = .ref a ∧ R J H4 ∧ GM X pins σ own elt iter ifs x px gpos scope J H4 a { s4 with
            gens := s4.gens.push (.fresh (.compStart (.GeneratorExp elt [⟨.Name x px, iter, ifs, 0⟩] scope gpos) 0 (.ref it) .none (genEnv scope (cloFrom X.env.cells scope.names []) s4.heap.objs.size code bi X.env))), toks := s4.toks + 1 + 1 + 1,
            heap := h'.push { cls := .type "generator", data := .fields #[.int s4.gens.size 0, .str "<genexpr>" (s4.toks + 1), .str (X.env.qual ++ "<genexpr>") (s4.toks + 1 + 1)] } } s4' genv fp tn it' go g) X.xe { s2 with heap := h3, toks := tk } := by
    intro code h3 tk ps' hx hP3 ⟨more, em⟩ ht3
    obtain ⟨bm, ob, e1, e2, e3, e4, e5, e6, e7, e8⟩ := TB.bm
    have kp3 : ∀ b u, b ≠ P → s2.heap.get? b = some u → h3.get? b = some u := fun b u hb q => hx b u hb q
    refine wpAny_builtinsFor (m := X.mg) (by rw [I2.ok.glob]; exact (I2.mod.glob.keeps I2.bk).extBut hx TB.gP) e1 e2 (kp3 _ _ e4 (I2.bk _ _ e5)) e6 e7 e8 ?_
    have I3 : Inv X pins σ (upd H2 P (.tbl ps')) { s2 with heap := h3, toks := tk } := by
      subst em
      exact inv_tab (g' := s2.gens) (d' := s2.drawn) I2 hP kp3 hP3 I2.bare
    generalize hs3 : ({ s2 with heap := h3, toks := tk } : Shared) = s3 at I3
    have eh3 : s3.heap = h3 := by rw [← hs3]
    have st3 : tn 0 s3.heap := by
      rw [eh3]
      exact T.keep _ _ _ st2 fun b hb o e => kp3 b o (nPfp b hb) e
    have f3 : ∀ b ∈ fp, FpOk X pins (upd H2 P (.tbl ps')) b := fun b hb => ⟨by rw [upd_ne (nPfp b hb)]; exact (f2 b hb).1, (f2 b hb).2⟩
    have sz3 : ∀ b ∈ fp, b < s3.heap.objs.size := fun b hb => by
      obtain ⟨o, e, _⟩ := T.obj _ _ st3 b hb
      exact Heap.lt_size e
    intro h' hn' hs'
    have hsz : h'.objs.size = s3.heap.objs.size + 1 := by rw [hs'.1, Heap.size_push]
    have k' : ∀ b o, s3.heap.get? b = some o → h'.get? b = some o := fun b o e => hs'.extBut b o (Nat.ne_of_lt (Heap.lt_size e)) (Heap.get?_push_of_some _ e)
    have gp : ∀ h : Heap, (h.push ({ cls := .type "generator", data := .fields #[.int s3.gens.size 0, .str "<genexpr>" (s3.toks + 1), .str (X.env.qual ++ "<genexpr>") (s3.toks + 1 + 1)] } : Obj)).get? h.objs.size = some ({ cls := .type "generator", data := .fields #[.int s3.gens.size 0, .str "<genexpr>" (s3.toks + 1), .str (X.env.qual ++ "<genexpr>") (s3.toks + 1 + 1)] } : Obj) := fun h => Heap.get?_push_size _ rfl
    have gfd : ∃ nm qn, ({ cls := .type "generator", data := .fields #[.int s3.gens.size 0, .str "<genexpr>" (s3.toks + 1), .str (X.env.qual ++ "<genexpr>") (s3.toks + 1 + 1)] } : Obj).cls = .type "generator" ∧ ({ cls := .type "generator", data := .fields #[.int s3.gens.size 0, .str "<genexpr>" (s3.toks + 1), .str (X.env.qual ++ "<genexpr>") (s3.toks + 1 + 1)] } : Obj).data = .fields #[.int s3.gens.size 0, nm, qn] ∧ ({ cls := .type "generator", data := .fields #[.int s3.gens.size 0, .str "<genexpr>" (s3.toks + 1), .str (X.env.qual ++ "<genexpr>") (s3.toks + 1 + 1)] } : Obj).slots = #[] := ⟨_, _, rfl, rfl, rfl⟩
    generalize ({ cls := .type "generator", data := .fields #[.int s3.gens.size 0, .str "<genexpr>" (s3.toks + 1), .str (X.env.qual ++ "<genexpr>") (s3.toks + 1 + 1)] } : Obj) = go at gp gfd ⊢
    obtain ⟨nm, qn, g1, g2, g3⟩ := gfd
    have ga : (h'.push go).get? h'.objs.size = some go := gp h'
    have k5 : ∀ b o, s3.heap.get? b = some o → (h'.push go).get? b = some o := fun b o e => Heap.get?_push_of_some _ (k' b o e)
    have bare5 : AllBare (s3.gens.push (.fresh (.compStart (.GeneratorExp elt [⟨.Name x px, iter, ifs, 0⟩] scope gpos) 0 (.ref it) .none (genEnv scope (cloFrom X.env.cells scope.names []) s3.heap.objs.size code builtinsNs X.env)))) := I3.bare.push rfl
    refine ⟨J, upd H2 P (.tbl ps'), h'.objs.size, s3, genEnv scope (cloFrom X.env.cells scope.names []) s3.heap.objs.size code builtinsNs X.env, fp, tn, it, go, s3.gens.size, rfl, hR _ (by subst em; exact ⟨ps, more, hP, ht, ht3, rfl⟩), I3, ?_, T, ?_, f3, ?_, ?_, ⟨s3.heap.objs.size, code, rfl⟩, ?_⟩
    · intro A hA hAf
      exact gen_start (h' := h') hA hAf I3 ok (fun b hb => ⟨f3 b hb, sz3 b hb⟩) k5 (hn'.push _) bare5 (by rw [hsz]; exact Nat.lt_succ_self _) ga (fun v q => by rw [g2] at q; cases q)
    · exact T.keep _ _ _ st3 fun b _ o e => k5 b o e
    · intro h e
      exact ⟨go, nm, qn, e, g1, g2, g3⟩
    · exact Array.getElem?_push_size ..
    · intro z
      have q : h'.objs.size < s3.heap.objs.size := sz3 h'.objs.size z
      rw [hsz] at q
      exact absurd q (Nat.not_lt.mpr (Nat.le_succ _))
  cases hf : codeAmong gpos ps.toList with
  | none =>
    refine wpAny_genexprCodeX hcode (cd.code oP ht) (cd.tab oP) hf fun c' h' tk hx hge hlt hco' _ htab' _ => ?_
    obtain ⟨o1, vs, f1, tf, fl, tg, inF, tx, tt, op, _, _, _, _, _, _, _, _, _, htr, _⟩ := hco'
    exact fin _ h' tk _ hx htab'.2 ⟨_, rfl⟩ htr
  | some cv =>
    refine wpAny_genexprCode_hit hcode (cd.code oP ht) hf ?_
    exact fin cv s2.heap s2.toks ps (Heap.ExtBut.refl _ _) oP ⟨#[], by simp⟩ ht

/-- any (cont false), all (cont true) of (elt for x in iter if ..) -/
def tGen (cont : Bool) (P : Addr) (wi : TI) (j : Nat) (own : List Nat) (tt : TT) (te : TE) : TE := fun σ H Q =>
  wi σ H fun J H1 => TabG H1 P ∧ ∀ H2, Tabb P H1 H2 → ∃ W : Nat → Nat → Hp → Prop, (∃ m, W 0 m H2) ∧ Turns cont j (wipe σ own) tt te J Q W
theorem wipe_own {σ : L2.St} {own : List Nat} {j : Nat} (hj : j ∈ own) : ∀ v, (wipe σ own)[j]? ≠ some (some v) := fun v e => (wipe_some e).2 hj
section
variable {c P : Addr} {elt iter : Expr} {ifs : List Expr} {x : Str} {px p pos gpos : Pos} {scope : Scope} {own : List Nat} {wi : TI} {tt : TT} {te : TE} {k j : Nat}
theorem gen_room {A : Around} {genv : Env} (hr : Room (k + 1) A) : Room k (A.in1.in1.deeper genv) :=
  ⟨hr.hd, by have := hr.dp; show A.depth + 1 + 3 * k + 5 < _; omega, by have := hr.un; show A.units + 1 + 1 + 3 + 16 * k + 200 < _; omega⟩
theorem pe_allL (hr : Room (k + 1) X.A) (hg : Gl X "all") (hm : X.mg "all" = none) (hb : bootBuiltins "all" = some (.builtin "all")) (TB : TabB X.base X.mg c P) (hcode : X.env.code = .ref c) (ok : GOk X.N X.env.scope scope x own) (hN : X.N.Nodup) (hj : X.N[j]? = some x) (hjo : j ∈ own) (hi : PI X (.Name x px) iter wi)
    (ht : ∀ (A : Around) (s : Shared) (H : Hp) (C : Addr) (code : Value) (fp : List Addr), Room k A → PTs (gcx X A s H (genEnv scope (cloFrom X.env.cells scope.names []) C code builtinsNs X.env) fp) ifs tt)
    (hel : ∀ (A : Around) (s : Shared) (H : Hp) (C : Addr) (code : Value) (fp : List Addr), Room k A → PE (gcx X A s H (genEnv scope (cloFrom X.env.cells scope.names []) C code builtinsNs X.env) fp) elt te)
    (hs : ∀ v, genFold iter X.env v = pure v := by intro _; rfl)
    (he : starEach [.GeneratorExp elt [⟨.Name x px, iter, ifs, 0⟩] scope gpos] X.env = (false, eval (.GeneratorExp elt [⟨.Name x px, iter, ifs, 0⟩] scope gpos) X.env) :: starEach [] X.env := by rfl) :
    PE X (.Call (.Name "all" p) [.GeneratorExp elt [⟨.Name x px, iter, ifs, 0⟩] scope gpos] [] pos) (tGen true P wi j own tt te) := by
  refine ⟨fun pins s σ H Q I h => ?_⟩
  refine wpAny_Call_Name_kw (ld_blt I hg hm hb ?_)
  refine PyProof.Rows.callWith_builtin1 ?_ he (by rfl)
  rw [he]
  show wpAny _ _ (spliced ((false, eval (.GeneratorExp elt [⟨.Name x px, iter, ifs, 0⟩] scope gpos) X.env) :: backTo pos (starEach [] X.env))) _ _ s
  refine Calls.spliced_cons (thn (gen_mk (R := fun J H2 => ∃ W : Nat → Nat → Hp → Prop, (∃ m, W 0 m H2) ∧ Turns true j (wipe σ own) tt te J Q W) hr TB hcode ok hi hs I h) fun gv s5 ⟨J, H4, a, s4, genv, fp, tn, it, go, g, e, ⟨W, ⟨m, w0⟩, tu⟩, G⟩ => ?_)
  subst e
  refine Calls.spliced_nil ?_
  obtain ⟨C, code, eg⟩ := G.env
  have hAh : (X.A.in1.in1.deeper genv).handled = none := hr.hd
  have hAf : (X.A.in1.in1.deeper genv).frames = some (genv :: X.stack) := Around.frames_deeper (A := X.A.in1.in1) I.ok.frames
  have Ig := G.inner _ hAh hAf
  have room : Room k (X.A.in1.in1.deeper genv) := gen_room hr
  have pgx : PG (gcx X (X.A.in1.in1.deeper genv) s4 H4 genv fp) (.Name x px) (gName j) := pg_name (X := gcx X (X.A.in1.in1.deeper genv) s4 H4 genv fp) hN hj (.inl (by subst eg; exact ok.loc)) (.inr (by subst eg; exact ok.loc))
  have pa : s5.heap.get? a = some go := (Ig.pin (a, go) (List.mem_append_right _ (List.mem_singleton.mpr rfl))).1
  refine call_function_tree F.kind_all F.plain_all F.entry_all (F.args_all1 _) ?_
  unfold Builtin.«all»
  refine wpAny_bind (m := oneArg "all" _) (wpAny_pure ?_)
  refine wpAny_bind (wpAny_pyIter_gen (G.gen _ pa) ?_)
  refine wpAny_pure ⟨plainId_quiet F.plain_all_loop _, ?_⟩
  refine all_loop (Xg := gcx X (X.A.in1.in1.deeper genv) s4 H4 genv fp) (A := X.A) (σ0 := wipe σ own) (Q := Q) hr.hd (by have := hr.dp; omega) G.gen (fun b H' s' Ig' q => ?_) (m + 1) s5 H4 Ig ⟨_, G.fresh, rfl, ?_⟩
  · exact ⟨.bl b, H', G.outer.call' (ch := fp) Ig'.os Ig'.base Ig'.hok Ig'.bare fun b hb => ⟨(G.fpo b hb).2.2.2.1, (G.fpo b hb).2.1, (G.fpo b hb).2.2.2.2.1, (G.fpo b hb).2.2.2.2.2⟩, rfl, q⟩
  · have Ig2 := Inv.slp Ig (s' := s5.setGen g .running) ⟨rfl, allBare_setGen Ig.bare rfl, rfl⟩
    refine seg_gst (Xg := gcx X (X.A.in1.in1.deeper genv) s4 H4 genv fp) (A := X.A.in1.in1) rfl G.turn G.at0 ?_
    refine seg_gl (Xg := gcx X (X.A.in1.in1.deeper genv) s4 H4 genv fp) (A := X.A.in1.in1) rfl rfl G.turn rfl rfl (fun p hp => by rw [List.mem_singleton.mp hp]; exact G.nfp) pgx (by subst eg; exact ht _ s4 H4 C code fp room) (by subst eg; exact hel _ s4 H4 C code fp room) (wipe_own hjo) (by subst eg; exact ok.co) rfl tu m (m + 1) 0 _ _ H4 (Nat.lt_succ_self _) Ig2 G.at0 (fun b hb => (G.fpo b hb).1) w0
theorem pe_anyL (hr : Room (k + 1) X.A) (hg : Gl X "any") (hm : X.mg "any" = none) (TB : TabB X.base X.mg c P) (hcode : X.env.code = .ref c) (ok : GOk X.N X.env.scope scope x own) (hN : X.N.Nodup) (hj : X.N[j]? = some x) (hjo : j ∈ own) (hi : PI X (.Name x px) iter wi)
    (ht : ∀ (A : Around) (s : Shared) (H : Hp) (C : Addr) (code : Value) (fp : List Addr), Room k A → PTs (gcx X A s H (genEnv scope (cloFrom X.env.cells scope.names []) C code builtinsNs X.env) fp) ifs tt)
    (hel : ∀ (A : Around) (s : Shared) (H : Hp) (C : Addr) (code : Value) (fp : List Addr), Room k A → PE (gcx X A s H (genEnv scope (cloFrom X.env.cells scope.names []) C code builtinsNs X.env) fp) elt te)
    (hs : ∀ v, genFold iter X.env v = pure v := by intro _; rfl)
    (he : starEach [.GeneratorExp elt [⟨.Name x px, iter, ifs, 0⟩] scope gpos] X.env = (false, eval (.GeneratorExp elt [⟨.Name x px, iter, ifs, 0⟩] scope gpos) X.env) :: starEach [] X.env := by rfl) :
    PE X (.Call (.Name "any" p) [.GeneratorExp elt [⟨.Name x px, iter, ifs, 0⟩] scope gpos] [] pos) (tGen false P wi j own tt te) := by
  refine ⟨fun pins s σ H Q I h => ?_⟩
  refine wpAny_Call_Name_kw (ld_blt I hg hm boot_any ?_)
  refine PyProof.Rows.callWith_builtin1 ?_ he (by rfl)
  rw [he]
  show wpAny _ _ (spliced ((false, eval (.GeneratorExp elt [⟨.Name x px, iter, ifs, 0⟩] scope gpos) X.env) :: backTo pos (starEach [] X.env))) _ _ s
  refine Calls.spliced_cons (thn (gen_mk (R := fun J H2 => ∃ W : Nat → Nat → Hp → Prop, (∃ m, W 0 m H2) ∧ Turns false j (wipe σ own) tt te J Q W) hr TB hcode ok hi hs I h) fun gv s5 ⟨J, H4, a, s4, genv, fp, tn, it, go, g, e, ⟨W, ⟨m, w0⟩, tu⟩, G⟩ => ?_)
  subst e
  refine Calls.spliced_nil ?_
  obtain ⟨C, code, eg⟩ := G.env
  have hAh : (X.A.in1.in1.deeper genv).handled = none := hr.hd
  have hAf : (X.A.in1.in1.deeper genv).frames = some (genv :: X.stack) := Around.frames_deeper (A := X.A.in1.in1) I.ok.frames
  have Ig := G.inner _ hAh hAf
  have room : Room k (X.A.in1.in1.deeper genv) := gen_room hr
  have pgx : PG (gcx X (X.A.in1.in1.deeper genv) s4 H4 genv fp) (.Name x px) (gName j) := pg_name (X := gcx X (X.A.in1.in1.deeper genv) s4 H4 genv fp) hN hj (.inl (by subst eg; exact ok.loc)) (.inr (by subst eg; exact ok.loc))
  have pa : s5.heap.get? a = some go := (Ig.pin (a, go) (List.mem_append_right _ (List.mem_singleton.mpr rfl))).1
  refine call_function_tree F.kind_any F.plain_any F.entry_any (F.args_any1 _) ?_
  unfold Builtin.«any»
  refine wpAny_bind (m := oneArg "any" _) (wpAny_pure ?_)
  refine wpAny_bind (wpAny_pyIter_gen (G.gen _ pa) ?_)
  refine wpAny_pure ⟨plainId_quiet F.plain_any_loop _, ?_⟩
  refine any_loop (Xg := gcx X (X.A.in1.in1.deeper genv) s4 H4 genv fp) (A := X.A) (σ0 := wipe σ own) (Q := Q) hr.hd (by have := hr.dp; omega) G.gen (fun b H' s' Ig' q => ?_) (m + 1) s5 H4 Ig ⟨_, G.fresh, rfl, ?_⟩
  · exact ⟨.bl b, H', G.outer.call' (ch := fp) Ig'.os Ig'.base Ig'.hok Ig'.bare fun b hb => ⟨(G.fpo b hb).2.2.2.1, (G.fpo b hb).2.1, (G.fpo b hb).2.2.2.2.1, (G.fpo b hb).2.2.2.2.2⟩, rfl, q⟩
  · have Ig2 := Inv.slp Ig (s' := s5.setGen g .running) ⟨rfl, allBare_setGen Ig.bare rfl, rfl⟩
    refine seg_gst (Xg := gcx X (X.A.in1.in1.deeper genv) s4 H4 genv fp) (A := X.A.in1.in1) rfl G.turn G.at0 ?_
    refine seg_gl (Xg := gcx X (X.A.in1.in1.deeper genv) s4 H4 genv fp) (A := X.A.in1.in1) rfl rfl G.turn rfl rfl (fun p hp => by rw [List.mem_singleton.mp hp]; exact G.nfp) pgx (by subst eg; exact ht _ s4 H4 C code fp room) (by subst eg; exact hel _ s4 H4 C code fp room) (wipe_own hjo) (by subst eg; exact ok.co) rfl tu m (m + 1) 0 _ _ H4 (Nat.lt_succ_self _) Ig2 G.at0 (fun b hb => (G.fpo b hb).1) w0
end
end
end Vf
end
section
set_option Elab.async false
set_option linter.all false
set_option maxRecDepth 100000
set_option maxHeartbeats 4000000
/-! Operators that take what kind they meet; defs by their names; heaps that have only grown. -/
namespace Vf
open PySem PySem.Spec PyProof.Rows L2 GxR GenW

/-! ### one rule an operator -/
section
variable {X : Cx}
structure rAdd (K : PySem.W.Frag) (x y : V) (H : Hp) (Q : VK) : Prop where
  h : (∃ i j, x = .int i ∧ y = .int j ∧ Q (.int (i + j)) H) ∨ (∃ i j, x = .str i ∧ y = .str j ∧ i.length + j.length ≤ sizeLine ∧ Q (.str (i ++ j)) H) ∨ rCat x y H Q ∨ rCatA K x y H Q
theorem u_add {K : PySem.W.Frag} (hK : X.K = K) : OpR X (binaryOp .Add) (rAdd K) := by
  subst hK
  exact fun pins s σ H x y v u Q I rx ry h => (OpR.or op_add (OpR.or op_add_str (OpR.or op_cat op_catA))) pins s σ H x y v u Q I rx ry h.h
structure rMd (x y : V) (H : Hp) (Q : VK) : Prop where
  h : ∃ i j, x = .int i ∧ y = .int j ∧ j ≠ 0 ∧ Q (.int (i.fmod j)) H
theorem u_mod : OpR X (binaryOp .Mod) rMd := fun pins s σ H x y v u Q I rx ry h => op_modN pins s σ H x y v u Q I rx ry h.h
structure rPw (x y : V) (H : Hp) (Q : VK) : Prop where
  h : ∃ i j, x = .int i ∧ y = .int j ∧ CPow i j ∧ Q (.int (i ^ j.toNat)) H
theorem u_pow : OpR X (binaryOp .Pow) rPw := fun pins s σ H x y v u Q I rx ry h => op_pow pins s σ H x y v u Q I rx ry h.h
structure rGe (x y : V) (H : Hp) (Q : VK) : Prop where
  h : ∃ i j, x = .int i ∧ y = .int j ∧ Q (.bl (decide (j ≤ i))) H
theorem u_ge : OpR X (compareOp .GtE) rGe := fun pins s σ H x y v u Q I rx ry h => op_ge pins s σ H x y v u Q I rx ry h.h
structure rGt (x y : V) (H : Hp) (Q : VK) : Prop where
  h : ∃ i j, x = .int i ∧ y = .int j ∧ Q (.bl (decide (j < i))) H
theorem u_gt : OpR X (compareOp .Gt) rGt := fun pins s σ H x y v u Q I rx ry h => op_gt pins s σ H x y v u Q I rx ry h.h
structure rSb (x y : V) (H : Hp) (Q : VK) : Prop where
  h : ∃ i j, x = .int i ∧ y = .int j ∧ Q (.int (i - j)) H
theorem u_sub : OpR X (binaryOp .Sub) rSb := fun pins s σ H x y v u Q I rx ry h => op_sub pins s σ H x y v u Q I rx ry h.h
structure rFd (x y : V) (H : Hp) (Q : VK) : Prop where
  h : (∃ i j, x = .int i ∧ y = .int j ∧ CDivN i j ∧ Q (.int (i.fdiv j)) H) ∨ (∃ i j, x = .int i ∧ y = .int j ∧ CDivW i j ∧ Q (.int (i / j)) H)
theorem u_fdiv : OpR X (binaryOp .FloorDiv) rFd := fun pins s σ H x y v u Q I rx ry h => (OpR.or op_fdivN op_fdivW) pins s σ H x y v u Q I rx ry h.h
structure rMu (K : PySem.W.Frag) (x y : V) (H : Hp) (Q : VK) : Prop where
  h : (∃ i j, x = .int i ∧ y = .int j ∧ CMul i j ∧ Q (.int (i * j)) H) ∨ (∃ i j, x = .int i ∧ y = .int j ∧ CMulW i j ∧ Q (.int (i * j)) H) ∨ rRep x y H Q ∨ rRepT K x y H Q
theorem u_mul {K : PySem.W.Frag} (hK : X.K = K) : OpR X (binaryOp .Mult) (rMu K) := by
  subst hK
  exact fun pins s σ H x y v u Q I rx ry h => (OpR.or op_mul (OpR.or op_mulW (OpR.or op_rep op_repT))) pins s σ H x y v u Q I rx ry h.h
structure rEqU (K : PySem.W.Frag) (x y : V) (H : Hp) (Q : VK) : Prop where
  h : rEq x y H Q ∨ rEqD K x y H Q
theorem u_eq {K : PySem.W.Frag} (hK : X.K = K) (hu : X.A.units + 64 < cLine) : OpR X (compareOp .Eq) (rEqU K) := by
  subst hK
  exact fun pins s σ H x y v u Q I rx ry h => (OpR.or op_eq (op_eqD hu)) pins s σ H x y v u Q I rx ry h.h
structure rNeU (K : PySem.W.Frag) (x y : V) (H : Hp) (Q : VK) : Prop where
  h : rNe x y H Q ∨ rNeD K x y H Q
theorem u_ne {K : PySem.W.Frag} (hK : X.K = K) (hu : X.A.units + 64 < cLine) : OpR X (compareOp .NotEq) (rNeU K) := by
  subst hK
  exact fun pins s σ H x y v u Q I rx ry h => (OpR.or op_ne (op_neD hu)) pins s σ H x y v u Q I rx ry h.h
structure rLtU (x y : V) (H : Hp) (Q : VK) : Prop where
  h : (∃ i j, x = .int i ∧ y = .int j ∧ Q (.bl (decide (i < j))) H) ∨ (∃ i j, x = .str i ∧ y = .str j ∧ Q (.bl (decide (i.cps.toList < j.cps.toList))) H)
theorem u_lt : OpR X (compareOp .Lt) rLtU := fun pins s σ H x y v u Q I rx ry h => (OpR.or op_lt op_lt_str) pins s σ H x y v u Q I rx ry h.h
structure rLeU (x y : V) (H : Hp) (Q : VK) : Prop where
  h : (∃ i j, x = .int i ∧ y = .int j ∧ Q (.bl (decide (i ≤ j))) H) ∨ (∃ i j, x = .str i ∧ y = .str j ∧ Q (.bl (!decide (j.cps.toList < i.cps.toList))) H)
theorem u_le : OpR X (compareOp .LtE) rLeU := fun pins s σ H x y v u Q I rx ry h => (OpR.or op_le op_le_str) pins s σ H x y v u Q I rx ry h.h
structure rInU (K : PySem.W.Frag) (x y : V) (H : Hp) (Q : VK) : Prop where
  h : (∃ i j, x = .str i ∧ y = .str j ∧ Q (.bl (!(Builtin.Str.occurrences j i 0 j.length 1).isEmpty)) H) ∨ (∃ (c : Nat) (z : Str), x = .str ⟨#[c]⟩ ∧ y = .str z ∧ Q (.bl (decide (c ∈ z.cps.toList))) H) ∨ rIn K false x y H Q
theorem u_in {K : PySem.W.Frag} (hK : X.K = K) : OpR X (compareOp .In) (rInU K) := by
  subst hK
  exact fun pins s σ H x y v u Q I rx ry h => (OpR.or op_in_str (OpR.or op_in_sign op_in_seq)) pins s σ H x y v u Q I rx ry h.h
structure rNiU (K : PySem.W.Frag) (x y : V) (H : Hp) (Q : VK) : Prop where
  h : (∃ i j, x = .str i ∧ y = .str j ∧ Q (.bl (!(!(Builtin.Str.occurrences j i 0 j.length 1).isEmpty))) H) ∨ (∃ (c : Nat) (z : Str), x = .str ⟨#[c]⟩ ∧ y = .str z ∧ Q (.bl (!decide (c ∈ z.cps.toList))) H) ∨ rIn K true x y H Q
theorem u_ni {K : PySem.W.Frag} (hK : X.K = K) : OpR X (compareOp .NotIn) (rNiU K) := by
  subst hK
  exact fun pins s σ H x y v u Q I rx ry h => (OpR.or op_notin_str (OpR.or op_notIn_sign op_notIn_seq)) pins s σ H x y v u Q I rx ry h.h
structure rSlU (K : PySem.W.Frag) (x : V) (lo hi : Option Int) (H : Hp) (Q : VK) : Prop where
  h : rSlL K x lo hi H Q ∨ rSlA K x lo hi H Q ∨ rSlS x lo hi H Q
theorem u_sl {K : PySem.W.Frag} (hK : X.K = K) : SlR X (rSlU K) := by
  subst hK
  exact fun pins s σ H x v vl vu lo hi sl Q I rx hs pl pu h => (SlR.or sl_list (SlR.or sl_tupA sl_str)) pins s σ H x v vl vu lo hi sl Q I rx hs pl pu h.h
structure rIxU (K : PySem.W.Frag) (x y : V) (H : Hp) (Q : VK) : Prop where
  h : rIx K x y H Q
theorem u_ix {K : PySem.W.Frag} (hK : X.K = K) : IxR X (rIxU K) := by
  subst hK
  exact fun a b pins s σ H x y v u Q I rx ry h hs => ix_seq a b pins s σ H x y v u Q I rx ry h.h hs
end

/-! ### their answers -/
section
variable {K : PySem.W.Frag} {H : Hp} {Q : VK}
theorem a_ii {i j : Int} (q : Q (.int (i + j)) H) : rAdd K (.int i) (.int j) H Q := ⟨.inl ⟨_, _, rfl, rfl, q⟩⟩
theorem a_ss {i j : Str} (h : i.length + j.length ≤ sizeLine) (q : Q (.str (i ++ j)) H) : rAdd K (.str i) (.str j) H Q := ⟨.inr (.inl ⟨_, _, rfl, rfl, h, q⟩)⟩
theorem a_ll {l b : Addr} {xs zs : List V} (h1 : H l = some (.lst xs)) (h2 : H b = some (.lst zs)) (h : xs.length + zs.length ≤ sizeLine) (q : ∀ p, H p = none → Q (.ref p) (upd H p (.lst (xs ++ zs)))) : rAdd K (.ref l) (.ref b) H Q := ⟨.inr (.inr (.inl ⟨_, _, _, _, rfl, rfl, h1, h2, h, q⟩))⟩
theorem a_tt {a b : Addr} {xs ys : List V} (h1 : SqT K H a xs) (h2 : SqT K H b ys) (h : xs.length + ys.length ≤ sizeLine) (q1 : xs = [] → Q (.ref b) H) (q2 : xs ≠ [] → ys = [] → Q (.ref a) H) (q3 : xs ≠ [] → ys ≠ [] → ∀ p, H p = none → Q (.ref p) (upd H p (.tup (xs ++ ys)))) : rAdd K (.ref a) (.ref b) H Q := ⟨.inr (.inr (.inr ⟨_, _, _, _, rfl, rfl, h1, h2, h, q1, q2, q3⟩))⟩
theorem m_ii {i j : Int} (h : CMul i j) (q : Q (.int (i * j)) H) : rMu K (.int i) (.int j) H Q := ⟨.inl ⟨_, _, rfl, rfl, h, q⟩⟩
theorem m_tt {l : Addr} {k : Int} {xs : List V} (h1 : SqT K H l xs) (h2 : xs ≠ []) (h3 : 2 ≤ k) (h4 : k ≤ 1000) (h5 : xs.length ≤ 1000) (q : ∀ p, H p = none → Q (.ref p) (upd H p (.tup (List.replicate k.toNat xs).flatten))) : rMu K (.ref l) (.int k) H Q := ⟨.inr (.inr (.inr ⟨_, _, _, rfl, rfl, h1, h2, h3, h4, h5, q⟩))⟩
theorem md_ii {i j : Int} (h : j ≠ 0) (q : Q (.int (i.fmod j)) H) : rMd (.int i) (.int j) H Q := ⟨_, _, rfl, rfl, h, q⟩
theorem pw_ii {i j : Int} (h : CPow i j) (q : Q (.int (i ^ j.toNat)) H) : rPw (.int i) (.int j) H Q := ⟨_, _, rfl, rfl, h, q⟩
theorem ge_ii {i j : Int} (q : Q (.bl (decide (j ≤ i))) H) : rGe (.int i) (.int j) H Q := ⟨_, _, rfl, rfl, q⟩
theorem gt_ii {i j : Int} (q : Q (.bl (decide (j < i))) H) : rGt (.int i) (.int j) H Q := ⟨_, _, rfl, rfl, q⟩
theorem sb_ii {i j : Int} (q : Q (.int (i - j)) H) : rSb (.int i) (.int j) H Q := ⟨_, _, rfl, rfl, q⟩
theorem f_ii {i j : Int} (h : CDivN i j) (q : Q (.int (i.fdiv j)) H) : rFd (.int i) (.int j) H Q := ⟨.inl ⟨_, _, rfl, rfl, h, q⟩⟩
theorem e_flat {x y : V} (h : scal x y = true) (q : Q (.bl (decide (x = y))) H) : rEqU K x y H Q := ⟨.inl ⟨h, q⟩⟩
theorem e_data {x y : V} {d e : PyData} (h1 : Dp K H x d) (h2 : Dp K H y e) (h3 : SeqAt.shaped d = true) (h4 : SeqAt.shaped e = true) (q : Q (.bl (PyData.eqv d e)) H) : rEqU K x y H Q := ⟨.inr ⟨_, _, h1, h2, h3, h4, q⟩⟩
theorem n_flat {x y : V} (h : scal x y = true) (q : Q (.bl (!decide (x = y))) H) : rNeU K x y H Q := ⟨.inl ⟨h, q⟩⟩
theorem n_data {x y : V} {d e : PyData} (h1 : Dp K H x d) (h2 : Dp K H y e) (h3 : SeqAt.shaped d = true) (h4 : SeqAt.shaped e = true) (q : Q (.bl (!PyData.eqv d e)) H) : rNeU K x y H Q := ⟨.inr ⟨_, _, h1, h2, h3, h4, q⟩⟩
theorem l_ii {i j : Int} (q : Q (.bl (decide (i < j))) H) : rLtU (.int i) (.int j) H Q := ⟨.inl ⟨_, _, rfl, rfl, q⟩⟩
theorem l_ss {i j : Str} (q : Q (.bl (decide (i.cps.toList < j.cps.toList))) H) : rLtU (.str i) (.str j) H Q := ⟨.inr ⟨_, _, rfl, rfl, q⟩⟩
theorem le_ii {i j : Int} (q : Q (.bl (decide (i ≤ j))) H) : rLeU (.int i) (.int j) H Q := ⟨.inl ⟨_, _, rfl, rfl, q⟩⟩
theorem le_ss {i j : Str} (q : Q (.bl (!decide (j.cps.toList < i.cps.toList))) H) : rLeU (.str i) (.str j) H Q := ⟨.inr ⟨_, _, rfl, rfl, q⟩⟩
theorem in_sign {c : Nat} {z : Str} (q : Q (.bl (decide (c ∈ z.cps.toList))) H) : rInU K (.str ⟨#[c]⟩) (.str z) H Q := ⟨.inr (.inl ⟨_, _, rfl, rfl, q⟩)⟩
theorem ni_sign {c : Nat} {z : Str} (q : Q (.bl (!decide (c ∈ z.cps.toList))) H) : rNiU K (.str ⟨#[c]⟩) (.str z) H Q := ⟨.inr (.inl ⟨_, _, rfl, rfl, q⟩)⟩
theorem in_ss {i j : Str} (q : Q (.bl (!(Builtin.Str.occurrences j i 0 j.length 1).isEmpty)) H) : rInU K (.str i) (.str j) H Q := ⟨.inl ⟨_, _, rfl, rfl, q⟩⟩
theorem ni_ss {i j : Str} (q : Q (.bl (!(!(Builtin.Str.occurrences j i 0 j.length 1).isEmpty))) H) : rNiU K (.str i) (.str j) H Q := ⟨.inl ⟨_, _, rfl, rfl, q⟩⟩
theorem in_seq {x : V} {p : Addr} {xs : List V} (h : SqL K H p xs ∨ SqT K H p xs) (h1 : flatV x = true) (h2 : xs.all flatV = true) (q : Q (.bl (inV x xs)) H) : rInU K x (.ref p) H Q := ⟨.inr (.inr ⟨_, _, rfl, h, h1, h2, q⟩)⟩
theorem ni_seq {x : V} {p : Addr} {xs : List V} (h : SqL K H p xs ∨ SqT K H p xs) (h1 : flatV x = true) (h2 : xs.all flatV = true) (q : Q (.bl (!inV x xs)) H) : rNiU K x (.ref p) H Q := ⟨.inr (.inr ⟨_, _, rfl, h, h1, h2, q⟩)⟩
theorem x_l {p : Addr} {xs : List V} {i : Int} {v : V} (h : SqL K H p xs) (e : atI xs i = some v) (q : Q v H) : rIxU K (.ref p) (.int i) H Q := ⟨.inl ⟨_, _, _, _, rfl, rfl, h, e, q⟩⟩
theorem x_t {p : Addr} {xs : List V} {i : Int} {v : V} (h : SqT K H p xs) (e : atI xs i = some v) (q : Q v H) : rIxU K (.ref p) (.int i) H Q := ⟨.inr (.inl ⟨_, _, _, _, rfl, rfl, h, e, q⟩)⟩
theorem x_s {z : Str} {i : Int} {c : Nat} (h : z.length ≤ sizeLine) (e : atI z.cps.toList i = some c) (q : Q (.str ⟨#[c]⟩) H) : rIxU K (.str z) (.int i) H Q := ⟨.inr (.inr ⟨_, _, _, rfl, rfl, h, e, q⟩)⟩
theorem sl_l {a : Addr} {xs : List V} {lo hi : Option Int} (h : SqL K H a xs) (q : ∀ p, H p = none → Q (.ref p) (upd H p (.lst (cutV xs lo hi)))) : rSlU K (.ref a) lo hi H Q := ⟨.inl ⟨_, _, rfl, h, q⟩⟩
theorem sl_t {a : Addr} {xs : List V} {lo hi : Option Int} (h : SqT K H a xs) (q1 : HT.sIx xs.length 0 lo = 0 ∧ HT.sIx xs.length xs.length hi = xs.length → Q (.ref a) H)
    (q2 : ¬ (HT.sIx xs.length 0 lo = 0 ∧ HT.sIx xs.length xs.length hi = xs.length) → ∀ p, H p = none → Q (.ref p) (upd H p (.tup (cutV xs lo hi)))) : rSlU K (.ref a) lo hi H Q := ⟨.inr (.inl ⟨_, _, rfl, h, q1, q2⟩)⟩
end

/-! ### rules with K told apart -/
section
variable {X : Cx} {K : PySem.W.Frag} {tg : Expr}
theorem k_len (hK : X.K = K) : CallR X (.builtin "len") (fun xs H Q => ∃ x n, xs = [x] ∧ LenV K x H n ∧ Q (.int n) H) := by
  subst hK
  exact call_len
theorem k_list {l : Expr} {tl : TE} (hK : X.K = K) (hl : PE X l tl) : PI X tg l (iList K tl) := by
  subst hK
  exact pi_list hl
theorem k_tup {l : Expr} {tl : TE} (hK : X.K = K) (hl : PE X l tl) : PI X tg l (iTup K tl) := by
  subst hK
  exact pi_tup hl
structure rTupU (K : PySem.W.Frag) (x : V) (H : Hp) (Q : VK) : Prop where
  h : kTup K x H Q
theorem k_tuple {a : Expr} {ta : TE} {p pos : Pos} (hK : X.K = K) (hg : Gl X "tuple") (hm : X.mg "tuple" = none) (ha : PE X a ta) (na : starEach [a] X.env = (false, eval a X.env) :: starEach [] X.env := by rfl) :
    PE X (.Call (.Name "tuple" p) [a] [] pos) (fun σ H Q => ta σ H fun x H1 => rTupU K x H1 Q) := by
  subst hK
  refine ⟨fun pins s σ H Q I h => Call_ (ld_blt I hg hm boot_tuple (PyProof.Rows.callWith_type1 ?_ na))⟩
  exact one_arg ha I h (fun v s2 x H2 I2 r q => rl_tuple pins s2 σ H2 x v Q I2 r q.h) na
theorem k_join {o e : Expr} {to te : TE} {apos pos : Pos} (hK : X.K = K) (ho : PE X o to) (he : PE X e te) (hs : starEach [e] X.env = [(false, eval e X.env)] := by rfl) (hbase : attributeBase o "join" X.env (eval o X.env) = eval o X.env := by rfl) (hline : (apos.endLine == pos.line) = true := by rfl) :
    PE X (.Call (.Attribute o "join" apos) [e] [] pos) (tM1 (fun x xs H Q => ∃ a p, ∃ ys : List Str, x = .str a ∧ xs = [.ref p] ∧ (SqL K H p (ys.map V.str) ∨ SqT K H p (ys.map V.str)) ∧
      (ys.map (·.length)).sum + ys.length * a.length ≤ 16777216 ∧ Q (.str (Txt.join a ys)) H) to te) := by
  subst hK
  exact pe_join ho he hs hbase hline
theorem k_any (hK : X.K = K) (hc : X.calm = true) : CallR X (.builtin "any") (rAny K) := by
  subst hK
  exact cr_any hc
theorem k_all (hK : X.K = K) (hc : X.calm = true) : CallR X (.builtin "all") (rAll K) := by
  subst hK
  exact cr_all hc
theorem k_sum (hK : X.K = K) (hc : X.calm = true) : CallR X (.builtin "sum") (rSum K) := by
  subst hK
  exact cr_sum hc
theorem kg_tup {es : List Expr} {k : Nat} {t : TGs} {pos : Pos} (n : Nat) (hK : X.K = K) (hc : X.calm = true) (h : PGs X es t)
    (hn : (assignEach es X.env).length = n := by rfl) (hst : (assignEach es X.env).findIdx? (·.1) = none := by rfl) : PG X (.Tuple es k pos) (gTup K n t) := by
  subst hK
  exact pg_tup hc h hn hst
theorem k_enum {e : Expr} {ta : TA} {p pos tpos : Pos} {elts : List Expr} {kk : Nat} (hK : X.K = K) (hg : Gl X "enumerate") (hm : X.mg "enumerate" = none) (ha : PA X [e] ta) (hs : starEach [e] X.env = [(false, eval e X.env)] := by rfl) :
    PI X (.Tuple elts kk tpos) (.Call (.Name "enumerate" p) [e] [] pos) (iEnum K ta) := by
  subst hK
  exact pi_enum hg hm ha hs
theorem k_zip {e e2 : Expr} {ta : TA} {p pos tpos : Pos} {elts : List Expr} {kk : Nat} (hK : X.K = K) (hg : Gl X "zip") (hm : X.mg "zip" = none) (ha : PA X [e, e2] ta) (hs : starEach [e, e2] X.env = (false, eval e X.env) :: starEach [e2] X.env := by rfl) (hpl : (backTo pos (starEach [e2] X.env)).any (·.1) = false := by rfl) :
    PI X (.Tuple elts kk tpos) (.Call (.Name "zip" p) [e, e2] [] pos) (RZ.iZipA K ta) := by
  subst hK
  exact RZ.pi_zipA hg hm ha hs hpl
end

/-! ### defs by their names -/
/-- the def x of the module keeps the promise sp -/
structure Df (P : Program) (w : World) (K : PySem.W.Frag) (mg : Str → Option Value) (base : Heap) (x : Str) (k : Nat) (ps : List Str) (sp : Sp) : Prop where
  ex : ∃ (f : Addr) (fd : FuncData), FnOk P w K mg base CX0 k f fd ps sp ∧ mg x = some (.ref f) ∧ PySem.W.keepIn K (.ref f) = true ∧ Binds K fd ps []
structure DfG (P : Program) (w : World) (K : PySem.W.Frag) (mg : Str → Option Value) (base : Heap) (x : Str) (k : Nat) (ps : List Str) (sp : Sp) : Prop where
  ex : ∃ (f : Addr) (fd : FuncData), FnG P w K mg base CX0 k f fd ps sp ∧ mg x = some (.ref f) ∧ PySem.W.keepIn K (.ref f) = true ∧ Binds K fd ps []
section
variable {X : Cx} {k j : Nat} {x : Str} {ps : List Str} {sp : Sp} {p pos : Pos} {e : Expr} {es : List Expr} {t : TA}
theorem pe_fn (D : Df X.prog X.w X.K X.mg X.base x k ps sp) (hr : Room j X.A) (hk : k ≤ j) (hg : Gl X x) (ha : PA X (e :: es) t) (hdb : (x == ("__debug__" : Str)) = false := by decide)
    (he : starEach (e :: es) X.env = (false, eval e X.env) :: starEach es X.env := by rfl) (hpl : (backTo pos (starEach es X.env)).any (·.1) = false := by rfl) : PE X (.Call (.Name x p) (e :: es) [] pos) (tCall sp [] E0 t) := by
  obtain ⟨f, fd, F, hm, hkp, hb⟩ := D.ex
  exact pe_call F (hr.mono hk) hg hm hkp hb .nil pass0 ha hdb he hpl
theorem pe_fn0 (D : Df X.prog X.w X.K X.mg X.base x k ps sp) (hr : Room j X.A) (hk : k ≤ j) (hg : Gl X x) (hdb : (x == ("__debug__" : Str)) = false := by decide) : PE X (.Call (.Name x p) [] [] pos) (tCall sp [] E0 tNil) := by
  obtain ⟨f, fd, F, hm, hkp, hb⟩ := D.ex
  exact pe_call0 F (hr.mono hk) hg hm hkp hb .nil pass0 hdb
theorem pe_fnG (hgu : X.A.guards = some []) (D : DfG X.prog X.w X.K X.mg X.base x k ps sp) (hr : Room j X.A) (hk : k ≤ j) (hg : Gl X x) (ha : PA X (e :: es) t) (hdb : (x == ("__debug__" : Str)) = false := by decide)
    (he : starEach (e :: es) X.env = (false, eval e X.env) :: starEach es X.env := by rfl) (hpl : (backTo pos (starEach es X.env)).any (·.1) = false := by rfl) : PE X (.Call (.Name x p) (e :: es) [] pos) (tCall sp [] E0 t) := by
  obtain ⟨f, fd, F, hm, hkp, hb⟩ := D.ex
  exact pe_callG hgu F (hr.mono hk) hg hm hkp hb .nil pass0 ha hdb he hpl
/-- a module's plain constant -/
theorem pe_gl {v : V} {pos : Pos} (h : ∃ u, X.mg x = some u ∧ RelV v u) (hg : Gl X x) (hd : (x == ("__debug__" : Str)) = false := by decide) : PE X (.Name x pos) (tC v) := by
  obtain ⟨u, hm, r⟩ := h
  exact pe_glob hg hm r hd
/-- a module's object -/
theorem pe_ref {a : Addr} {pos : Pos} (hg : Gl X x) (hm : X.mg x = some (.ref a)) (hd : (x == ("__debug__" : Str)) = false := by decide) : PE X (.Name x pos) (tC (.ref a)) := pe_glob hg hm rfl hd
/-- a built-in class's name as a value -/
theorem pe_ty {T : String} {pos : Pos} (hg : Gl X x) (hm : X.mg x = none) (hv : bootBuiltins x = some (.type T)) (hn : x ≠ "__name__" := by decide) (hd : (x == ("__debug__" : Str)) = false := by decide) : PE X (.Name x pos) (tC (.ty T)) :=
  pe_bltn hg hm hv rfl hn hd
end

section
variable {P : Program} {w : World} {K : PySem.W.Frag} {mg : Str → Option Value} {base : Heap} {CX : CXT} {k : Nat} {fd : FuncData} {ps : List Str} {sp : Sp}
  {x qual : Str} {params : Arguments} {body : List Stmt} {scope : Scope} {dvs : List V} {kws : List (Str × V)} {N : List Str} {p : He.Defn}
/-- a def's body, its own code object told -/
theorem okP (F : FunD K x qual params body scope dvs kws (He.fAd K p) fd) (S : FnScope N ps scope) (len : ∀ vs H Q E, sp vs H Q E → vs.length = ps.length)
    (hbody : ∀ (A : Around) (outer : List Env) (s : Shared) (H : Hp) (vs : List V) (Q : VK) (E : XK), Room k (A.deeper (envOfC qual scope s.heap.objs.size (He.fAd K p) (.ref (He.codeOf K p)))) → sp vs H Q E →
      ∃ t, PSs (cxOf CX P w K mg base N qual scope (He.fAd K p) (.ref (He.codeOf K p)) A outer s H E).nox body t ∧ t { nx := fun _ H' => Q .non H', rt := Q } (start N vs) H) : FnOk P w K mg base CX (k + 1) (He.fAd K p) fd ps sp := by
  obtain ⟨oc, od, dV, kV, doc, pm, an, cdv, ct, osl, rfl, lk, hcd, _, _⟩ := F.ex
  obtain ⟨c, rfl⟩ := He.codeIn_ref hcd
  have e : He.codeOf K p = c := He.codeOf_eq lk rfl
  subst e
  refine fn_of lk hcd S len fun A outer s H vs Q E hr hsp => ?_
  obtain ⟨t, h, q⟩ := hbody A outer s H vs Q E hr hsp
  exact ⟨t, h.nox, q⟩
theorem okQ (F : FunD K x qual params body scope dvs kws (He.fAd K p) fd) (S : FnScope N ps scope) (len : ∀ vs H Q E, sp vs H Q E → vs.length = ps.length)
    (hbody : ∀ (A : Around) (outer : List Env) (s : Shared) (H : Hp) (vs : List V) (Q : VK) (E : XK), A.guards = some [] → Room k (A.deeper (envOfC qual scope s.heap.objs.size (He.fAd K p) (.ref (He.codeOf K p)))) → sp vs H Q E →
      ∃ t, PSs (cxOf CX P w K mg base N qual scope (He.fAd K p) (.ref (He.codeOf K p)) A outer s H E).nox body t ∧ t { nx := fun _ H' => Q .non H', rt := Q } (start N vs) H) : FnG P w K mg base CX (k + 1) (He.fAd K p) fd ps sp := by
  obtain ⟨oc, od, dV, kV, doc, pm, an, cdv, ct, osl, rfl, lk, hcd, _, _⟩ := id F.ex
  obtain ⟨c, rfl⟩ := He.codeIn_ref hcd
  have e : He.codeOf K p = c := He.codeOf_eq lk rfl
  subst e
  refine okG F S len fun cdv hcv A outer s H vs Q E hg hr hsp => ?_
  have hcv : cdv = .ref (He.codeOf K p) := hcv.symm
  subst hcv
  obtain ⟨t, h, q⟩ := hbody A outer s H vs Q E hg hr hsp
  exact ⟨t, h.nox, q⟩
end

theorem dvi (a b : Int) : decide (V.int a = V.int b) = decide (a = b) := by
  rw [decide_eq_decide]
  exact ⟨fun h => by injection h, fun h => by rw [h]⟩
theorem dvs (a b : Str) : decide (V.str a = V.str b) = decide (a = b) := by
  rw [decide_eq_decide]
  exact ⟨fun h => by injection h, fun h => by rw [h]⟩
theorem not_true_iff {b : Bool} : (!b) = true ↔ b = false := by cases b <;> simp

/-! ### a heap that has only grown -/
/-- all that was tracked stands, tables perhaps longer -/
def Gr (H H' : Hp) : Prop := ∀ b o, H b = some o → (H' b = some o ∨ ∃ ps more, o = .tbl ps ∧ H' b = some (.tbl (ps ++ more)) ∧ (TriplesOk ps.toList → TriplesOk (ps ++ more).toList))
theorem Gr.refl (H : Hp) : Gr H H := fun _ _ h => .inl h
theorem Gr.trans {H H1 H2 : Hp} (a : Gr H H1) (b : Gr H1 H2) : Gr H H2 := by
  intro c o h
  rcases a c o h with h1 | ⟨ps, m1, rfl, h1, t1⟩
  · exact b c o h1
  · rcases b c _ h1 with h2 | ⟨qs, m2, e, h2, t2⟩
    · exact .inr ⟨ps, m1, rfl, h2, t1⟩
    · cases e
      exact .inr ⟨ps, m1 ++ m2, rfl, by rw [← Array.append_assoc]; exact h2, fun z => by rw [← Array.append_assoc]; exact t2 (t1 z)⟩
theorem Gr.keep {H H' : Hp} (g : Gr H H') {b : Addr} {o : HO} (h : H b = some o) (n : ∀ ps, o ≠ .tbl ps) : H' b = some o := by
  rcases g b o h with h1 | ⟨ps, _, rfl, _⟩
  · exact h1
  · exact absurd rfl (n ps)
theorem Gr.new {H : Hp} {p : Addr} {o : HO} (h : H p = none) : Gr H (upd H p o) := fun b u e => .inl (by rw [upd_ne (ne_of_none e h)]; exact e)
theorem Gr.upd' {H H' : Hp} {p : Addr} {o : HO} (g : Gr H H') (h : H p = none) : Gr H (upd H' p o) := fun b u e => by
  rw [upd_ne (ne_of_none e h)]
  exact g b u e
theorem Gr.free {H H' : Hp} (g : Gr H H') {b : Addr} (h : H' b = none) : H b = none := by
  cases q : H b with
  | none => rfl
  | some o =>
    rcases g b o q with h1 | ⟨_, _, _, h1, _⟩
    · rw [h] at h1; cases h1
    · rw [h] at h1; cases h1
theorem Gr.tabb {P : Addr} {H H' : Hp} (h : Tabb P H H') : Gr H H' := by
  obtain ⟨ps, more, h1, t1, t2, rfl⟩ := h
  intro b o e
  by_cases hb : b = P
  · subst hb
    rw [h1] at e
    cases e
    exact .inr ⟨ps, more, rfl, upd_same, fun _ => t2⟩
  · exact .inl (by rw [upd_ne hb]; exact e)
theorem Gr.tabG {P : Addr} {H H' : Hp} (g : Gr H H') (h : TabG H P) : TabG H' P := by
  obtain ⟨ps, h1, t1⟩ := h
  rcases g P _ h1 with q | ⟨qs, more, e, q, t⟩
  · exact ⟨ps, q, t1⟩
  · cases e
    exact ⟨_, q, t t1⟩
theorem Gr.seqT {K : PySem.W.Frag} {H H' : Hp} (g : Gr H H') {a : Addr} {xs : List V} (h : SqT K H a xs) : SqT K H' a xs := by
  rcases h with (h | ⟨o, h⟩) | h
  · exact .inl (.inl (g.keep h (fun _ z => by cases z)))
  · exact .inl (.inr ⟨o, g.keep h (fun _ z => by cases z)⟩)
  · exact .inr h
theorem Gr.seqL {K : PySem.W.Frag} {H H' : Hp} (g : Gr H H') {a : Addr} {xs : List V} (h : SqL K H a xs) : SqL K H' a xs := by
  rcases h with (h | ⟨o, h⟩) | h
  · exact .inl (.inl (g.keep h (fun _ z => by cases z)))
  · exact .inl (.inr ⟨o, g.keep h (fun _ z => by cases z)⟩)
  · exact .inr h
mutual
theorem Gr.dd {K : PySem.W.Frag} {H H' : Hp} (g : Gr H H') : ∀ (d : PyData) (v : V), Dd K H v d → Dd K H' v d
  | .none, _, h => by cases h; exact .non
  | .bool _, _, h => by cases h; exact .bl _
  | .int _, _, h => by cases h; exact .int _
  | .str _, _, h => by cases h; exact .str _
  | .list ds, _, h => by
    cases h with
    | lst a b => exact .lst (g.seqL a) (Gr.ddA g ds _ b)
  | .tuple ds, _, h => by
    cases h with
    | tup a b => exact .tup (g.seqT a) (Gr.ddA g ds _ b)
  | .dict _, _, h => by
    cases h with
    | dct a => exact .dct (g.keep a (fun _ z => by cases z))
theorem Gr.ddA {K : PySem.W.Frag} {H H' : Hp} (g : Gr H H') : ∀ (ds : List PyData) (vs : List V), DdAll K H vs ds → DdAll K H' vs ds
  | [], _, h => by cases h; exact .nil
  | d :: ds, _, h => by
    cases h with
    | cons a b => exact .cons (Gr.dd g d _ a) (Gr.ddA g ds _ b)
end

/-! ### a walk of enumerate over a list that stays -/
theorem for_enum {K : PySem.W.Frag} {a : Addr} {xs : List V} {g : TG} {tb : TS} {D : Ends} {σ : L2.St} {H : Hp} (Pv : Nat → L2.St → Hp → Prop) (h0 : Pv 0 σ H) (hl : ∀ i σ H, i ≤ xs.length → Pv i σ H → SqL K H a xs)
    (hs : ∀ i x T σ H, xs[i]? = some x → Pv i σ H → H T = none → g (.ref T) σ (upd H T (.tup [.int (i : Nat), x])) fun σ2 H2 => tb { D with nx := Pv (i + 1), ct := Pv (i + 1), bk := D.nx } σ2 H2) (hd : ∀ σ H, Pv xs.length σ H → D.nx σ H) :
    ∃ W : Nat → Nat → L2.St → Hp → Prop, (∃ m, W 0 m σ H) ∧ ∀ i m σ H, W i m σ H →
      ((Ite K a).stop i H ∧ D.nx σ H) ∨ ((Ite K a).go i H ∧ ∃ N : L2.St → Hp → Prop, (∀ σ' H', N σ' H' → ∃ m', m' < m ∧ W (i + 1) m' σ' H') ∧ ∀ x H', (Ite K a).yld i H x H' → g x σ H' fun σ2 H2 => tb { D with nx := N, ct := N, bk := D.nx } σ2 H2) := by
  refine ⟨fun i m σ H => i + m = xs.length ∧ Pv i σ H, ⟨xs.length, Nat.zero_add _, h0⟩, fun i m σ H ⟨hm, p⟩ => ?_⟩
  have hq := hl i σ H (by omega) p
  cases m with
  | zero =>
    have e : i = xs.length := by omega
    subst e
    exact Or.inl ⟨⟨xs, hq, Nat.le_refl _⟩, hd σ H p⟩
  | succ m =>
    have hi : i < xs.length := by omega
    refine Or.inr ⟨⟨xs, xs[i], hq, List.getElem?_eq_getElem hi⟩, Pv (i + 1), fun σ' H' p' => ⟨m, Nat.lt_succ_self _, by omega, p'⟩, ?_⟩
    rintro x H' ⟨T, y, rfl, hT, rfl, hy⟩
    exact hs i y T σ H (hy xs hq) p hT
end Vf
end
section
set_option Elab.async false
set_option linter.all false
set_option maxRecDepth 100000
set_option maxHeartbeats 8000000
/-! How many different texts a list has: len(set(texts)). -/
namespace Vf
open PySem PySem.Spec PyProof.Rows L2 GxR GenW
/-- one more, if it is new -/
def ins1 (acc : List Str) (x : Str) : List Str := if acc.any (· == x) = true then acc else acc ++ [x]
/-- the different ones, in the order they come -/
def mets (xs : List Str) : List Str := xs.foldl ins1 []
theorem mets_snoc (xs : List Str) (x : Str) : mets (xs ++ [x]) = ins1 (mets xs) x := by unfold mets; rw [List.foldl_append]; rfl
theorem ins1_any (acc : List Str) (x k : Str) : (ins1 acc x).any (· == k) = (acc.any (· == k) || decide (k = x)) := by
  unfold ins1
  by_cases h : acc.any (· == x) = true
  · rw [if_pos h]
    by_cases e : k = x
    · subst e; rw [h]; rfl
    · rw [decide_eq_false e, Bool.or_false]
  · rw [if_neg h, List.any_append]
    congr 1
    by_cases e : k = x
    · subst e; simp
    · have hb : (x == k) = false := by rw [beq_eq_false_iff_ne]; exact fun z => e z.symm
      simp [hb, e]
theorem ins1_len (acc : List Str) (x : Str) : (ins1 acc x).length = if acc.any (· == x) = true then acc.length else acc.length + 1 := by
  unfold ins1
  split
  · rfl
  · rw [List.length_append, List.length_singleton]
theorem mets_len_le (xs : List Str) : (mets xs).length ≤ xs.length := by
  have key : ∀ (l acc : List Str), (l.foldl ins1 acc).length ≤ acc.length + l.length := by
    intro l
    induction l with
    | nil => intro acc; exact Nat.le_refl _
    | cons y r ih =>
      intro acc
      have h1 := ih (ins1 acc y)
      have h2 := ins1_len acc y
      rw [List.foldl_cons, List.length_cons]
      split at h2 <;> omega
  have q := key xs []
  rw [List.length_nil, Nat.zero_add] at q
  exact q
section
variable {prog : Program} {w : World} {A : Around} {R : Result → Shared → Prop} {I : Addr} {fp wr : List Addr} {G : Array GenState → Array GenState → Prop} {n : Nat} {P : Nat → Value → Prop} {St : Nat → Shared → Prop}
theorem upd_loop (W : WalksS prog w A.in1 I fp wr G n P St) (S : Addr) (hSf : S ∉ fp) (xs : List Str) (hn : xs.length = n) (hv : ∀ i v, P i v → ∃ t, v = .str (xs.getD i Str.empty) t) (hb : n + 1 < scanBound) :
    ∀ (k i : Nat) (s : Shared), n - i = k → i ≤ n → St i s → s.heap.SetOf (PySem.strKind prog w) S (fun z => (mets (xs.take i)).any (· == z)) (mets (xs.take i)).length →
      (∀ s', Moved (S :: wr) G s s' → s'.heap.SetOf (PySem.strKind prog w) S (fun z => (mets xs).any (· == z)) (mets xs).length → R (.ok (.ret .none)) s') →
      codeAny (model prog w) A (.builtin "set.update.loop" ⟨[.ref S, .ref I], []⟩) R s := by
  have nS : S ∉ wr := fun z => hSf (W.sub _ z)
  have more : ∀ b ∈ wr, b ∈ S :: wr := fun b z => List.mem_cons_of_mem _ z
  have stay : ∀ {s s' : Shared} {f : Str → Bool} {m : Nat}, Moved wr G s s' → s.heap.SetOf (PySem.strKind prog w) S f m → s'.heap.SetOf (PySem.strKind prog w) S f m := by
    rintro s s' f m hm ⟨o, es, ep, t, ho, rest⟩
    exact ⟨o, es, ep, t, hm.heap S _ nS ho, rest⟩
  intro k
  induction k with
  | zero =>
    intro i s hk hi st hS hR
    have e : i = n := by omega
    subst e
    refine codeAny_builtin PyProof.Rows.F.entry_set_update_loop ?_
    rw [Around.under_plainId PyProof.Rows.F.plain_set_update_loop _]
    show wpAny _ A.in1 (pyNext (.ref I) >>= _) _ _ s
    refine wpAny_bind (W.done s _ _ st fun s' hm => ?_)
    show wpAny _ A.in1 (ret Value.none) _ _ s'
    have q := stay hm hS
    rw [← hn, List.take_length] at q
    exact wpAny_pure (hR s' (hm.mono more) q)
  | succ k ih =>
    intro i s hk hi st hS hR
    have lt : i < n := by omega
    refine codeAny_builtin PyProof.Rows.F.entry_set_update_loop ?_
    rw [Around.under_plainId PyProof.Rows.F.plain_set_update_loop _]
    show wpAny _ A.in1 (pyNext (.ref I) >>= _) _ _ s
    refine wpAny_bind (W.item i s _ _ lt st fun v s' hP st' hm => ?_)
    obtain ⟨t, rfl⟩ := hv i v hP
    have lx : i < xs.length := by omega
    have eg : xs.getD i Str.empty = xs[i] := by simp [List.getD, List.getElem?_eq_getElem lx]
    rw [eg]
    show wpAny _ A.in1 (holding [Value.str xs[i] t] (setAdd S (.str xs[i] t)) >>= _) _ _ s'
    refine wpAny_bind (wpAny_holding ?_)
    unfold setAdd
    refine wpAny_holding (wpAny_bind ((PySem.strKind prog w).pyHash (k := xs[i]) (strKind_is _ _ _ _) ?_))
    have hS' := stay hm hS
    have room : (mets (xs.take i)).length + 1 < scanBound := by
      have h1 := mets_len_le (xs.take i)
      rw [List.length_take] at h1
      omega
    refine wpAny_setAddHashed_of (knd := PySem.strKind prog w) (s := { s' with toks := s'.toks + 1 }) (strKind_is _ _ _ _) rfl hS' room fun h' hsb hS2 => ?_
    have et : xs.take (i + 1) = xs.take i ++ [xs[i]] := by rw [List.take_succ, List.getElem?_eq_getElem lx]; rfl
    have hSi : h'.SetOf (PySem.strKind prog w) S (fun z => (mets (xs.take (i + 1))).any (· == z)) (mets (xs.take (i + 1))).length :=
      PyProof.Rows.SetOf_congr hS2 (fun z => by rw [et, mets_snoc, ins1_any]) (by rw [et, mets_snoc, ins1_len])
    have other : ∀ b, b ≠ S → ∀ o, s'.heap.get? b = some o → h'.get? b = some o := fun b hb o e => (hsb.2 b hb).trans e
    refine wpAny_pure ⟨plainId_quiet PyProof.Rows.F.plain_set_update_loop _, ih (i + 1) _ (by omega) lt (W.frame _ s' _ _ st' (Nat.le_succ _) fun b hb o e => other b (fun z => hSf (z ▸ hb)) o e) hSi fun s'' hm2 hS3 => ?_⟩
    exact hR s'' (Moved.trans W.gtrans ((hm.mono more).then_heap (Nat.le_succ _) fun b o hb e => other b (fun z => hb (z ▸ List.mem_cons_self)) o e) hm2) hS3
end
section
variable {prog : Program} {w : World} {A : Around} {E : Value → Shared → Prop} {s : Shared}
theorem set_of_strs {l : Addr} {its : Array Value} {xs : List Str} {Q : Value → Shared → Prop} (hh : A.handled = none) (hl : s.heap.IsList l its) (hi : PyProof.Rows.StrsAre its.toList xs) (hb : its.size + 1 < scanBound)
    (h : ∀ (h' : Heap) (tk : Nat), h'.SetOf (PySem.strKind prog w) s.heap.objs.size (fun z => (mets xs).any (· == z)) (mets xs).length → (∀ b o, b < s.heap.objs.size → s.heap.get? b = some o → h'.get? b = some o) →
      Q (.ref s.heap.objs.size) { s with heap := h', toks := tk }) : wpAny (model prog w) A (call (.type "set") [.ref l]) Q E s := by
  obtain ⟨c, tl, m1⟩ := PySem.F.called_set.mro
  have m2 := PySem.F.called_set.made
  have m3 := PySem.F.called_set.sub
  refine wpAny_call (codeAny_of_tree ?_)
  show wpAny _ _ (callAny (.type "set") _) _ _ _
  refine wpAny_pure ⟨Code.quiet_builtin _ (by decide +kernel), codeAny_builtin PySem.F.entry_type_call ?_⟩
  rw [Around.under_plain (weight_type_call_type "set" [.ref l] []) rfl]
  have m4 := PySem.F.called_set.notType
  have m5 := PySem.F.called_set.canCreate
  have m6 := PySem.F.typeCall_set_1 (.ref l)
  repeat (any_goals (first | assumption | wp_step))
  refine codeAny_mono (code_set_new_1 (.ref l) (E := E) (Q₁ := fun obj s₁ => ∃ led : Bool, obj = .ref s.heap.objs.size ∧ s₁ = { s with heap := s.heap.push { cls := .type "set", dict := none, data := .set #[] 0 (.fresh 0 0 led) } }) fun led => ⟨led, rfl, rfl⟩) fun r s₁ hr => ?_
  cases r with
  | error e => exact hr
  | ok fl =>
    cases fl with
    | ret obj =>
      obtain ⟨led, rfl, rfl⟩ := hr
      have gS : (s.heap.push ({ cls := .type "set", dict := none, data := .set #[] 0 (.fresh 0 0 led) } : Obj)).get? s.heap.objs.size = some ({ cls := .type "set", dict := none, data := .set #[] 0 (.fresh 0 0 led) } : Obj) := Heap.get?_push_size _ rfl
      have tS : Shared.TypeIs { s with heap := s.heap.push ({ cls := .type "set", dict := none, data := .set #[] 0 (.fresh 0 0 led) } : Obj) } (.ref s.heap.objs.size) "set" := ⟨_, gS, rfl⟩
      have m7 := PySem.F.called_set.init.lookup
      have m8 := PySem.F.called_set.init.bind (.ref s.heap.objs.size)
      repeat (any_goals (first | assumption | wp_step))
      refine codeAny_mono (codeAny_call_builtin (R := wants (fun r s₂ => r = .none ∧ ∃ h' tk, s₂ = { s with heap := h', toks := tk } ∧ h'.SetOf (PySem.strKind prog w) s.heap.objs.size (fun z => (mets xs).any (· == z)) (mets xs).length ∧
          (∀ b o, b < s.heap.objs.size → s.heap.get? b = some o → h'.get? b = some o)) E) PySem.F.called_set.init.plain PySem.F.entry_set_init (check_set_init_1 tS ?_)) fun r₂ s₂ hr₂ => ?_
      · obtain ⟨ol, hol, hcl, nl, hdl⟩ := hl
        obtain ⟨ocls, odict, odata, oslots⟩ := ol
        simp only at hcl hdl
        subst hcl; subst hdl
        have k1 : (s.heap.push ({ cls := .type "set", dict := none, data := .set #[] 0 (.fresh 0 0 led) } : Obj)).get? l = some { cls := .type "list", dict := odict, data := .seq its nl, slots := oslots } := Heap.get?_push_of_some _ hol
        have m9 := PySem.F.sub_list_set
        have m10 := PySem.F.sub_list_frozenset
        have m11 : (Value.type "list" == Value.type "dict") = false := by decide
        have k2 : (s.heap.push ({ cls := .type "set", dict := none, data := .set #[] 0 (.fresh 0 0 led) } : Obj)).IsList l its := ⟨_, k1, rfl, nl, rfl⟩
        unfold Builtin.«set.__init__» noKeywords Builtin.Frozenset.updateFrom
        generalize hPI : pyIter = PI
        wp_walk
        subst hPI
        refine wpAny_pyIter_list k2 (wpAny_bind (wpAny_runValue ?_))
        have lS : l < s.heap.objs.size := Heap.lt_size hol
        have size1 : (s.heap.push ({ cls := .type "set", dict := none, data := .set #[] 0 (.fresh 0 0 led) } : Obj)).objs.size = s.heap.objs.size + 1 := Heap.size_push ..
        have h3 : A.in1.in1.in1.handled = none := hh
        have nI : l ≠ (s.heap.push ({ cls := .type "set", dict := none, data := .set #[] 0 (.fresh 0 0 led) } : Obj)).objs.size := by rw [size1]; exact Nat.ne_of_lt (Nat.lt_succ_of_lt lS)
        have nS : s.heap.objs.size ∉ [(s.heap.push ({ cls := .type "set", dict := none, data := .set #[] 0 (.fresh 0 0 led) } : Obj)).objs.size, l] := by
          rw [size1]
          intro z
          rcases List.mem_cons.mp z with z | z
          · exact absurd z (Nat.ne_of_lt (Nat.lt_succ_self _))
          · exact absurd (List.mem_singleton.mp z) (Nat.ne_of_gt lS)
        have len : xs.length = its.size := by rw [← StrsAre.len_eq hi, Array.length_toList]
        refine upd_loop ((Walks.list h3 _ l nI its).toS) s.heap.objs.size nS xs len (fun i v hv => SS.strs_at hi i v (by rw [Array.getElem?_toList]; exact hv)) hb (its.size - 0) 0 _ (by omega) (Nat.zero_le _) ⟨⟨_, Heap.get?_push_size _ rfl, rfl, rfl⟩, (k2.push _)⟩ ?hS0 ?hR
        case hS0 =>
          have g2 : ((s.heap.push ({ cls := .type "set", dict := none, data := .set #[] 0 (.fresh 0 0 led) } : Obj)).push { cls := .type "list_iterator", data := .fields #[.ref l, .int 0 0] }).get? s.heap.objs.size = some ({ cls := .type "set", dict := none, data := .set #[] 0 (.fresh 0 0 led) } : Obj) := Heap.get?_push_of_some _ gS
          exact PyProof.Rows.SetOf_congr ((PyProof.Rows.setObjOf_fresh (knd := PySem.strKind prog w) led).setOf g2 (by unfold scanBound; omega)) (fun _ => rfl) rfl
        case hR =>
          rintro ⟨h', g', d', tk', os'⟩ hm hS'
          obtain rfl : g' = s.gens := hm.gens
          obtain rfl : d' = s.drawn := hm.drawn
          obtain rfl : os' = s.os := hm.os
          show wpAny _ _ _ _ _ _
          refine wpAny_pure ?_
          show wpAny _ _ (ret Value.none) _ _ _
          refine wpAny_pure ⟨rfl, h', tk', rfl, hS', fun b o hb e => ?_⟩
          refine hm.heap b o ?_ (Heap.get?_push_of_some _ (Heap.get?_push_of_some _ e))
          intro z
          rcases List.mem_cons.mp z with z | z
          · exact absurd z (Nat.ne_of_lt hb)
          · rw [List.mem_singleton.mp z, size1] at hb
            exact absurd (Nat.lt_of_succ_lt hb) (Nat.lt_irrefl _)
      · cases r₂ with
        | error e => exact hr₂
        | ok f2 =>
          cases f2 with
          | ret r =>
            obtain ⟨rfl, h', tk, rfl, q1, q2⟩ := hr₂
            repeat (any_goals (first | assumption | wp_step))
            exact h _ _ q1 q2
          | _ => exact hr₂.elim
    | _ => exact hr.elim
end
end Vf
end
section
set_option Elab.async false
set_option linter.all false
set_option maxRecDepth 100000
set_option maxHeartbeats 8000000
namespace Vf
open PySem PySem.Spec PyProof.Rows L2 GxR GenW
section
variable {X : Cx}
/-- len(set(texts)), texts a list -/
def tLenSetS (K : PySem.W.Frag) (ta : TE) : TE := fun σ H Q => ta σ H fun x H1 => ∃ (l : Addr) (xs : List Str), x = .ref l ∧ SqL K H1 l (xs.map V.str) ∧ xs.length ≤ 4000 ∧ Q (.int ((mets xs).length : Nat)) H1
theorem strs_vals : ∀ {xs : List Str} {us : List Value}, Vals (xs.map V.str) us → StrsAre us xs
  | [], us, r => by cases r; exact StrsAre.nil
  | x :: xs, us, r => by
    cases r with
    | cons a b =>
      obtain ⟨t, rfl⟩ := a
      exact StrsAre.cons _ _ (strs_vals b)
theorem pe_lenSetS {K : PySem.W.Frag} {a : Expr} {ta : TE} {p p2 q pos : Pos} (hK : X.K = K) (hg : Gl X "len") (hm : X.mg "len" = none) (hg2 : Gl X "set") (hm2 : X.mg "set" = none) (ha : PE X a ta) (hc : X.calm = true := by rfl)
    (na : starEach [a] X.env = (false, eval a X.env) :: starEach [] X.env := by rfl) : PE X (.Call (.Name "len" p) [.Call (.Name "set" p2) [a] [] q] [] pos) (tLenSetS K ta) := by
  subst hK
  refine ⟨fun pins s σ H Q I h => Call_ (ld_blt I hg hm boot_len ?_)⟩
  refine PyProof.Rows.callWith_builtin1 (PyProof.Rows.args_cons ?_ rfl) rfl rfl
  refine Call_ (ld_blt I hg2 hm2 boot_set ?_)
  refine PyProof.Rows.callWith_type1 (PyProof.Rows.args_cons (thn (ha.run pins s σ H _ I h) ?_) na) na rfl
  rintro v s1 ⟨x, H1, I1, r1, l, xs, rfl, hq, hl, q1⟩
  refine PyProof.Rows.args_nil ?_
  cases r1
  obtain ⟨its, r, pl, hz⟩ := I1.list hq
  have hlen : its.toArray.size = xs.length := by rw [List.size_toArray, ← r.length, List.length_map]
  have hml := mets_len_le xs
  refine set_of_strs (I1.ok.hd hc) pl.isList (xs := xs) (by simpa using strs_vals r) (by rw [hlen]; unfold scanBound; omega) fun h' tk hS hk => ?_
  refine PyProof.Rows.args_nil ?_
  obtain ⟨o, es, ep, t, ho, hex, hd, _, _, _, hf, hn⟩ := hS
  have I2 : Inv X pins σ H1 { s1 with heap := h', toks := tk } := I1.kept fun b o e => hk b o (Heap.lt_size e) e
  exact call_len_set ho hex hd hf (by rw [hn] <;> omega) ⟨.int (mets xs).length, H1, I2.tok _, ⟨_, by rw [hn]⟩, q1⟩
end
end Vf
end
section
set_option Elab.async false
set_option linter.all false
set_option maxRecDepth 100000
set_option maxHeartbeats 4000000
namespace Vf
open PySem PySem.Spec PyProof.Rows L2 GxR GenW RZ
/-! ### isinstance of data -/
def clsOf : PyData → String
  | .none => "NoneType"
  | .bool _ => "bool"
  | .int _ => "int"
  | .str _ => "str"
  | .list _ => "list"
  | .tuple _ => "tuple"
  | .dict _ => "dict"
def isaD (T : String) : PyData → Bool
  | .none => T == "NoneType"
  | .bool _ => T == "bool" || T == "int"
  | .int _ => T == "int"
  | .str _ => T == "str"
  | .list _ => T == "list"
  | .tuple _ => T == "tuple"
  | .dict _ => T == "dict"
theorem kitD (T : String) (h : T = "tuple" ∨ T = "str" ∨ T = "int" ∨ T = "bool" ∨ T = "list") (d : PyData) : kitB (clsOf d) T = some (isaD T d) := by
  rcases h with rfl | rfl | rfl | rfl | rfl <;> cases d <;> (simp only [clsOf, isaD]; decide +kernel)
section
variable {X : Cx}
theorem tyD {K : PySem.W.Frag} {H : Hp} {v : V} {d : PyData} (h : Dd K H v d) : TyX K H v (.type (clsOf d)) := by
  cases h with
  | non => exact .base .non
  | bl b => exact .base (.bl b)
  | int i => exact .base (.int i)
  | str x => exact .base (.str x)
  | lst h1 _ =>
    rcases h1 with (h1 | ⟨o, h1⟩) | ⟨o, its, n, h1, h2, _⟩
    · exact .base (.lst h1)
    · exact .base (.frz h1)
    · exact .kList h1 h2
  | tup h1 _ =>
    rcases h1 with (h1 | ⟨o, h1⟩) | ⟨o, its, n, h1, h2, _⟩
    · exact .base (.tup h1)
    · exact .fTuple h1
    · exact .kTuple h1 h2
  | dct h1 => exact .base (.dK h1)
/-- isinstance(x, T), x data, T a built-in class's name -/
theorem call_isD {K : PySem.W.Frag} (hK : X.K = K) : CallR X (.builtin "isinstance") (fun xs H Q => ∃ (x : V) (d : PyData) (T : String), xs = [x, .ty T] ∧ Dd K H x d ∧ (T = "tuple" ∨ T = "str" ∨ T = "int" ∨ T = "bool" ∨ T = "list") ∧ Q (.bl (isaD T d)) H) := by
  subst hK
  intro pins s σ H xs us Q I r h
  obtain ⟨x, d, T, rfl, hd, hT, q⟩ := h
  exact call_isi pins s σ H _ us Q I r ⟨x, .ty T, _, _, _, rfl, .ty T, tyD hd, kit_ty (kitD T hT d), q⟩
theorem vals_at : ∀ {xs : List V} {us : List Value}, xs.length = us.length → (∀ (i : Nat) (x : V) (u : Value), xs[i]? = some x → us[i]? = some u → RelV x u) → Vals xs us
  | [], [], _, _ => .nil
  | [], _ :: _, h, _ => by simp at h
  | _ :: _, [], h, _ => by simp at h
  | x :: xs, u :: us, h, k => .cons (k 0 x u rfl rfl) (vals_at (by simpa using h) fun i y v h1 h2 => k (i + 1) y v (by simpa using h1) (by simpa using h2))
/-- a text's signs as values -/
abbrev sgn (x : Str) : List V := x.cps.toList.map fun c => V.str ⟨#[c]⟩
theorem sgn_vals {x : Str} {acc : Array Value} (h : ItemsOf (SignAt x) acc x.cps.size) : Vals (sgn x) acc.toList := by
  obtain ⟨h1, h2⟩ := h
  refine vals_at (by rw [List.length_map, Array.length_toList, Array.length_toList]; exact h1.symm) fun i y u hy hu => ?_
  rw [Array.getElem?_toList] at hu
  obtain ⟨c, t, hc, rfl⟩ := h2 i u hu
  rw [List.getElem?_map, Array.getElem?_toList, hc] at hy
  cases hy
  exact ⟨t, rfl⟩
structure rLstU (K : PySem.W.Frag) (xs : List V) (H : Hp) (Q : VK) : Prop where
  h : (∃ p ys, xs = [.ref p] ∧ (SqL K H p ys ∨ SqT K H p ys) ∧ ∀ l, H l = none → Q (.ref l) (upd H l (.lst ys))) ∨ (∃ x : Str, xs = [.str x] ∧ x.length ≤ sizeLine ∧ ∀ l, H l = none → Q (.ref l) (upd H l (.lst (sgn x))))
/-- list(x), x a list, a tuple, a text -/
theorem call_listU {K : PySem.W.Frag} (hK : X.K = K) (hc : X.calm = true) : CallR X (.type "list") (rLstU K) := by
  subst hK
  intro pins s σ H xs us Q I r h
  rcases h.h with h | ⟨x, rfl, hz, q⟩
  · exact call_list_of pins s σ H xs us Q I r h
  · obtain ⟨u, rfl, t, rfl⟩ := vals1 r
    refine call_list_str (I.ok.hd hc) x t (fun h' tk acc c hk hS ha => ?_) hz
    have hn : H s.heap.objs.size = none := I.hok.fresh (Nat.le_refl _)
    exact ⟨.ref s.heap.objs.size, upd H s.heap.objs.size (.lst (sgn x)), I.laid hk (Nat.le_refl _) ⟨by rw [List.length_map, Array.length_toList]; exact hz, acc.toList, c, sgn_vals ha, hS⟩, rfl, q _ hn⟩
theorem lsU_s {K : PySem.W.Frag} {H : Hp} {Q : VK} {x : Str} (hz : x.length ≤ sizeLine) (q : ∀ l, H l = none → Q (.ref l) (upd H l (.lst (sgn x)))) : rLstU K [.str x] H Q := ⟨.inr ⟨x, rfl, hz, q⟩⟩
theorem lsU_q {K : PySem.W.Frag} {H : Hp} {Q : VK} {p : Addr} {ys : List V} (h : SqL K H p ys ∨ SqT K H p ys) (q : ∀ l, H l = none → Q (.ref l) (upd H l (.lst ys))) : rLstU K [.ref p] H Q := ⟨.inl ⟨p, ys, rfl, h, q⟩⟩
end

/-! ### the turns of an any, an all -/
section
variable {cont : Bool} {j : Nat} {σ0 : L2.St} {te : TE} {K : PySem.W.Frag} {a : Addr} {xs : List V} {Q : VK} {H2 : Hp}
theorem turns_T (Pv : Nat → Hp → Prop) (h0 : Pv 0 H2) (hl : ∀ i H, i ≤ xs.length → Pv i H → SqT K H a xs)
    (hs : ∀ i x H, xs[i]? = some x → Pv i H → te (σ0.set j (some x)) H fun z H4 => ∃ c, z = .bl c ∧ (if c = cont then Pv (i + 1) H4 else Q (.bl (!cont)) H4)) (hd : ∀ H, Pv xs.length H → Q (.bl cont) H) :
    ∃ W : Nat → Nat → Hp → Prop, (∃ m, W 0 m H2) ∧ Turns cont j σ0 tYes te (Itt K a) Q W := by
  refine ⟨fun i m H => i + m = xs.length ∧ Pv i H, ⟨xs.length, Nat.zero_add _, h0⟩, fun i m H ⟨hm, p⟩ => ?_⟩
  have q := hl i H (by omega) p
  cases m with
  | zero =>
    have e : i = xs.length := by omega
    subst e
    exact .inl ⟨⟨xs, q, Nat.le_refl _⟩, hd H p⟩
  | succ m =>
    have hi : i < xs.length := by omega
    refine .inr ⟨⟨xs, xs[i], q, List.getElem?_eq_getElem hi⟩, Pv (i + 1), fun H' p' => ⟨m, Nat.lt_succ_self _, by omega, p'⟩, ?_⟩
    rintro y H' ⟨rfl, hy⟩
    exact hs i y _ (hy xs q) p
theorem turns_L (Pv : Nat → Hp → Prop) (h0 : Pv 0 H2) (hl : ∀ i H, i ≤ xs.length → Pv i H → SqL K H a xs)
    (hs : ∀ i x H, xs[i]? = some x → Pv i H → te (σ0.set j (some x)) H fun z H4 => ∃ c, z = .bl c ∧ (if c = cont then Pv (i + 1) H4 else Q (.bl (!cont)) H4)) (hd : ∀ H, Pv xs.length H → Q (.bl cont) H) :
    ∃ W : Nat → Nat → Hp → Prop, (∃ m, W 0 m H2) ∧ Turns cont j σ0 tYes te (Itl K a) Q W := by
  refine ⟨fun i m H => i + m = xs.length ∧ Pv i H, ⟨xs.length, Nat.zero_add _, h0⟩, fun i m H ⟨hm, p⟩ => ?_⟩
  have q := hl i H (by omega) p
  cases m with
  | zero =>
    have e : i = xs.length := by omega
    subst e
    exact .inl ⟨⟨xs, q, Nat.le_refl _⟩, hd H p⟩
  | succ m =>
    have hi : i < xs.length := by omega
    refine .inr ⟨⟨xs, xs[i], q, List.getElem?_eq_getElem hi⟩, Pv (i + 1), fun H' p' => ⟨m, Nat.lt_succ_self _, by omega, p'⟩, ?_⟩
    rintro y H' ⟨rfl, hy⟩
    exact hs i y _ (hy xs q) p
theorem turns_S {x : Str} (Pv : Nat → Hp → Prop) (h0 : Pv 0 H2)
    (hs : ∀ i c H, x.cps.toList[i]? = some c → Pv i H → te (σ0.set j (some (.str ⟨#[c]⟩))) H fun z H4 => ∃ c, z = .bl c ∧ (if c = cont then Pv (i + 1) H4 else Q (.bl (!cont)) H4)) (hd : ∀ H, Pv x.cps.toList.length H → Q (.bl cont) H) :
    ∃ W : Nat → Nat → Hp → Prop, (∃ m, W 0 m H2) ∧ Turns cont j σ0 tYes te (Its x) Q W := by
  refine ⟨fun i m H => i + m = x.cps.toList.length ∧ Pv i H, ⟨_, Nat.zero_add _, h0⟩, fun i m H ⟨hm, p⟩ => ?_⟩
  have e2 : x.cps.toList.length = x.cps.size := Array.length_toList
  cases m with
  | zero =>
    have e : i = x.cps.toList.length := by omega
    subst e
    exact .inl ⟨by show x.cps.size ≤ _; omega, hd H p⟩
  | succ m =>
    refine .inr ⟨by show i < x.cps.size; omega, Pv (i + 1), fun H' p' => ⟨m, Nat.lt_succ_self _, by omega, p'⟩, ?_⟩
    rintro y H' ⟨rfl, c, hc, rfl⟩
    exact hs i c _ (by rw [Array.getElem?_toList]; exact hc) p
end

/-! ### comprehensions over a text, over zip -/
section
variable {K : PySem.W.Frag} {g : TG} {tt : TT} {te : TE} {vs : List Nat} {σ : L2.St} {H1 : Hp} {D : Addr} {Qd : Hp → Prop}
theorem lc_S {x : Str} (Pv : Nat → Hp → Prop) (h0 : Pv 0 (upd H1 D (.lst [])))
    (hs : ∀ i c H, x.cps.toList[i]? = some c → Pv i H → g (.str ⟨#[c]⟩) (wipe σ vs) H fun σ2 H2 => wipe σ2 vs = wipe σ vs ∧ tt σ2 H2 fun b H3 =>
      if b = true then te σ2 H3 fun y H4 => ∃ acc, H4 D = some (.lst acc) ∧ acc.length < sizeLine ∧ Pv (i + 1) (upd H4 D (.lst (acc ++ [y]))) else Pv (i + 1) H3) (hd : ∀ H, Pv x.cps.toList.length H → Qd H) :
    ∃ W : Nat → Nat → Hp → Prop, (∃ m, W 0 m (upd H1 D (.lst []))) ∧ ∀ i m H, W i m H →
      ((Its x).stop i H ∧ Qd H) ∨ ((Its x).go i H ∧ ∃ Nx : Hp → Prop, (∀ H', Nx H' → ∃ m', m' < m ∧ W (i + 1) m' H') ∧ ∀ y H', (Its x).yld i H y H' → g y (wipe σ vs) H' fun σ2 H2 => wipe σ2 vs = wipe σ vs ∧ tt σ2 H2 fun b H3 =>
        if b = true then te σ2 H3 fun y H4 => ∃ acc, H4 D = some (.lst acc) ∧ acc.length < sizeLine ∧ Nx (upd H4 D (.lst (acc ++ [y]))) else Nx H3) := by
  refine ⟨fun i m H => i + m = x.cps.toList.length ∧ Pv i H, ⟨_, Nat.zero_add _, h0⟩, fun i m H ⟨hm, p⟩ => ?_⟩
  have e2 : x.cps.toList.length = x.cps.size := Array.length_toList
  cases m with
  | zero =>
    have e : i = x.cps.toList.length := by omega
    subst e
    exact .inl ⟨by show x.cps.size ≤ _; omega, hd H p⟩
  | succ m =>
    refine .inr ⟨by show i < x.cps.size; omega, Pv (i + 1), fun H' p' => ⟨m, Nat.lt_succ_self _, by omega, p'⟩, ?_⟩
    rintro y H' ⟨rfl, c, hc, rfl⟩
    exact hs i c _ (by rw [Array.getElem?_toList]; exact hc) p
theorem lc_zT {a b : Addr} {xs ys : List V} (hl : xs.length = ys.length) (Pv : Nat → Hp → Prop) (h0 : Pv 0 (upd H1 D (.lst []))) (hq : ∀ i H, Pv i H → SqT K H a xs ∧ SqT K H b ys)
    (hs : ∀ i x y T H, xs[i]? = some x → ys[i]? = some y → Pv i H → H T = none → g (.ref T) (wipe σ vs) (upd H T (.tup [x, y])) fun σ2 H2 => wipe σ2 vs = wipe σ vs ∧ tt σ2 H2 fun b H3 =>
      if b = true then te σ2 H3 fun y H4 => ∃ acc, H4 D = some (.lst acc) ∧ acc.length < sizeLine ∧ Pv (i + 1) (upd H4 D (.lst (acc ++ [y]))) else Pv (i + 1) H3) (hd : ∀ H, Pv xs.length H → Qd H) :
    ∃ W : Nat → Nat → Hp → Prop, (∃ m, W 0 m (upd H1 D (.lst []))) ∧ ∀ i m H, W i m H →
      ((ItzT K a b).stop i H ∧ Qd H) ∨ ((ItzT K a b).go i H ∧ ∃ Nx : Hp → Prop, (∀ H', Nx H' → ∃ m', m' < m ∧ W (i + 1) m' H') ∧ ∀ y H', (ItzT K a b).yld i H y H' → g y (wipe σ vs) H' fun σ2 H2 => wipe σ2 vs = wipe σ vs ∧ tt σ2 H2 fun b H3 =>
        if b = true then te σ2 H3 fun y H4 => ∃ acc, H4 D = some (.lst acc) ∧ acc.length < sizeLine ∧ Nx (upd H4 D (.lst (acc ++ [y]))) else Nx H3) := by
  refine ⟨fun i m H => i + m = xs.length ∧ Pv i H, ⟨_, Nat.zero_add _, h0⟩, fun i m H ⟨hm, p⟩ => ?_⟩
  obtain ⟨q1, q2⟩ := hq i H p
  cases m with
  | zero =>
    have e : i = xs.length := by omega
    subst e
    exact .inl ⟨⟨xs, ys, q1, q2, .inl (Nat.le_refl _)⟩, hd H p⟩
  | succ m =>
    have h1 : i < xs.length := by omega
    have h2 : i < ys.length := by omega
    refine .inr ⟨⟨xs, ys, xs[i], ys[i], q1, q2, List.getElem?_eq_getElem h1, List.getElem?_eq_getElem h2⟩, Pv (i + 1), fun H' p' => ⟨m, Nat.lt_succ_self _, by omega, p'⟩, ?_⟩
    rintro z H' ⟨T, x, y, rfl, hT, rfl, hx, hy⟩
    exact hs i x y T H (hx xs q1) (hy ys q2) p hT
theorem lc_zL {a b : Addr} {xs ys : List V} (hl : xs.length = ys.length) (Pv : Nat → Hp → Prop) (h0 : Pv 0 (upd H1 D (.lst []))) (hq : ∀ i H, Pv i H → SqL K H a xs ∧ SqL K H b ys)
    (hs : ∀ i x y T H, xs[i]? = some x → ys[i]? = some y → Pv i H → H T = none → g (.ref T) (wipe σ vs) (upd H T (.tup [x, y])) fun σ2 H2 => wipe σ2 vs = wipe σ vs ∧ tt σ2 H2 fun b H3 =>
      if b = true then te σ2 H3 fun y H4 => ∃ acc, H4 D = some (.lst acc) ∧ acc.length < sizeLine ∧ Pv (i + 1) (upd H4 D (.lst (acc ++ [y]))) else Pv (i + 1) H3) (hd : ∀ H, Pv xs.length H → Qd H) :
    ∃ W : Nat → Nat → Hp → Prop, (∃ m, W 0 m (upd H1 D (.lst []))) ∧ ∀ i m H, W i m H →
      ((Itz K a b).stop i H ∧ Qd H) ∨ ((Itz K a b).go i H ∧ ∃ Nx : Hp → Prop, (∀ H', Nx H' → ∃ m', m' < m ∧ W (i + 1) m' H') ∧ ∀ y H', (Itz K a b).yld i H y H' → g y (wipe σ vs) H' fun σ2 H2 => wipe σ2 vs = wipe σ vs ∧ tt σ2 H2 fun b H3 =>
        if b = true then te σ2 H3 fun y H4 => ∃ acc, H4 D = some (.lst acc) ∧ acc.length < sizeLine ∧ Nx (upd H4 D (.lst (acc ++ [y]))) else Nx H3) := by
  refine ⟨fun i m H => i + m = xs.length ∧ Pv i H, ⟨_, Nat.zero_add _, h0⟩, fun i m H ⟨hm, p⟩ => ?_⟩
  obtain ⟨q1, q2⟩ := hq i H p
  cases m with
  | zero =>
    have e : i = xs.length := by omega
    subst e
    exact .inl ⟨⟨xs, ys, q1, q2, .inl (Nat.le_refl _)⟩, hd H p⟩
  | succ m =>
    have h1 : i < xs.length := by omega
    have h2 : i < ys.length := by omega
    refine .inr ⟨⟨xs, ys, xs[i], ys[i], q1, q2, List.getElem?_eq_getElem h1, List.getElem?_eq_getElem h2⟩, Pv (i + 1), fun H' p' => ⟨m, Nat.lt_succ_self _, by omega, p'⟩, ?_⟩
    rintro z H' ⟨T, x, y, rfl, hT, rfl, hx, hy⟩
    exact hs i x y T H (hx xs q1) (hy ys q2) p hT
end
end Vf
end
section
set_option Elab.async false
set_option linter.all false
set_option maxRecDepth 100000
set_option maxHeartbeats 4000000
namespace Vf
open PySem PySem.Spec PyProof.Rows L2 GxR GenW
def top (i : Nat) : Stmt := PySem.Challenge.pw_clipforms_k03_forms_of_any_object.main.body.getD i (.Pass ⟨0, 0, 0, 0⟩)
abbrev s__law_churned : Stmt := top 23
abbrev n__law_churned : List Str := ["seed", "lap", "prime", "amount", "again"]
abbrev p__law_churned : List Str := ["seed", "lap"]
theorem sc__law_churned : FnScope n__law_churned p__law_churned (defScope s__law_churned) := ⟨rfl, rfl, rfl, by decide +kernel, rfl, by decide +kernel, by decide +kernel⟩

abbrev s__law_urn_of : Stmt := top 24
abbrev n__law_urn_of : List Str := ["script", "cell", "cells", "place"]
abbrev p__law_urn_of : List Str := ["script"]
theorem sc__law_urn_of : FnScope n__law_urn_of p__law_urn_of (defScope s__law_urn_of) := ⟨rfl, rfl, rfl, by decide +kernel, rfl, by decide +kernel, by decide +kernel⟩

abbrev s__law_upto : Stmt := top 25
abbrev n__law_upto : List Str := ["urn", "bound", "cells", "place", "amount", "found"]
abbrev p__law_upto : List Str := ["urn", "bound"]
theorem sc__law_upto : FnScope n__law_upto p__law_upto (defScope s__law_upto) := ⟨rfl, rfl, rfl, by decide +kernel, rfl, by decide +kernel, by decide +kernel⟩

abbrev s__law_choice : Stmt := top 26
abbrev n__law_choice : List Str := ["urn", "items"]
abbrev p__law_choice : List Str := ["urn", "items"]
theorem sc__law_choice : FnScope n__law_choice p__law_choice (defScope s__law_choice) := ⟨rfl, rfl, rfl, by decide +kernel, rfl, by decide +kernel, by decide +kernel⟩

abbrev s__law_equal : Stmt := top 27
abbrev n__law_equal : List Str := ["one", "other"]
abbrev p__law_equal : List Str := ["one", "other"]
theorem sc__law_equal : FnScope n__law_equal p__law_equal (defScope s__law_equal) := ⟨rfl, rfl, rfl, by decide +kernel, rfl, by decide +kernel, by decide +kernel⟩

/-- what the module's names are -/
structure TX (mg : Str → Option Value) : Prop where
  b_range : mg "range" = none
  b_abs : mg "abs" = none
  b_enumerate : mg "enumerate" = none
  b_len : mg "len" = none
  b_int : mg "int" = none
  b_repr : mg "repr" = none

local macro_rules | `(tactic| walk_at "rd") => `(tactic| repeat (first
  | refine ⟨_, rfl, ?_⟩ | refine a_ii ?_ | (refine m_ii (by first | exact .inl ⟨by decide, by decide⟩ | exact .inr ⟨by decide, by decide⟩) ?_) | refine md_ii (by decide) ?_ | refine sb_ii ?_ | refine l_ii ?_ | refine le_ii ?_ | refine ge_ii ?_ | refine gt_ii ?_ | refine e_flat rfl ?_ | refine n_flat rfl ?_))
/-! ### the urn -/
/-- an urn stands at u: what stays of it is that it holds a list of ints and three ints -/
def Urn (c : Addr) (H : Hp) (u : Addr) : Prop := ∃ (ns : List Int) (p a r : Int), H u = some (.lst [.ref c, .int p, .int a, .int r]) ∧ H c = some (.lst (ns.map V.int))
/-- grown, but for what stands at u -/
def GrU (u : Addr) (H H' : Hp) : Prop := ∀ b o, b ≠ u → H b = some o → (H' b = some o ∨ ∃ ps more, o = .tbl ps ∧ H' b = some (.tbl (ps ++ more)) ∧ (TriplesOk ps.toList → TriplesOk (ps ++ more).toList))
theorem GrU.refl (u : Addr) (H : Hp) : GrU u H H := fun _ _ _ h => .inl h
theorem Gr.u {u : Addr} {H H' : Hp} (g : Gr H H') : GrU u H H' := fun b o _ h => g b o h
theorem GrU.trans {u : Addr} {H H1 H2 : Hp} (a : GrU u H H1) (b : GrU u H1 H2) : GrU u H H2 := by
  intro c o hc h
  rcases a c o hc h with h1 | ⟨ps, m1, rfl, h1, t1⟩
  · exact b c o hc h1
  · rcases b c _ hc h1 with h2 | ⟨qs, m2, e, h2, t2⟩
    · exact .inr ⟨ps, m1, rfl, h2, t1⟩
    · cases e
      exact .inr ⟨ps, m1 ++ m2, rfl, by rw [← Array.append_assoc]; exact h2, fun z => by rw [← Array.append_assoc]; exact t2 (t1 z)⟩
theorem GrU.upd {u : Addr} {H H' : Hp} {o : HO} (g : GrU u H H') : GrU u H (upd H' u o) := fun b w hb h => by
  rw [upd_ne hb]
  exact g b w hb h
theorem GrU.keep {u : Addr} {H H' : Hp} (g : GrU u H H') {b : Addr} {o : HO} (hb : b ≠ u) (h : H b = some o) (n : ∀ ps, o ≠ .tbl ps) : H' b = some o := by
  rcases g b o hb h with h1 | ⟨ps, _, rfl, _⟩
  · exact h1
  · exact absurd rfl (n ps)
theorem urn_ne {H : Hp} {u c : Addr} {ns : List Int} {p a r : Int} (h1 : H u = some (.lst [.ref c, .int p, .int a, .int r])) (h2 : H c = some (.lst (ns.map V.int))) : c ≠ u := by
  rintro rfl
  rw [h1] at h2
  have e : ([.ref c, .int p, .int a, .int r] : List V) = ns.map V.int := by injection h2 with h2; injection h2
  cases ns with
  | nil => cases e
  | cons z zs =>
    rw [List.map_cons] at e
    injection e with e1 _
    cases e1
/-- what is no list of values stays so -/
theorem GrU.notu {u c : Addr} {H H' : Hp} (g : GrU u H H') (hu : Urn c H u) {b : Addr} {o : HO} (h : H b = some o) (n : ∀ xs, o ≠ .lst xs) (n2 : ∀ ps, o ≠ .tbl ps) : H' b = some o := by
  refine g.keep ?_ h n2
  rintro rfl
  obtain ⟨ns, p, a, r, h1, _⟩ := hu
  rw [h1] at h
  cases h
  exact n _ rfl

def spChurned : Sp := fun vs H Q _ => ∃ s l : Int, vs = [.int s, .int l] ∧ ∀ r : Int, Q (.int r) H
def spUrnOf (K : PySem.W.Frag) : Sp := fun vs H Q _ => ∃ (a : Addr) (ns : List Int), vs = [.ref a] ∧ SqL K H a (ns.map V.int) ∧ ns.length ≤ 63 ∧ ∀ u c H', H u = none → H c = none → Gr H H' → Urn c H' u → Q (.ref u) H'
def spUpto : Sp := fun vs H Q _ => ∃ (u c : Addr) (b : Int), vs = [.ref u, .int b] ∧ Urn c H u ∧ 0 < b ∧ b < 1073741824 ∧ ∀ r H', 0 ≤ r → r < b → GrU u H H' → Urn c H' u → Q (.int r) H'
def spChoice (K : PySem.W.Frag) : Sp := fun vs H Q _ => ∃ (u c it : Addr) (xs : List V), vs = [.ref u, .ref it] ∧ Urn c H u ∧ it ≠ u ∧ (SqL K H it xs ∨ SqT K H it xs) ∧ xs ≠ [] ∧ xs.length < 1073741824 ∧ ∀ x H', x ∈ xs → GrU u H H' → Urn c H' u → Q x H'
def spEqual (K : PySem.W.Frag) : Sp := fun vs H Q _ => ∃ (x y : V) (d e : PyData), vs = [x, y] ∧ Dd K H x d ∧ Dd K H y e ∧ (d.showable = true ∧ (d.hasDict = true → noLst d = true) ∧ d.depth < 60 ∧ d.shown.length ≤ sizeLine) ∧
  (e.showable = true ∧ (e.hasDict = true → noLst e = true) ∧ e.depth < 60 ∧ e.shown.length ≤ sizeLine) ∧ Q (.bl (decide (V.str d.shown = V.str e.shown))) H
section
variable {P : Program} {w : World} {K : PySem.W.Frag} {mg : Str → Option Value} {base : Heap}
abbrev FnP (K : PySem.W.Frag) (x : Str) (st : Stmt) (fd : FuncData) : Prop := FunD K x x (defArgs st) (defBody st) (defScope st) [] [] (He.fAd K (x, none)) fd
theorem ok_churned {fd : FuncData} (F : FnP K "_law_churned" s__law_churned fd) (T : TX mg) : FnOk P w K mg base CX0 1 (He.fAd K ("_law_churned", none)) fd p__law_churned spChurned := by
  refine okP F sc__law_churned (fun vs H Q E h => by obtain ⟨s, l, rfl, _⟩ := h; rfl) (fun A outer s H vs Q E hr h => ?_)
  obtain ⟨a, l, rfl, k⟩ := h
  refine ⟨_, (pss_cons (ps_set (i := 2) sc__law_churned.nd rfl (by first | exact Or.inl rfl | exact Or.inr rfl) pe_int)
      (pss_cons (ps_set (i := 3) sc__law_churned.nd rfl (by first | exact Or.inl rfl | exact Or.inr rfl) (pe_op u_mod (pe_op (u_add (K := K) rfl) (pe_op (u_add (K := K) rfl) (pe_op (u_mul (K := K) rfl) (pv 0) pe_int) (pe_op (u_mul (K := K) rfl) (pv 1) pe_int)) pe_int) (pv 2)))
      (pss_cons (ps_for PassesOwn.never rfl (pi_range1 rfl T.b_range (pa_cons pe_int pa_nil)) (pg_name (i := 4) sc__law_churned.nd rfl (by first | exact Or.inl rfl | exact Or.inr rfl))
      (pss_one (ps_set (i := 3) sc__law_churned.nd rfl (by first | exact Or.inl rfl | exact Or.inr rfl) (pe_op u_mod (pe_op (u_add (K := K) rfl) (pe_op (u_add (K := K) rfl) (pe_op (u_add (K := K) rfl) (pe_op (u_mul (K := K) rfl) (pv 3) (pv 3)) (pe_op (u_mul (K := K) rfl) pe_int (pv 3))) (pe_op (u_mul (K := K) rfl) pe_int (pv 4))) (pv 1)) (pv 2)))))
      (pss_one (ps_ret (pe_op (u_add (K := K) rfl) (pe_op (u_mul (K := K) rfl) (pv 3) (pv 2)) (pe_op u_mod (pe_op (u_add (K := K) rfl) (pe_op (u_mul (K := K) rfl) (pv 3) pe_int) (pv 1)) (pv 2)))))))), ?_⟩
  have hm : ∀ x : Int, x.fmod 2305843009213693921 < 2 ^ 64 ∧ -(2 ^ 64) < x.fmod 2305843009213693921 := fun x => by
    have h1 := Int.fmod_nonneg_of_pos x (b := 2305843009213693921) (by decide)
    have h2 := Int.fmod_lt_of_pos x (b := 2305843009213693921) (by decide)
    omega
  walk_at "rd"
  refine ⟨by decide, by decide, for_range (n := 4) (fun i σ H' => H' = H ∧ ∃ (x : Int) (o : Option V), σ = [some (.int a), some (.int l), some (.int 2305843009213693921), some (.int (x.fmod 2305843009213693921)), o]) ⟨rfl, _, _, rfl⟩ ?_ ?_⟩
  · rintro i σ H' hi ⟨rfl, x, o, rfl⟩
    have := hm x
    walk_at "rd"
    refine m_ii (.inl ⟨this.2, this.1⟩) ?_
    walk_at "rd"
    exact ⟨rfl, _, _, rfl⟩
  · rintro σ H' ⟨rfl, x, o, rfl⟩
    have := hm x
    walk_at "rd"
    exact k _

theorem urn_upd {H : Hp} {u c : Addr} {ns : List Int} {p a r p' a' r' : Int} (h1 : H u = some (.lst [.ref c, .int p, .int a, .int r])) (h2 : H c = some (.lst (ns.map V.int))) : Urn c (upd H u (.lst [.ref c, .int p', .int a', .int r'])) u :=
  ⟨ns, p', a', r', upd_same, by rw [upd_ne (urn_ne h1 h2)]; exact h2⟩
theorem dp_ints {H : Hp} : ∀ ns : List Int, DpAll K H (ns.map V.int) (ns.map PyData.int)
  | [] => .nil
  | z :: zs => .cons (.int z) (dp_ints zs)
theorem lay_ints : ∀ ns : List Int, PyData.canLayAll0 (ns.map PyData.int) = true
  | [] => rfl
  | z :: zs => by
    show (PyData.canLay0 (.int z) && PyData.canLayAll0 (zs.map PyData.int)) = true
    rw [lay_ints zs]; rfl
theorem dep_ints : ∀ ns : List Int, PyData.depthAll (ns.map PyData.int) ≤ 1
  | [] => Nat.zero_le _
  | z :: zs => by
    have := dep_ints zs
    simp only [List.map_cons, PyData.depthAll, PyData.depth]
    omega
theorem shp_ints (ns : List Int) : SeqAt.shaped (.list (ns.map PyData.int)) = true := by
  unfold SeqAt.shaped
  have h1 : PyData.canLay0 (.list (ns.map PyData.int)) = true := lay_ints ns
  have h2 := dep_ints ns
  have h3 : PyData.depth (.list (ns.map PyData.int)) ≤ 64 := by simp only [PyData.depth]; omega
  rw [h1, decide_eq_true h3]; rfl
theorem ok_upto {fd : FuncData} (F : FnP K "_law_upto" s__law_upto fd) (T : TX mg) (D__law_churned : Df P w K mg base "_law_churned" 1 p__law_churned spChurned) : FnOk P w K mg base CX0 2 (He.fAd K ("_law_upto", none)) fd p__law_upto spUpto := by
  refine okP F sc__law_upto (fun vs H Q E h => by obtain ⟨s, c, l, rfl, _⟩ := h; rfl) (fun A outer s H vs Q E hr h => ?_)
  obtain ⟨u, c, b, rfl, ⟨ns, p, a, r, h1, h2⟩, hb, hb2, k⟩ := h
  have hcu := urn_ne h1 h2
  refine ⟨_, (C8.pss_cut (ps_if (pt_cmpR u_lt (pe_ix (u_ix (K := K) rfl) (pv 0) pe_int (fun _ _ => rfl)) (pv 1) (nomark _))
      (pss_cons (ps_par (i := 2) (j := 3) (by rfl) sc__law_upto.nd rfl rfl (by decide) rfl rfl (pa_cons (pe_ix (u_ix (K := K) rfl) (pv 0) pe_int (fun _ _ => rfl)) (pa_cons (pe_ix (u_ix (K := K) rfl) (pv 0) pe_int (fun _ _ => rfl)) pa_nil)) (by rfl))
      (C8.pss_cut (ps_set (i := 4) sc__law_upto.nd rfl (by first | exact Or.inl rfl | exact Or.inr rfl) (pe_ifExp (pt_cmpR (u_ne (K := K) rfl hr.units) (pv 2) (pe_lst pa_nil) (nomark _)) (pe_ix (u_ix (K := K) rfl) (pv 2) (pe_op u_mod (pv 3) (pe_callB (k_len (K := K) rfl) rfl T.b_len (by decide +kernel) (pa_cons (pv 2) pa_nil))) (fun _ _ => rfl)) pe_int))
      (C8.pss_cut (ps_if (PW.pt (pw_or (pt_cmpR u_ge (pv 3) (pe_callB (k_len (K := K) rfl) rfl T.b_len (by decide +kernel) (pa_cons (pv 2) pa_nil)) (nomark _)) (pw_or1 (pt_cmpR u_lt (pv 4) (pe_op u_pow pe_int pe_int) (nomark _)))))
      (pss_one (ps_set (i := 4) sc__law_upto.nd rfl (by first | exact Or.inl rfl | exact Or.inr rfl) (pe_fn D__law_churned hr (by decide) rfl (pa_cons (pe_op u_mod (pe_callTy call_int1 rfl T.b_int (by decide +kernel) (pa_cons (pv 4) pa_nil)) pe_int) (pa_cons (pv 3) pa_nil)))))
      pss_nil)
      (pss_cons (ps_asg (pe_op (u_add (K := K) rfl) (pv 3) pe_int) (pg_sub (pv 0) pe_int set_list))
      (pss_cons (ps_asg (pv 4) (pg_sub (pv 0) pe_int set_list))
      (pss_one (ps_asg (pv 4) (pg_sub (pv 0) pe_int set_list))))))))
      pss_nil)
      (pss_cons (ps_set (i := 5) sc__law_upto.nd rfl (by first | exact Or.inl rfl | exact Or.inr rfl) (pe_op u_mod (pe_callTy call_int1 rfl T.b_int (by decide +kernel) (pa_cons (pe_ix (u_ix (K := K) rfl) (pv 0) pe_int (fun _ _ => rfl)) pa_nil)) (pv 1)))
      (pss_cons (ps_asg (pe_op u_fdiv (pe_ix (u_ix (K := K) rfl) (pv 0) pe_int (fun _ _ => rfl)) (pv 1)) (pg_sub (pv 0) pe_int set_list))
      (pss_cons (ps_asg (pe_op u_fdiv (pe_ix (u_ix (K := K) rfl) (pv 0) pe_int (fun _ _ => rfl)) (pv 1)) (pg_sub (pv 0) pe_int set_list))
      (pss_one (ps_ret (pv 5))))))), ?_⟩
  refine ⟨fun σ H' => ∃ x y z o3 o4, (∃ o2, σ = [some (.ref u), some (.int b), o2, o3, o4, none]) ∧ GrU u H H' ∧ H' u = some (.lst [.ref c, .int x, .int y, .int z]) ∧ H' c = some (.lst (ns.map V.int)), ?_, ?_⟩
  · refine ⟨_, rfl, x_l (SqL.of h1) rfl ⟨_, rfl, l_ii ⟨_, rfl, ite2 (fun _ => ?_) (fun _ => ?_)⟩⟩⟩
    · refine ⟨_, rfl, x_l (SqL.of h1) rfl ⟨_, rfl, x_l (SqL.of h1) rfl ⟨_, _, rfl, ?_⟩⟩⟩
      -- amount
      refine ⟨fun σ H' => ∃ v : Int, σ = [some (.ref u), some (.int b), some (.ref c), some (.int p), some (.int v), none] ∧ GrU u H H' ∧ H' u = some (.lst [.ref c, .int p, .int a, .int r]) ∧ H' c = some (.lst (ns.map V.int)), ?_, ?_⟩
      · refine ⟨_, rfl, Nat.zero_le _, fun l hl => ?_⟩
        have g1 : Gr H (upd H l (.lst [])) := Gr.new hl
        have e1 : upd H l (.lst []) u = some (.lst [.ref c, .int p, .int a, .int r]) := by rw [upd_ne (ne_of_none h1 hl)]; exact h1
        have e2 : upd H l (.lst []) c = some (.lst (ns.map V.int)) := by rw [upd_ne (ne_of_none h2 hl)]; exact h2
        refine n_data (Dp.lst (SqL.of e2) (dp_ints ns)) (Dp.lst (SqL.of upd_same) .nil) (shp_ints ns) rfl ⟨_, rfl, ?_⟩
        refine ite2 (fun hne => ?_) (fun _ => ⟨0, rfl, g1.u, e1, e2⟩)
        have hpos : 0 < ns.length := by
          cases ns with
          | nil => simp [PyData.eqv, PyData.eqvAll] at hne
          | cons z zs => exact Nat.succ_pos _
        refine ⟨_, rfl, _, rfl, _, rfl, _, _, rfl, .inl ⟨_, SqL.of e2, rfl⟩, ?_⟩
        refine md_ii (by rw [List.length_map]; omega) ?_
        have q0 := Int.fmod_nonneg_of_pos p (b := ((ns.map V.int).length : Int)) (by rw [List.length_map]; omega)
        have q1 := Int.fmod_lt_of_pos p (b := ((ns.map V.int).length : Int)) (by rw [List.length_map]; omega)
        obtain ⟨j, hj⟩ := Int.eq_ofNat_of_zero_le q0
        have hjl : j < ns.length := by
          rw [hj, List.length_map] at q1
          omega
        rw [hj]
        exact x_l (SqL.of e2) (atI_nat (v := .int ns[j]) (by rw [List.getElem?_map, List.getElem?_eq_getElem hjl]; rfl)) ⟨_, rfl, g1.u, e1, e2⟩
      · rintro σ H1 ⟨v, rfl, g1, e1, e2⟩
        -- the churned one
        refine ⟨fun σ H' => ∃ v : Int, σ = [some (.ref u), some (.int b), some (.ref c), some (.int p), some (.int v), none] ∧ H' = H1, ?_, ?_⟩
        · refine ⟨_, rfl, _, rfl, _, _, rfl, .inl ⟨_, SqL.of e2, rfl⟩, ge_ii ⟨_, rfl, ?_⟩⟩
          refine ite2 (fun _ => ?_) (fun _ => ?_)
          · refine ⟨_, rfl, .inl ⟨_, rfl, md_ii (by decide) ⟨_, rfl, _, _, rfl, fun z => ⟨z, rfl, rfl⟩⟩⟩⟩
          · refine ⟨_, rfl, pw_ii ⟨by decide, by decide, by decide⟩ (l_ii ⟨_, rfl, ite2 (fun _ => ?_) (fun _ => ⟨v, rfl, rfl⟩)⟩)⟩
            refine ⟨_, rfl, .inl ⟨_, rfl, md_ii (by decide) ⟨_, rfl, _, _, rfl, fun z => ⟨z, rfl, rfl⟩⟩⟩⟩
        · rintro σ H2 ⟨v, rfl, rfl⟩
          have hcu' := urn_ne e1 e2
          refine ⟨_, rfl, a_ii ⟨_, rfl, _, _, _, _, rfl, rfl, e1, rfl, ?_⟩⟩
          refine ⟨_, rfl, _, rfl, _, _, _, _, rfl, rfl, upd_same, rfl, ?_⟩
          rw [upd_upd]
          refine ⟨_, rfl, _, rfl, _, _, _, _, rfl, rfl, upd_same, rfl, ?_⟩
          rw [upd_upd]
          exact ⟨p + 1, v, v, some (.int p), some (.int v), ⟨some (.ref c), rfl⟩, g1.upd, upd_same, by rw [upd_ne hcu']; exact e2⟩
    · exact ⟨p, a, r, none, none, ⟨none, rfl⟩, GrU.refl _ _, h1, h2⟩
  · rintro σ H' ⟨x, y, z, o3, o4, ⟨o2, rfl⟩, g, e1, e2⟩
    refine ⟨_, rfl, x_l (SqL.of e1) rfl (.inl ⟨_, rfl, ⟨_, rfl, md_ii (by omega) ?_⟩⟩)⟩
    refine ⟨_, rfl, x_l (SqL.of e1) rfl ⟨_, rfl, f_ii ⟨by omega, by omega⟩ ⟨_, rfl, _, _, _, _, rfl, rfl, e1, rfl, ?_⟩⟩⟩
    refine ⟨_, rfl, x_l (SqL.of upd_same) rfl ⟨_, rfl, f_ii ⟨by omega, by omega⟩ ⟨_, rfl, _, _, _, _, rfl, rfl, upd_same, rfl, ?_⟩⟩⟩
    rw [upd_upd]
    refine ⟨_, rfl, k _ _ (Int.fmod_nonneg_of_pos _ hb) (Int.fmod_lt_of_pos _ hb) g.upd ?_⟩
    exact urn_upd e1 e2

theorem ok_choice {fd : FuncData} (F : FnP K "_law_choice" s__law_choice fd) (T : TX mg) (D__law_upto : Df P w K mg base "_law_upto" 2 p__law_upto spUpto) : FnOk P w K mg base CX0 3 (He.fAd K ("_law_choice", none)) fd p__law_choice (spChoice K) := by
  refine okP F sc__law_choice (fun vs H Q E h => by obtain ⟨s, c, l, xs, rfl, _⟩ := h; rfl) (fun A outer s H vs Q E hr h => ?_)
  obtain ⟨u, c, it, xs, rfl, hu, hit, hs, hne, hl, k⟩ := h
  have hpos : 0 < xs.length := List.length_pos_iff.mpr hne
  refine ⟨_, (pss_one (ps_ret (pe_ix (u_ix (K := K) rfl) (pv 1) (pe_fn D__law_upto hr (by decide) rfl (pa_cons (pv 0) (pa_cons (pe_callB (k_len (K := K) rfl) rfl T.b_len (by decide +kernel) (pa_cons (pv 1) pa_nil)) pa_nil))) (fun _ _ => rfl)))), ?_⟩
  have lv : LenV K (.ref it) H xs.length := by
    rcases hs with hs | hs
    · exact .inl ⟨_, hs, rfl⟩
    · exact .inr ⟨_, hs, rfl⟩
  refine ⟨_, rfl, _, rfl, _, rfl, _, _, rfl, lv, ?_⟩
  refine ⟨u, c, _, rfl, hu, by omega, by omega, fun r H' h0 h1 g hu' => ?_⟩
  obtain ⟨j, rfl⟩ := Int.eq_ofNat_of_zero_le h0
  have hj : j < xs.length := by omega
  have hs' : SqL K H' it xs ∨ SqT K H' it xs := by
    rcases hs with ((hs | ⟨o, hs⟩) | hs) | ((hs | ⟨o, hs⟩) | hs)
    · exact .inl (.inl (.inl (g.keep hit hs (fun _ z => by cases z))))
    · exact .inl (.inl (.inr ⟨o, g.keep hit hs (fun _ z => by cases z)⟩))
    · exact .inl (.inr hs)
    · exact .inr (.inl (.inl (g.keep hit hs (fun _ z => by cases z))))
    · exact .inr (.inl (.inr ⟨o, g.keep hit hs (fun _ z => by cases z)⟩))
    · exact .inr (.inr hs)
  have e := atI_nat (xs := xs) (List.getElem?_eq_getElem hj)
  rcases hs' with hs' | hs'
  · exact x_l hs' e (k _ _ (List.getElem_mem hj) g hu')
  · exact x_t hs' e (k _ _ (List.getElem_mem hj) g hu')
theorem ok_equal {fd : FuncData} (F : FnP K "_law_equal" s__law_equal fd) (T : TX mg) : FnG P w K mg base CX0 1 (He.fAd K ("_law_equal", none)) fd p__law_equal (spEqual K) := by
  refine okQ F sc__law_equal (fun vs H Q E h => by obtain ⟨x, y, d, e, rfl, _⟩ := h; rfl) (fun A outer s H vs Q E hgu hr h => ?_)
  obtain ⟨x, y, d, e, rfl, hx, hy, ⟨d1, d2, d3, d4⟩, ⟨e1, e2, e3, e4⟩, k⟩ := h
  refine ⟨_, (pss_one (ps_ret (pe_cmpR (u_eq (K := K) rfl hr.units) (pe_callB (call_reprD hgu hr.units) rfl T.b_repr (by decide +kernel) (pa_cons (pv 0) pa_nil)) (pe_callB (call_reprD hgu hr.units) rfl T.b_repr (by decide +kernel) (pa_cons (pv 1) pa_nil)) (nomark _)))), ?_⟩
  exact ⟨_, rfl, _, _, rfl, hx, d1, d2, d3, d4, _, rfl, _, _, rfl, hy, e1, e2, e3, e4, e_flat rfl k⟩
theorem cut18 {xs : List V} {i : Nat} {x : V} (h : (cutV xs (some 18) (some 60))[i]? = some x) : (cutV xs none (some 18)).length = 18 := by
  have q := (List.getElem?_eq_some_iff.mp h).1
  have e1 : HT.sIx xs.length 0 (some 18) = min 18 xs.length := HT.sIx_nat _ _ 18
  have e2 : HT.sIx xs.length xs.length (some 18) = min 18 xs.length := HT.sIx_nat _ _ 18
  have e3 : HT.sIx xs.length xs.length (some 60) = min 60 xs.length := HT.sIx_nat _ _ 60
  unfold cutV at q ⊢
  rw [List.length_take, List.length_drop] at q ⊢
  rw [e1, e3] at q
  rw [e2, HT.sIx_none]
  omega
theorem ixN_nat {n j : Nat} (h : j < n) : ixN n (j : Int) = some j := by
  unfold ixN
  rw [if_pos (by omega), if_pos (by omega), Int.toNat_natCast]
theorem cut_len (xs : List V) (lo hi : Option Int) : (cutV xs lo hi).length ≤ xs.length := cutV_length xs lo hi
theorem cut_int {ns : List Int} {lo hi : Option Int} {i : Nat} {x : V} (h : (cutV (ns.map V.int) lo hi)[i]? = some x) : ∃ z, x = .int z := by
  have hm := List.mem_of_getElem? h
  unfold cutV at hm
  have h1 := List.mem_of_mem_drop (List.mem_of_mem_take hm)
  obtain ⟨z, _, e⟩ := List.mem_map.mp h1
  exact ⟨z, e.symm⟩
theorem ok_urn_of {fd : FuncData} (F : FnP K "_law_urn_of" s__law_urn_of fd) (T : TX mg) : FnOk P w K mg base CX0 1 (He.fAd K ("_law_urn_of", none)) fd p__law_urn_of (spUrnOf K) := by
  refine okP F sc__law_urn_of (fun vs H Q E h => by obtain ⟨a, ns, rfl, _⟩ := h; rfl) (fun A outer s H vs Q E hr h => ?_)
  obtain ⟨a, ns, rfl, hS, hl, k⟩ := h
  refine ⟨_, (pss_cons (ps_setLc (i := 2) (own := [("cell", 1)]) (g := gName 1) (tt := tYes) rfl sc__law_urn_of.nd rfl rfl (sw_true rfl rfl rfl (by decide +kernel)) (k_list (K := K) rfl (pe_slice (u_sl (K := K) rfl) (pv 0) po_none (po_some pe_int))) (blkOk_by (own := [("cell", 1)]) (N := n__law_urn_of) (sc := defScope s__law_urn_of) (by decide +kernel)) (fun _ _ _ _ _ => (pg_name (i := 1) sc__law_urn_of.nd rfl (by first | exact Or.inl rfl | exact Or.inr rfl))) (fun _ _ _ _ _ => pts_nil) (fun _ _ _ _ _ => (pe_callB call_abs rfl T.b_abs (by decide +kernel) (pa_cons (pv 1) pa_nil))))
      (pss_cons (ps_for PassesOwn.never rfl (k_enum (K := K) rfl rfl T.b_enumerate (pa_cons (pe_slice (u_sl (K := K) rfl) (pv 0) (po_some pe_int) (po_some pe_int)) pa_nil)) (kg_tup 2 (K := K) rfl rfl (pgs_cons (pg_name (i := 3) sc__law_urn_of.nd rfl (by first | exact Or.inl rfl | exact Or.inr rfl)) (pgs_cons (pg_name (i := 1) sc__law_urn_of.nd rfl (by first | exact Or.inl rfl | exact Or.inr rfl)) pgs_nil)))
      (pss_one (ps_asg (pe_op (u_add (K := K) rfl) (pe_ix (u_ix (K := K) rfl) (pv 2) (pe_op u_mod (pv 3) pe_int) (fun _ _ => rfl)) (pe_callB call_abs rfl T.b_abs (by decide +kernel) (pa_cons (pv 1) pa_nil))) (pg_sub (pv 2) (pe_op u_mod (pv 3) pe_int) set_list))))
      (pss_one (ps_ret (pe_lst (pa_cons (pv 2) (pa_cons pe_int (pa_cons pe_int (pa_cons pe_int pa_nil))))))))), ?_⟩
  -- cells = [abs(cell) for cell in script[:18]]
  refine ⟨_, rfl, _, rfl, sl_l hS fun p hp => ⟨p, rfl, ⟨_, SqL.of upd_same⟩, fun D hD => ?_⟩⟩
  have g1 : Gr H (upd H p (.lst (cutV (ns.map V.int) none (some 18)))) := Gr.new hp
  have hpD : p ≠ D := ne_of_none (upd_same (H := H)) hD
  refine lc_list (K := K) (a := p) (xs := cutV (ns.map V.int) none (some 18)) (fun i H' => ∃ zs : List Int, zs.length = i ∧ H' = upd (upd H p (.lst (cutV (ns.map V.int) none (some 18)))) D (.lst (zs.map V.int))) ⟨[], rfl, rfl⟩ ?_ ?_ ?_
  · rintro i H' _ ⟨zs, _, rfl⟩
    exact SqL.of (by rw [upd_ne hpD]; exact upd_same)
  · rintro i x H' hx ⟨zs, hz, rfl⟩
    obtain ⟨z, rfl⟩ := cut_int hx
    refine ⟨rfl, ?_⟩
    refine ⟨_, rfl, z, rfl, zs.map V.int, upd_same, ?_, zs ++ [if z < 0 then -z else z], by rw [List.length_append, hz]; rfl, ?_⟩
    · have := (List.getElem?_eq_some_iff.mp hx).1
      have h2 := cut_len (ns.map V.int) none (some 18)
      rw [List.length_map] at h2 ⊢
      rw [sizeLine_eq]
      omega
    · rw [upd_upd, List.map_append]; rfl
  rintro H' ⟨zs, hz, rfl⟩
  have g2 : Gr H (upd (upd H p (.lst (cutV (ns.map V.int) none (some 18)))) D (.lst (zs.map V.int))) := g1.trans (Gr.new hD)
  have hD0 : H D = none := Gr.free g1 hD
  -- the others are folded in
  refine ⟨_, rfl, _, rfl, _, rfl, sl_l (g2.seqL hS) fun p2 hp2 => ⟨_, _, rfl, SqL.of upd_same, ?_⟩⟩
  have n2 : D ≠ p2 := ne_of_none upd_same hp2
  refine for_enum (xs := cutV (ns.map V.int) (some 18) (some 60)) (fun i σ H' => ∃ (ys : List Int) (o1 o3 : Option V), σ = [some (.ref a), o1, some (.ref D), o3] ∧ ys.length = zs.length ∧ Gr H H' ∧ H' D = some (.lst (ys.map V.int)) ∧ H' p2 = some (.lst (cutV (ns.map V.int) (some 18) (some 60))))
    ⟨zs, _, _, rfl, rfl, g2.trans (Gr.new hp2), by rw [upd_ne n2]; exact upd_same, upd_same⟩ ?_ ?_ ?_
  · rintro i σ H' _ ⟨ys, o1, o3, rfl, _, _, _, h⟩
    exact SqL.of h
  · rintro i x T σ H' hx ⟨ys, o1, o3, rfl, hy, g, h1, h2⟩ hT
    obtain ⟨z, rfl⟩ := cut_int hx
    have h18 : zs.length = 18 := hz.trans (cut18 hx)
    have e1 : upd H' T (.tup [.int (i : Nat), .int z]) D = some (.lst (ys.map V.int)) := by rw [upd_ne (ne_of_none h1 hT)]; exact h1
    have e2 : upd H' T (.tup [.int (i : Nat), .int z]) p2 = some (.lst (cutV (ns.map V.int) (some 18) (some 60))) := by rw [upd_ne (ne_of_none h2 hT)]; exact h2
    refine ⟨_, _, rfl, SqT.of upd_same, rfl, _, _, rfl, _, _, rfl, rfl, ?_⟩
    have q0 := Int.fmod_nonneg_of_pos (i : Int) (b := 18) (by decide)
    have q1 := Int.fmod_lt_of_pos (i : Int) (b := 18) (by decide)
    obtain ⟨j, hj⟩ := Int.eq_ofNat_of_zero_le q0
    have hj2 : j < ys.length := by omega
    refine ⟨_, rfl, _, rfl, md_ii (by decide) ?_⟩
    rw [hj]
    refine x_l (SqL.of e1) (atI_nat (v := .int ys[j]) (by rw [List.getElem?_map, List.getElem?_eq_getElem hj2]; rfl)) ⟨_, rfl, z, rfl, a_ii ?_⟩
    refine ⟨_, rfl, _, rfl, md_ii (by decide) ?_⟩
    rw [hj]
    refine ⟨_, _, _, j, rfl, rfl, e1, ?_, ys.set j (ys[j] + (if z < 0 then -z else z)), _, _, rfl, by rw [List.length_set]; exact hy, (g.trans (Gr.new hT)).upd' hD0, ?_, ?_⟩
    · rw [List.length_map]
      exact ixN_nat hj2
    · rw [upd_same, List.map_set]
    · rw [upd_ne (Ne.symm n2)]; exact e2
  · rintro σ H' ⟨ys, o1, o3, rfl, hy, g, h1, h2⟩
    refine ⟨_, rfl, by show 4 ≤ sizeLine; rw [sizeLine_eq]; decide, fun u hu => ?_⟩
    refine k u D _ (g.free hu) hD0 (g.trans (Gr.new hu)) ⟨ys, 0, 0, 0, upd_same, by rw [upd_ne (ne_of_none h1 hu)]; exact h1⟩
end
end Vf
end
section
set_option Elab.async false
set_option linter.all false
set_option maxRecDepth 100000
set_option maxHeartbeats 4000000
namespace Vf
open PySem PySem.Spec PyProof.Rows L2 GxR GenW RZ
abbrev s_is_sign : Stmt := top 19
abbrev n_is_sign : List Str := ["text"]
abbrev p_is_sign : List Str := ["text"]
theorem sc_is_sign : FnScope n_is_sign p_is_sign (defScope s_is_sign) := ⟨rfl, rfl, rfl, by decide +kernel, rfl, by decide +kernel, by decide +kernel⟩

abbrev s_is_form_name : Stmt := top 17
abbrev n_is_form_name : List Str := ["text", "character"]
abbrev p_is_form_name : List Str := ["text"]
theorem sc_is_form_name : FnScope n_is_form_name p_is_form_name (defScope s_is_form_name) := ⟨rfl, rfl, rfl, by decide +kernel, rfl, by decide +kernel, by decide +kernel⟩

abbrev s_are_signs : Stmt := top 18
abbrev n_are_signs : List Str := ["texts", "text", "there"]
abbrev p_are_signs : List Str := ["texts"]
theorem sc_are_signs : FnScope n_are_signs p_are_signs (defScope s_are_signs) := ⟨rfl, rfl, rfl, by decide +kernel, rfl, by decide +kernel, by decide +kernel⟩

abbrev s_are_complete : Stmt := top 20
abbrev n_are_complete : List Str := ["form", "links"]
abbrev p_are_complete : List Str := ["form"]
theorem sc_are_complete : FnScope n_are_complete p_are_complete (defScope s_are_complete) := ⟨rfl, rfl, rfl, by decide +kernel, rfl, by decide +kernel, by decide +kernel⟩

abbrev s_is_form : Stmt := top 16
abbrev n_is_form : List Str := ["thing", "part"]
abbrev p_is_form : List Str := ["thing"]
theorem sc_is_form : FnScope n_is_form p_is_form (defScope s_is_form) := ⟨rfl, rfl, rfl, by decide +kernel, rfl, by decide +kernel, by decide +kernel⟩

abbrev s_carried : Stmt := top 21
abbrev n_carried : List Str := ["form", "signs", "feature", "sign"]
abbrev p_carried : List Str := ["form"]
theorem sc_carried : FnScope n_carried p_carried (defScope s_carried) := ⟨rfl, rfl, rfl, by decide +kernel, rfl, by decide +kernel, by decide +kernel⟩

def strV : List Str → List V := List.map V.str
/-- more of the module's names -/
structure TY (K : PySem.W.Frag) (mg : Str → Option Value) : Prop extends TX mg where
  b_isinstance : mg "isinstance" = none
  b_all : mg "all" = none
  b_any : mg "any" = none
  b_set : mg "set" = none
  b_str : mg "str" = none
  b_tuple : mg "tuple" = none
  b_list : mg "list" = none
  b_zip : mg "zip" = none
  c_FORM_STRINGS : ∃ u, mg "FORM_STRINGS" = some u ∧ RelV (.int 9) u
  c_MOST_NAME_CHARACTERS : ∃ u, mg "MOST_NAME_CHARACTERS" = some u ∧ RelV (.int 8) u
  c_NAME_LETTERS : ∃ u, mg "NAME_LETTERS" = some u ∧ RelV (.str "abcdefghijklmnopqrstuvwxyz") u
  c_WORD_CHARACTERS : ∃ u, mg "WORD_CHARACTERS" = some u ∧ RelV (.str "abcdefghijklmnopqrstuvwxyz0123456789") u
  c_LETTERS_AND_DIGITS : ∃ u, mg "LETTERS_AND_DIGITS" = some u ∧ RelV (.str "0123456789ABCDEFGHIJKLMNOPQRSTUVWXYZabcdefghijklmnopqrstuvwxyz") u
  c_CELL : ∃ u, mg "CELL" = some u ∧ RelV (.int 1) u
  c_LEVEL : ∃ u, mg "LEVEL" = some u ∧ RelV (.int 2) u
  c_BOLD : ∃ u, mg "BOLD" = some u ∧ RelV (.int 3) u
  c_SLANT : ∃ u, mg "SLANT" = some u ∧ RelV (.int 4) u
  c_OPENING : ∃ u, mg "OPENING" = some u ∧ RelV (.int 5) u
  c_MIDDLE : ∃ u, mg "MIDDLE" = some u ∧ RelV (.int 6) u
  c_END : ∃ u, mg "END" = some u ∧ RelV (.int 7) u
  c_ESCAPE : ∃ u, mg "ESCAPE" = some u ∧ RelV (.int 8) u
  c_FEATURES : ∃ a, mg "FEATURES" = some (.ref a) ∧ ∀ H, SqT K H a (strV ["cells", "nest", "link", "bold", "slant"])
  c_PLAIN : ∃ a, mg "PLAIN" = some (.ref a) ∧ ∀ H, SqT K H a (strV ["plain", "", "", "", "", "", "", "", ""])
/-- a def's table of code objects -/
abbrev tb (K : PySem.W.Frag) (x : Str) : Addr := He.tabOf K (He.codeOf K (x, none))
abbrev TBx (K : PySem.W.Frag) (mg : Str → Option Value) (base : Heap) (x : Str) : Prop := TabB base mg (He.codeOf K (x, none)) (tb K x)

/-! ### what they say -/
def letters : List Nat := ("0123456789ABCDEFGHIJKLMNOPQRSTUVWXYZabcdefghijklmnopqrstuvwxyz" : Str).cps.toList
def azs : List Nat := ("abcdefghijklmnopqrstuvwxyz" : Str).cps.toList
def words : List Nat := ("abcdefghijklmnopqrstuvwxyz0123456789" : Str).cps.toList
def sgnC (c : Nat) : Bool := decide (32 < c) && (decide (c ≤ 126) && !decide (c ∈ letters))
def isSg (x : Str) : Bool := match x.cps.toList with
  | [c] => sgnC c
  | _ => false
def isNm (x : Str) : Bool := decide (1 ≤ x.length ∧ x.length ≤ 8) && ((match x.cps.toList with | c :: _ => decide (c ∈ azs) | [] => false) && x.cps.toList.all fun c => decide (c ∈ words))
theorem lt1 (a b : Nat) : decide (([a] : List Nat) < [b]) = decide (a < b) := by
  rw [decide_eq_decide]
  constructor
  · intro h
    cases h with
    | rel h => exact h
    | cons h => cases h
  · exact fun h => List.Lex.rel h
def spIsSign : Sp := fun vs H Q _ => ∃ x : Str, vs = [.str x] ∧ x.length ≤ sizeLine ∧ Q (.bl (isSg x)) H
def spName (K : PySem.W.Frag) : Sp := fun vs H Q _ => ∃ x : Str, vs = [.str x] ∧ x.length ≤ sizeLine ∧ TabG H (tb K "is_form_name") ∧ ∀ H', Gr H H' → Q (.bl (isNm x)) H'
section
variable {P : Program} {w : World} {K : PySem.W.Frag} {mg : Str → Option Value} {base : Heap}
theorem one_sign {x : Str} (h : x.length = 1) : ∃ c, x = ⟨#[c]⟩ := by
  obtain ⟨⟨l⟩⟩ := x
  match l, h with
  | [c], _ => exact ⟨c, rfl⟩
theorem ok_is_sign {fd : FuncData} (F : FnP K "is_sign" s_is_sign fd) (T : TY K mg) : FnOk P w K mg base CX0 1 (He.fAd K ("is_sign", none)) fd p_is_sign spIsSign := by
  refine okP F sc_is_sign (fun vs H Q E h => by obtain ⟨s, rfl, _⟩ := h; rfl) (fun A outer s H vs Q E hr h => ?_)
  obtain ⟨x, rfl, hx, k⟩ := h
  refine ⟨_, (pss_one (ps_ret (pe_and (pe_cmpR (u_eq (K := K) rfl hr.units) (pe_callB (k_len (K := K) rfl) rfl T.b_len (by decide +kernel) (pa_cons (pv 0) pa_nil)) pe_int (nomark _)) (pe_and (pe_chain u_lt u_le pe_str (pv 0) pe_str) (pe_one (pe_cmpR (u_ni (K := K) rfl) (pv 0) (pe_gl T.c_LETTERS_AND_DIGITS rfl) (by first | exact nomark _ | rfl))))))), ?_⟩
  refine ⟨_, rfl, _, _, rfl, ⟨hx, rfl⟩, e_flat rfl ⟨_, rfl, ?_⟩⟩
  by_cases h1 : x.length = 1
  · obtain ⟨c, rfl⟩ := one_sign h1
    rw [if_pos (by rw [h1]; rfl)]
    have e1 : isSg ⟨#[c]⟩ = sgnC c := rfl
    rw [e1] at k
    refine ⟨_, rfl, l_ss ⟨_, rfl, ?_⟩⟩
    have e2 : decide ((" " : Str).cps.toList < (⟨#[c]⟩ : Str).cps.toList) = decide (32 < c) := lt1 32 c
    rw [e2]
    refine ite2 (fun h2 => ?_) (fun h2 => ?_)
    · refine le_ss ⟨_, rfl, ?_⟩
      have e3 : decide (("~" : Str).cps.toList < (⟨#[c]⟩ : Str).cps.toList) = decide (126 < c) := lt1 126 c
      rw [e3]
      refine ite2 (fun h3 => ?_) (fun h3 => ?_)
      · refine ⟨_, rfl, ni_sign ?_⟩
        have e4 : sgnC c = !decide (c ∈ letters) := by
          unfold sgnC
          have a1 : 32 < c := by simpa using h2
          have a2 : c ≤ 126 := by simpa using h3
          simp [a1, a2]
        rw [e4] at k
        exact k
      · have e4 : sgnC c = false := by
          unfold sgnC
          have a2 : ¬ c ≤ 126 := by simpa using h3
          simp [a2]
        rw [e4] at k
        exact k
    · have e4 : sgnC c = false := by
        unfold sgnC
        have a2 : ¬ 32 < c := by simpa using h2
        simp [a2]
      rw [e4] at k
      exact ⟨_, rfl, k⟩
  · rw [if_neg (by simp; omega)]
    have e1 : isSg x = false := by
      unfold isSg
      split
      · rename_i c hc
        exact absurd (by show x.cps.size = 1; rw [← Array.length_toList, hc]; rfl) h1
      · rfl
    rw [e1] at k
    exact k
theorem ok_name {fd : FuncData} (F : FnP K "is_form_name" s_is_form_name fd) (T : TY K mg) (TB : TBx K mg base "is_form_name") : FnOk P w K mg base CX0 2 (He.fAd K ("is_form_name", none)) fd p_is_form_name (spName K) := by
  refine okP F sc_is_form_name (fun vs H Q E h => by obtain ⟨s, rfl, _⟩ := h; rfl) (fun A outer s H vs Q E hr h => ?_)
  obtain ⟨x, rfl, hx, hT, k⟩ := h
  refine ⟨_, (pss_cons (ps_if (PW.pt (pw_or (pt_not (pt_chain u_le u_le pe_int (pe_callB (k_len (K := K) rfl) rfl T.b_len (by decide +kernel) (pa_cons (pv 0) pa_nil)) (pe_gl T.c_MOST_NAME_CHARACTERS rfl))) (pw_or1 (pt_cmpR (u_ni (K := K) rfl) (pe_ix (u_ix (K := K) rfl) (pv 0) pe_int (fun _ _ => rfl)) (pe_gl T.c_NAME_LETTERS rfl) (by first | exact nomark _ | rfl)))))
      (pss_one (ps_ret pe_bl))
      pss_nil)
      (pss_one (ps_ret (pe_allL (own := [1]) (j := 1) hr rfl T.b_all (by decide +kernel) TB rfl (gok_by (N := n_is_form_name) (sc := defScope s_is_form_name) (by decide +kernel)) sc_is_form_name.nd rfl (by simp) (pi_str (pv 0)) (fun _ _ _ _ _ _ hr' => pts_nil) (fun _ _ _ _ _ _ hr' => (pe_cmpR (u_in (K := K) rfl) (pv 1) (pe_gl T.c_WORD_CHARACTERS rfl) (by first | exact nomark _ | rfl))))))), ?_⟩
  have no : isNm x = false → Q (.bl false) H := fun e => e ▸ k H (Gr.refl H)
  have fin : ∀ H', Gr H H' → ∀ b, isNm x = b → Q (.bl b) H' := fun H' g b e => e ▸ k H' g
  refine ⟨_, rfl, _, _, rfl, ⟨hx, rfl⟩, le_ii ⟨_, rfl, ite2 (fun h1 => le_ii ⟨_, rfl, ?_⟩) (fun h1 => ⟨_, rfl, iteT (no ?_)⟩)⟩⟩
  · have h1 : 1 ≤ x.length := by have := of_decide_eq_true h1; omega
    by_cases h2 : x.length ≤ 8
    · have e1 : (decide ((x.length : Int) ≤ 8)) = true := by simp; omega
      rw [e1]
      obtain ⟨c, r, hd⟩ : ∃ c r, x.cps.toList = c :: r := by
        cases e : x.cps.toList with
        | nil =>
          have h0 : x.length = x.cps.toList.length := Array.length_toList.symm
          rw [e] at h0
          simp at h0
          omega
        | cons c r => exact ⟨c, r, rfl⟩
      have e2 : x.cps.toList[0]? = some c := by rw [hd]; rfl
      refine iteF ⟨_, rfl, x_s hx (atI_nat (j := 0) e2) (ni_sign ⟨_, rfl, ?_⟩)⟩
      have eN : isNm x = (decide (c ∈ azs) && x.cps.toList.all fun c => decide (c ∈ words)) := by
        unfold isNm
        rw [decide_eq_true ⟨h1, h2⟩, Bool.true_and, hd]
      refine ite2 (fun h3 => no ?_) (fun h3 => ?_)
      · have h3 : c ∉ azs := fun z => by
          have q : (!decide (c ∈ azs)) = true := h3
          rw [decide_eq_true z] at q
          cases q
        rw [eN, decide_eq_false h3, Bool.false_and]
      · have h3 : c ∈ azs := by
          by_cases z : c ∈ azs
          · exact z
          · exact absurd (show (!decide (c ∈ azs)) = true by rw [decide_eq_false z]; rfl) h3
        rw [decide_eq_true h3, Bool.true_and] at eN
        refine ⟨_, rfl, _, rfl, hT, fun H2 hTb => ?_⟩
        have g := Gr.tabb hTb
        refine turns_S (fun i H' => H' = H2 ∧ ∀ c ∈ x.cps.toList.take i, c ∈ words) ⟨rfl, by simp⟩ ?_ ?_
        · rintro i c H' hc ⟨rfl, ha⟩
          refine ⟨_, rfl, in_sign ⟨_, rfl, ite2 (fun h4 => ⟨rfl, ?_⟩) (fun h4 => ?_)⟩⟩
          · intro d hd
            rw [List.take_succ, hc] at hd
            rcases List.mem_append.mp hd with hd | hd
            · exact ha d hd
            · simp only [Option.toList_some, List.mem_singleton] at hd
              subst hd
              exact of_decide_eq_true h4
          · have h4 : c ∉ words := fun z => h4 (decide_eq_true z)
            have e : isNm x = false := by
              rw [eN, List.all_eq_false]
              exact ⟨c, List.mem_of_getElem? hc, by simp [h4]⟩
            exact fin _ g false e
        · rintro H' ⟨rfl, ha⟩
          rw [List.take_length] at ha
          have e : isNm x = true := by
            rw [eN, List.all_eq_true]
            exact fun c hc => by simp [ha c hc]
          exact fin _ g true e
    · have e1 : (decide ((x.length : Int) ≤ 8)) = false := by simp; omega
      rw [e1]
      refine iteT (no ?_)
      unfold isNm
      rw [decide_eq_false (by omega), Bool.false_and]
  · have h1 : ¬ 1 ≤ x.length := fun z => h1 (decide_eq_true (by omega))
    unfold isNm
    rw [decide_eq_false (by omega), Bool.false_and]
def nEm (t : Str) : Bool := !decide (V.str t = V.str "")
def nonE (ts : List Str) : List Str := ts.filter nEm
theorem nonE_pos {t : Str} (h : nEm t = true) : nonE [t] = [t] := by unfold nonE; rw [List.filter_cons_of_pos h]; rfl
theorem nonE_neg {t : Str} (h : ¬ nEm t = true) : nonE [t] = [] := by unfold nonE; rw [List.filter_cons_of_neg h]; rfl
theorem str_at {ts : List Str} {i : Nat} {x : V} (hx : (strV ts)[i]? = some x) : ∃ t, ts[i]? = some t ∧ x = .str t := by
  unfold strV at hx
  rw [List.getElem?_map] at hx
  cases e : ts[i]? with
  | none => rw [e] at hx; cases hx
  | some t => rw [e] at hx; exact ⟨t, rfl, (Option.some.inj hx).symm⟩
def areSg (ts : List Str) : Bool := (nonE ts).all isSg && decide ((mets (nonE ts)).length = (nonE ts).length)
def spSigns (K : PySem.W.Frag) : Sp := fun vs H Q _ => ∃ (a : Addr) (ts : List Str), vs = [.ref a] ∧ SqT K H a (strV ts) ∧ ts.length ≤ 1000 ∧ (∀ t ∈ ts, t.length ≤ sizeLine) ∧ TabG H (tb K "are_signs") ∧ ∀ H', Gr H H' → Q (.bl (areSg ts)) H'
theorem ok_signs {fd : FuncData} (F : FnP K "are_signs" s_are_signs fd) (T : TY K mg) (TB : TBx K mg base "are_signs") (D_is_sign : Df P w K mg base "is_sign" 1 p_is_sign spIsSign) : FnOk P w K mg base CX0 3 (He.fAd K ("are_signs", none)) fd p_are_signs (spSigns K) := by
  refine okP F sc_are_signs (fun vs H Q E h => by obtain ⟨a, s, rfl, _⟩ := h; rfl) (fun A outer s H vs Q E hr h => ?_)
  obtain ⟨a, ts, rfl, hS, hl, hz, hT, k⟩ := h
  refine ⟨_, (pss_cons (ps_setLc (i := 2) (own := [("text", 1)]) (g := gName 1) rfl sc_are_signs.nd rfl rfl (sw_true rfl rfl rfl (by decide +kernel)) (k_tup (K := K) rfl (pv 0)) (blkOk_by (own := [("text", 1)]) (N := n_are_signs) (sc := defScope s_are_signs) (by decide +kernel)) (fun _ _ _ _ _ => (pg_name (i := 1) sc_are_signs.nd rfl (by first | exact Or.inl rfl | exact Or.inr rfl))) (fun _ _ _ _ _ => (pts_one (pt_cmpR (u_ne (K := K) rfl hr.units) (pv 1) pe_str (nomark _)))) (fun _ _ _ _ _ => (pv 1)))
      (pss_one (ps_ret (pe_and (pe_allL (own := [1]) (j := 1) hr rfl T.b_all (by decide +kernel) TB rfl (gok_by (N := n_are_signs) (sc := defScope s_are_signs) (by decide +kernel)) sc_are_signs.nd rfl (by simp) (k_list (K := K) rfl (pv 2)) (fun _ _ _ _ _ _ hr' => pts_nil) (fun _ _ _ _ _ _ hr' => (pe_fn D_is_sign hr' (by decide) rfl (pa_cons (pv 1) pa_nil)))) (pe_one (pe_cmpR (u_eq (K := K) rfl hr.units) (pe_lenSetS (K := K) rfl rfl T.b_len rfl T.b_set (pv 2)) (pe_callB (k_len (K := K) rfl) rfl T.b_len (by decide +kernel) (pa_cons (pv 2) pa_nil)) (nomark _))))))), ?_⟩
  refine ⟨_, rfl, a, rfl, ⟨_, hS⟩, fun D hD => ?_⟩
  have nE : ∀ i, nonE (ts.take i) = nonE (ts.take i) := fun _ => rfl
  refine lc_tup (K := K) (a := a) (xs := strV ts) (fun i H' => H' = upd H D (.lst (strV (nonE (ts.take i))))) rfl ?_ ?_ ?_
  · rintro i H' _ rfl
    exact (Gr.new hD).seqT hS
  · rintro i x H' hx rfl
    obtain ⟨t, ht, rfl⟩ := str_at hx
    have et : ts.take (i + 1) = ts.take i ++ [t] := by rw [List.take_succ, ht]; rfl
    have en : nonE (ts.take (i + 1)) = nonE (ts.take i) ++ nonE [t] := by rw [et]; unfold nonE; rw [List.filter_append]
    refine ⟨rfl, ?_⟩
    refine ⟨_, rfl, n_flat rfl ⟨_, rfl, ite2 (fun h1 => ?_) (fun h1 => ?_)⟩⟩
    · refine ⟨_, rfl, _, upd_same, ?_, ?_⟩
      · have q : (nonE (ts.take i)).length ≤ (ts.take i).length := List.length_filter_le _ _
        rw [List.length_take] at q
        show (List.map V.str _).length < _
        rw [List.length_map, sizeLine_eq]
        omega
      · rw [upd_upd, en]
        have e1 : nonE [t] = [t] := nonE_pos h1
        rw [e1]
        unfold strV
        rw [List.map_append]; rfl
    · have e1 : nonE [t] = [] := nonE_neg h1
      rw [en, e1, List.append_nil]
  rintro H' rfl
  have el : (strV ts).length = ts.length := by unfold strV; rw [List.length_map]
  rw [el, List.take_length]
  have gD : Gr H (upd H D (.lst (strV (nonE ts)))) := Gr.new hD
  have lN : (nonE ts).length ≤ ts.length := List.length_filter_le _ _
  -- all(is_sign(text) for text in there)
  refine ⟨_, rfl, D, rfl, ⟨_, SqL.of upd_same⟩, gD.tabG hT, fun H2 hTb => ?_⟩
  have g2 := gD.trans (Gr.tabb hTb)
  have hD2 : H2 D = some (.lst (strV (nonE ts))) := (Gr.tabb hTb).keep upd_same (fun _ z => by cases z)
  refine turns_L (xs := strV (nonE ts)) (fun i H' => H' = H2 ∧ ((nonE ts).take i).all isSg = true) ⟨rfl, rfl⟩ ?_ ?_ ?_
  · rintro i H' _ ⟨rfl, _⟩
    exact SqL.of hD2
  · rintro i x H' hx ⟨rfl, ha⟩
    obtain ⟨t, ht, rfl⟩ := str_at hx
    have mt : t ∈ nonE ts := List.mem_of_getElem? ht
    refine ⟨_, rfl, t, rfl, hz t (List.mem_filter.mp mt).1, _, rfl, ?_⟩
    refine ite2 (fun h1 => ⟨rfl, ?_⟩) (fun h1 => ?_)
    · rw [List.take_succ, ht, List.all_append, ha]
      show (true && (isSg t && true)) = true
      rw [h1]; rfl
    · have e : areSg ts = false := by
        unfold areSg
        have e1 : (nonE ts).all isSg = false := List.all_eq_false.mpr ⟨t, mt, h1⟩
        rw [e1, Bool.false_and]
      exact ⟨_, rfl, iteF (e ▸ k _ g2)⟩
  · rintro H' ⟨rfl, ha⟩
    rw [show (strV (nonE ts)).length = (nonE ts).length by unfold strV; rw [List.length_map], List.take_length] at ha
    refine ⟨_, rfl, iteT ⟨_, rfl, D, nonE ts, rfl, SqL.of hD2, by omega, _, rfl, _, _, rfl, .inl ⟨_, SqL.of hD2, rfl⟩, e_flat rfl ?_⟩⟩
    have e : areSg ts = decide ((mets (nonE ts)).length = (nonE ts).length) := by
      unfold areSg
      rw [ha, Bool.true_and]
    have q := k _ g2
    rw [e] at q
    have e2 : decide (V.int (((mets (nonE ts)).length : Nat) : Int) = V.int (((strV (nonE ts)).length : Nat) : Int)) = decide ((mets (nonE ts)).length = (nonE ts).length) := by
      rw [decide_eq_decide, show (strV (nonE ts)).length = (nonE ts).length by unfold strV; rw [List.length_map]]
      constructor
      · intro z
        injection z with z
        omega
      · intro z
        rw [z]
    rw [e2]
    exact q
end
end Vf
end
section
set_option Elab.async false
set_option linter.all false
set_option maxRecDepth 100000
set_option maxHeartbeats 4000000
namespace Vf
open PySem PySem.Spec PyProof.Rows L2 GxR GenW RZ
def compl (c1 c2 c3 c4 c5 c6 c7 c8 : Str) : Bool :=
  if ([nEm c5, nEm c6, nEm c7].any id && !([nEm c5, nEm c6, nEm c7].all id)) = true then false else decide (V.bl (nEm c8) = V.bl (nEm (Txt.join "" [c1, c2, c3, c4, c5, c6, c7])))
def spComplete (K : PySem.W.Frag) : Sp := fun vs H Q _ => ∃ (a : Addr) (n c1 c2 c3 c4 c5 c6 c7 c8 : Str), vs = [.ref a] ∧ SqT K H a (strV [n, c1, c2, c3, c4, c5, c6, c7, c8]) ∧ (∀ t ∈ [c1, c2, c3, c4, c5, c6, c7], t.length ≤ 1000000) ∧ ∀ H', Gr H H' → Q (.bl (compl c1 c2 c3 c4 c5 c6 c7 c8)) H'
def carr (c1 c2 c5 c3 c4 : Str) : List Str := ((["cells", "nest", "link", "bold", "slant"] : List Str).zip [c1, c2, c5, c3, c4]).filterMap fun p => if nEm p.2 = true then some p.1 else none
theorem pick_pos {f c : Str} (h : nEm c = true) : (Option.toList (some (f, c))).filterMap (fun p => if nEm p.2 = true then some p.1 else none) = [f] := by
  show ([(f, c)] : List (Str × Str)).filterMap _ = _
  rw [List.filterMap_cons_some (b := f) (by rw [if_pos h])]; rfl
theorem pick_neg {f c : Str} (h : ¬ nEm c = true) : (Option.toList (some (f, c))).filterMap (fun p => if nEm p.2 = true then some p.1 else none) = ([] : List Str) := by
  show ([(f, c)] : List (Str × Str)).filterMap _ = _
  rw [List.filterMap_cons_none (by rw [if_neg h])]; rfl
def spCarried (K : PySem.W.Frag) : Sp := fun vs H Q _ => ∃ (a : Addr) (n c1 c2 c3 c4 c5 c6 c7 c8 : Str), vs = [.ref a] ∧ SqT K H a (strV [n, c1, c2, c3, c4, c5, c6, c7, c8]) ∧ ∀ t H', Gr H H' → H t = none → SqT K H' t (strV (carr c1 c2 c5 c3 c4)) → Q (.ref t) H'
section
variable {P : Program} {w : World} {K : PySem.W.Frag} {mg : Str → Option Value} {base : Heap}
theorem ok_complete {fd : FuncData} (F : FnP K "are_complete" s_are_complete fd) (T : TY K mg) : FnOk P w K mg base CX0 1 (He.fAd K ("are_complete", none)) fd p_are_complete (spComplete K) := by
  refine okP F sc_are_complete (fun vs H Q E h => by obtain ⟨a, n, c1, c2, c3, c4, c5, c6, c7, c8, rfl, _⟩ := h; rfl) (fun A outer s H vs Q E hr h => ?_)
  obtain ⟨a, n, c1, c2, c3, c4, c5, c6, c7, c8, rfl, hS, hz, k⟩ := h
  refine ⟨_, (pss_cons (ps_set (i := 1) sc_are_complete.nd rfl (by first | exact Or.inl rfl | exact Or.inr rfl) (pe_lst (pa_cons (pe_cmpR (u_ne (K := K) rfl hr.units) (pe_ix (u_ix (K := K) rfl) (pv 0) (pe_gl T.c_OPENING rfl) (fun _ _ => rfl)) pe_str (nomark _)) (pa_cons (pe_cmpR (u_ne (K := K) rfl hr.units) (pe_ix (u_ix (K := K) rfl) (pv 0) (pe_gl T.c_MIDDLE rfl) (fun _ _ => rfl)) pe_str (nomark _)) (pa_cons (pe_cmpR (u_ne (K := K) rfl hr.units) (pe_ix (u_ix (K := K) rfl) (pv 0) (pe_gl T.c_END rfl) (fun _ _ => rfl)) pe_str (nomark _)) pa_nil)))))
      (pss_cons (ps_if (PW.pt (pw_and (pt_val (pe_callB (k_any (K := K) rfl rfl) rfl T.b_any (by decide +kernel) (pa_cons (pv 1) pa_nil))) (pw_and1 (pt_not (pt_val (pe_callB (k_all (K := K) rfl rfl) rfl T.b_all (by decide +kernel) (pa_cons (pv 1) pa_nil)))))))
      (pss_one (ps_ret pe_bl))
      pss_nil)
      (pss_one (ps_ret (pe_cmpR (u_eq (K := K) rfl hr.units) (pe_cmpR (u_ne (K := K) rfl hr.units) (pe_ix (u_ix (K := K) rfl) (pv 0) (pe_gl T.c_ESCAPE rfl) (fun _ _ => rfl)) pe_str (nomark _)) (pe_cmpR (u_ne (K := K) rfl hr.units) (k_join (K := K) rfl pe_str (pe_slice (u_sl (K := K) rfl) (pv 0) (po_some pe_int) (po_some (pe_gl T.c_ESCAPE rfl)))) pe_str (nomark _)) (nomark _)))))), ?_⟩
  refine ⟨_, rfl, x_t hS rfl (n_flat rfl ⟨_, rfl, x_t hS rfl (n_flat rfl ⟨_, rfl, x_t hS rfl (n_flat rfl ⟨by show 3 ≤ sizeLine; rw [sizeLine_eq]; decide, fun l hl => ?_⟩)⟩)⟩)⟩
  have g1 : Gr H (upd H l (.lst [.bl (nEm c5), .bl (nEm c6), .bl (nEm c7)])) := Gr.new hl
  have hL : SqL K (upd H l (.lst [.bl (nEm c5), .bl (nEm c6), .bl (nEm c7)])) l ([nEm c5, nEm c6, nEm c7].map V.bl) := SqL.of upd_same
  refine ⟨_, rfl, l, _, rfl, hL, _, rfl, ?_⟩
  have hSt := g1.seqT hS
  have last : ∀ H2, Gr H H2 → ([nEm c5, nEm c6, nEm c7].any id && !([nEm c5, nEm c6, nEm c7].all id)) = false → SqT K H2 a (strV [n, c1, c2, c3, c4, c5, c6, c7, c8]) →
      tOp (rEqU K) (tOp (rNeU K) (tOp (rIxU K) (tVar 0) (tC (.int 8))) (tC (.str ""))) (tOp (rNeU K) (tM1 (fun x xs H Q => ∃ a p, ∃ ys : List Str, x = .str a ∧ xs = [.ref p] ∧ (SqL K H p (ys.map V.str) ∨ SqT K H p (ys.map V.str)) ∧
        (ys.map (fun x => x.length)).sum + ys.length * a.length ≤ 16777216 ∧ Q (.str (Txt.join a ys)) H) (tC (.str "")) (tSl (rSlU K) (tVar 0) (tPart (tC (.int 1))) (tPart (tC (.int 8))))) (tC (.str ""))) [some (.ref a), some (.ref l)] H2 Q := by
    intro H2 g2 hc hS2
    refine ⟨_, rfl, x_t hS2 rfl (n_flat rfl ⟨⟨"", rfl⟩, _, rfl, _, rfl, _, rfl, sl_t hS2 (fun z => absurd (show (1 : Nat) = 0 from z.1) (by decide)) fun _ p hp => ⟨"", p, [c1, c2, c3, c4, c5, c6, c7], rfl, rfl, .inr (SqT.of upd_same), ?_, n_flat rfl (e_flat rfl ?_)⟩⟩)⟩
    · have h1 := hz c1 (by simp)
      have h2 := hz c2 (by simp)
      have h3 := hz c3 (by simp)
      have h4 := hz c4 (by simp)
      have h5 := hz c5 (by simp)
      have h6 := hz c6 (by simp)
      have h7 := hz c7 (by simp)
      simp only [List.map_cons, List.map_nil, List.sum_cons, List.sum_nil]
      show _ + 7 * 0 ≤ _
      omega
    · have q := k (upd H2 p (.tup (strV [c1, c2, c3, c4, c5, c6, c7]))) (g2.trans (Gr.new hp))
      unfold compl at q
      rw [if_neg (by rw [hc]; exact Bool.false_ne_true)] at q
      exact q
  have stop : ([nEm c5, nEm c6, nEm c7].any id && !([nEm c5, nEm c6, nEm c7].all id)) = true → ∀ H2, Gr H H2 → Q (.bl false) H2 := by
    intro hc H2 g2
    have q := k _ g2
    unfold compl at q
    rw [if_pos hc] at q
    exact q
  refine ite2 (fun h1 => ?_) (fun h1 => ?_)
  · refine ⟨_, rfl, l, _, rfl, hL, _, rfl, ite2 (fun h2 => stop ?_ _ g1) (fun h2 => last _ g1 ?_ hSt)⟩
    · rw [h1, h2]; rfl
    · rw [h1]
      simpa using h2
  · refine iteF (last _ g1 ?_ hSt)
    have h1 : [nEm c5, nEm c6, nEm c7].any id = false := by simpa using h1
    rw [h1]; rfl
theorem ok_carried {fd : FuncData} (F : FnP K "carried" s_carried fd) (T : TY K mg) : FnOk P w K mg base CX0 1 (He.fAd K ("carried", none)) fd p_carried (spCarried K) := by
  refine okP F sc_carried (fun vs H Q E h => by obtain ⟨a, n, c1, c2, c3, c4, c5, c6, c7, c8, rfl, _⟩ := h; rfl) (fun A outer s H vs Q E hr h => ?_)
  obtain ⟨a, n, c1, c2, c3, c4, c5, c6, c7, c8, rfl, hS, k⟩ := h
  obtain ⟨aF, m_FEATURES, sF⟩ := T.c_FEATURES
  refine ⟨_, (pss_cons (ps_set (i := 1) sc_carried.nd rfl (by first | exact Or.inl rfl | exact Or.inr rfl) (pe_tup (pa_cons (pe_ix (u_ix (K := K) rfl) (pv 0) (pe_gl T.c_CELL rfl) (fun _ _ => rfl)) (pa_cons (pe_ix (u_ix (K := K) rfl) (pv 0) (pe_gl T.c_LEVEL rfl) (fun _ _ => rfl)) (pa_cons (pe_ix (u_ix (K := K) rfl) (pv 0) (pe_gl T.c_OPENING rfl) (fun _ _ => rfl)) (pa_cons (pe_ix (u_ix (K := K) rfl) (pv 0) (pe_gl T.c_BOLD rfl) (fun _ _ => rfl)) (pa_cons (pe_ix (u_ix (K := K) rfl) (pv 0) (pe_gl T.c_SLANT rfl) (fun _ _ => rfl)) pa_nil)))))))
      (pss_one (ps_ret (k_tuple (K := K) rfl rfl T.b_tuple (pe_lc (own := [("feature", 2), ("sign", 3)])  rfl sc_carried.nd (k_zip (K := K) rfl rfl T.b_zip (pa_cons (pe_ref rfl m_FEATURES) (pa_cons (pv 1) pa_nil))) (blkOk_by (own := [("feature", 2), ("sign", 3)]) (N := n_carried) (sc := defScope s_carried) (by decide +kernel)) (fun _ _ _ _ _ => (kg_tup 2 (K := K) rfl rfl (pgs_cons (pg_name (i := 2) sc_carried.nd rfl (by first | exact Or.inl rfl | exact Or.inr rfl)) (pgs_cons (pg_name (i := 3) sc_carried.nd rfl (by first | exact Or.inl rfl | exact Or.inr rfl)) pgs_nil)))) (fun _ _ _ _ _ => (pts_one (pt_cmpR (u_ne (K := K) rfl hr.units) (pv 3) pe_str (nomark _)))) (fun _ _ _ _ _ => (pv 2))))))), ?_⟩
  refine ⟨_, rfl, x_t hS rfl ⟨_, rfl, x_t hS rfl ⟨_, rfl, x_t hS rfl ⟨_, rfl, x_t hS rfl ⟨_, rfl, x_t hS rfl ⟨by show 5 ≤ sizeLine; rw [sizeLine_eq]; decide, fun p hp => ?_⟩⟩⟩⟩⟩⟩
  have g1 : Gr H (upd H p (.tup (strV [c1, c2, c5, c3, c4]))) := Gr.new hp
  refine ⟨_, rfl, aF, p, _, _, rfl, .inr ⟨sF _, SqT.of upd_same, fun D hD => ?_⟩⟩
  have nD : p ≠ D := ne_of_none upd_same hD
  have hp2 : ∀ H', Gr (upd H p (.tup (strV [c1, c2, c5, c3, c4]))) H' → SqT K H' p (strV [c1, c2, c5, c3, c4]) := fun H' g => SqT.of (g.keep upd_same (fun _ z => by cases z))
  have hD0 : H D = none := g1.free hD
  refine lc_zT (a := aF) (b := p) (xs := strV ["cells", "nest", "link", "bold", "slant"]) (ys := strV [c1, c2, c5, c3, c4]) rfl
    (fun i H' => Gr (upd H p (.tup (strV [c1, c2, c5, c3, c4]))) H' ∧ H' D = some (.lst (strV ((((["cells", "nest", "link", "bold", "slant"] : List Str).zip [c1, c2, c5, c3, c4]).take i).filterMap fun p => if nEm p.2 = true then some p.1 else none)))) ⟨Gr.new hD, upd_same⟩ ?_ ?_ ?_
  · rintro i H' ⟨g, _⟩
    exact ⟨sF _, hp2 _ g⟩
  · rintro i x y T' H' hx hy ⟨g, hL⟩ hT
    obtain ⟨f, hf, rfl⟩ := str_at hx
    obtain ⟨c, hc, rfl⟩ := str_at hy
    have hz : ((["cells", "nest", "link", "bold", "slant"] : List Str).zip [c1, c2, c5, c3, c4])[i]? = some (f, c) := by
      rw [List.getElem?_zip_eq_some]
      exact ⟨hf, hc⟩
    have hLT : upd H' T' (.tup [.str f, .str c]) D = _ := (upd_ne (ne_of_none hL hT)).trans hL
    have gT : Gr (upd H p (.tup (strV [c1, c2, c5, c3, c4]))) (upd H' T' (.tup [.str f, .str c])) := g.trans (Gr.new hT)
    refine ⟨_, _, rfl, SqT.of upd_same, rfl, _, _, rfl, _, _, rfl, rfl, rfl, ?_⟩
    refine ⟨_, rfl, n_flat rfl ⟨_, rfl, ite2 (fun h1 => ?_) (fun h1 => ?_)⟩⟩
    · refine ⟨_, rfl, _, hLT, ?_, gT.upd' hD, ?_⟩
      · show (List.map V.str _).length < _
        rw [List.length_map, sizeLine_eq]
        refine Nat.lt_of_le_of_lt (List.length_filterMap_le _ _) (Nat.lt_of_le_of_lt (List.length_take_le' _ _) ?_)
        show 5 < 16777216
        decide
      · rw [upd_same, List.take_succ, hz, List.filterMap_append, pick_pos (c := c) h1]
        unfold strV
        rw [List.map_append]; rfl
    · refine ⟨gT, ?_⟩
      rw [hLT, List.take_succ, hz, List.filterMap_append, pick_neg (c := c) h1, List.append_nil]
  · rintro H' ⟨g, hL⟩
    refine ⟨.inl ⟨D, _, rfl, SqL.of hL, fun t ht => k t _ ?_ ?_ (SqT.of upd_same)⟩⟩
    · exact (g1.trans g).trans (Gr.new ht)
    · exact (g1.trans g).free ht
end
def strsOf : List PyData → Option (List Str)
  | [] => some []
  | .str x :: r => (strsOf r).map (x :: ·)
  | _ => none
theorem strsOf_len : ∀ {ds : List PyData} {ts : List Str}, strsOf ds = some ts → ts.length = ds.length
  | [], _, h => by cases h; rfl
  | .str x :: r, ts, h => by
    have h : (strsOf r).map (x :: ·) = some ts := h
    cases q : strsOf r with
    | none => rw [q] at h; cases h
    | some us =>
      rw [q] at h
      cases h
      rw [List.length_cons, List.length_cons, strsOf_len q]
  | .none :: _, _, h => by cases h
  | .bool _ :: _, _, h => by cases h
  | .int _ :: _, _, h => by cases h
  | .list _ :: _, _, h => by cases h
  | .tuple _ :: _, _, h => by cases h
  | .dict _ :: _, _, h => by cases h
theorem strsOf_mem : ∀ {ds : List PyData} {ts : List Str}, strsOf ds = some ts → ∀ t ∈ ts, PyData.str t ∈ ds
  | [], _, h, t, ht => by cases h; cases ht
  | .str x :: r, ts, h, t, ht => by
    have h : (strsOf r).map (x :: ·) = some ts := h
    cases q : strsOf r with
    | none => rw [q] at h; cases h
    | some us =>
      rw [q] at h
      cases h
      rcases List.mem_cons.mp ht with rfl | ht
      · exact List.mem_cons_self
      · exact List.mem_cons_of_mem _ (strsOf_mem q t ht)
  | .none :: _, _, h, _, _ => by cases h
  | .bool _ :: _, _, h, _, _ => by cases h
  | .int _ :: _, _, h, _, _ => by cases h
  | .list _ :: _, _, h, _, _ => by cases h
  | .tuple _ :: _, _, h, _, _ => by cases h
  | .dict _ :: _, _, h, _, _ => by cases h
def fm9 : List Str → Bool
  | [n, c1, c2, c3, c4, c5, c6, c7, c8] => isNm n && (areSg [c1, c2, c3, c4, c5, c6, c7, c8] && compl c1 c2 c3 c4 c5 c6 c7 c8)
  | _ => false
def isFm : PyData → Bool
  | .tuple ds => match strsOf ds with
    | some ts => fm9 ts
    | none => false
  | _ => false
def spIsForm (K : PySem.W.Frag) : Sp := fun vs H Q _ => ∃ (v : V) (d : PyData), vs = [v] ∧ Dd K H v d ∧ (∀ ds, d = .tuple ds → ∀ x, PyData.str x ∈ ds → x.length ≤ 1000000) ∧ TabG H (tb K "is_form") ∧ TabG H (tb K "is_form_name") ∧ TabG H (tb K "are_signs") ∧ ∀ H', Gr H H' → Q (.bl (isFm d)) H'
theorem isStr_iff {d : PyData} : isaD "str" d = true ↔ ∃ x, d = .str x := by
  cases d <;> simp [isaD]
theorem ddA_len {K : PySem.W.Frag} {H : Hp} : ∀ {xs : List V} {ds : List PyData}, DdAll K H xs ds → xs.length = ds.length
  | _, [], h => by cases h; rfl
  | _, d :: ds, h => by
    cases h with
    | cons _ h2 => rw [List.length_cons, List.length_cons, ddA_len h2]
theorem ddA_at {K : PySem.W.Frag} {H : Hp} : ∀ {xs : List V} {ds : List PyData} {i : Nat} {x : V}, DdAll K H xs ds → xs[i]? = some x → ∃ d, ds[i]? = some d ∧ Dd K H x d
  | _, [], i, x, h, e => by cases h; simp at e
  | _, d :: ds, 0, x, h, e => by
    cases h with
    | cons h1 h2 => simp at e; subst e; exact ⟨d, rfl, h1⟩
  | _, d :: ds, i + 1, x, h, e => by
    cases h with
    | cons h1 h2 =>
      obtain ⟨d', e', q⟩ := ddA_at (i := i) h2 (by simpa using e)
      exact ⟨d', by simpa using e', q⟩
theorem strs_all {K : PySem.W.Frag} {H : Hp} : ∀ {xs : List V} {ds : List PyData}, DdAll K H xs ds → (∀ d ∈ ds, isaD "str" d = true) → ∃ ts, xs = strV ts ∧ strsOf ds = some ts
  | _, [], h, _ => by cases h; exact ⟨[], rfl, rfl⟩
  | _, d :: ds, h, k => by
    cases h with
    | cons h1 h2 =>
      obtain ⟨ts, e1, e2⟩ := strs_all h2 fun z hz => k z (List.mem_cons_of_mem _ hz)
      obtain ⟨x, rfl⟩ := isStr_iff.mp (k d List.mem_cons_self)
      cases h1
      refine ⟨x :: ts, by rw [e1]; rfl, ?_⟩
      show (strsOf ds).map (x :: ·) = _
      rw [e2]; rfl
theorem strs_none : ∀ {ds : List PyData}, (∃ d ∈ ds, isaD "str" d = false) → strsOf ds = none
  | [], ⟨d, h, _⟩ => by simp at h
  | d :: ds, ⟨z, hz, e⟩ => by
    rcases List.mem_cons.mp hz with rfl | hz
    · cases z <;> first | rfl | simp [isaD] at e
    · have ih := strs_none ⟨z, hz, e⟩
      cases d <;> first | rfl | (show (strsOf ds).map _ = none; rw [ih]; rfl)
section
variable {P : Program} {w : World} {K : PySem.W.Frag} {mg : Str → Option Value} {base : Heap}
theorem ok_is_form {fd : FuncData} (F : FnP K "is_form" s_is_form fd) (T : TY K mg) (TB : TBx K mg base "is_form") (D_is_form_name : Df P w K mg base "is_form_name" 2 p_is_form_name (spName K))
    (D_are_signs : Df P w K mg base "are_signs" 3 p_are_signs (spSigns K)) (D_are_complete : Df P w K mg base "are_complete" 1 p_are_complete (spComplete K)) : FnOk P w K mg base CX0 4 (He.fAd K ("is_form", none)) fd p_is_form (spIsForm K) := by
  refine okP F sc_is_form (fun vs H Q E h => by obtain ⟨a, s, rfl, _⟩ := h; rfl) (fun A outer s H vs Q E hr h => ?_)
  obtain ⟨v, d, rfl, hd, hz, t1, t2, t3, k⟩ := h
  refine ⟨_, (pss_cons (ps_if (PW.pt (pw_or (pt_not (pt_val (pe_callB (call_isD (K := K) rfl) rfl T.b_isinstance (by decide +kernel) (pa_cons (pv 0) (pa_cons (pe_ty (T := "tuple") rfl T.b_tuple (by decide +kernel)) pa_nil))))) (pw_or1 (pt_cmpR (u_ne (K := K) rfl hr.units) (pe_callB (k_len (K := K) rfl) rfl T.b_len (by decide +kernel) (pa_cons (pv 0) pa_nil)) (pe_gl T.c_FORM_STRINGS rfl) (nomark _)))))
      (pss_one (ps_ret pe_bl))
      pss_nil)
      (pss_cons (ps_if (pt_not (pt_val (pe_allL (own := [1]) (j := 1) hr rfl T.b_all (by decide +kernel) TB rfl (gok_by (N := n_is_form) (sc := defScope s_is_form) (by decide +kernel)) sc_is_form.nd rfl (by simp) (k_tup (K := K) rfl (pv 0)) (fun _ _ _ _ _ _ hr' => pts_nil) (fun _ _ _ _ _ _ hr' => (pe_callB (call_isD (K := K) rfl) rfl T.b_isinstance (by decide +kernel) (pa_cons (pv 1) (pa_cons (pe_ty (T := "str") rfl T.b_str (by decide +kernel)) pa_nil)))))))
      (pss_one (ps_ret pe_bl))
      pss_nil)
      (pss_one (ps_ret (pe_and (pe_fn D_is_form_name hr (by decide) rfl (pa_cons (pe_ix (u_ix (K := K) rfl) (pv 0) pe_int (fun _ _ => rfl)) pa_nil)) (pe_and (pe_fn D_are_signs hr (by decide) rfl (pa_cons (pe_slice (u_sl (K := K) rfl) (pv 0) (po_some pe_int) po_none) pa_nil)) (pe_one (pe_fn D_are_complete hr (by decide) rfl (pa_cons (pv 0) pa_nil))))))))), ?_⟩
  refine ⟨_, rfl, v, d, "tuple", rfl, hd, .inl rfl, _, rfl, ite2 (fun h1 => ?_) (fun h1 => ?_)⟩
  · have e : isFm d = false := by
      cases d <;> first | rfl | simp [isaD] at h1
    exact e ▸ k _ (Gr.refl H)
  have ht : ∃ ds, d = .tuple ds := by
    cases d <;> first | exact ⟨_, rfl⟩ | simp [isaD] at h1
  obtain ⟨ds, rfl⟩ := ht
  cases hd with
  | tup hS hA =>
  rename_i a xs
  have el := ddA_len hA
  have hz := hz ds rfl
  refine ⟨_, rfl, _, _, rfl, .inr ⟨_, hS, rfl⟩, n_flat rfl ⟨_, rfl, ite2 (fun h2 => ?_) (fun h2 => ?_)⟩⟩
  · have h2 : ¬ ds.length = 9 := by
      rw [dvi, el, not_true_iff, decide_eq_false_iff_not] at h2
      omega
    have e : isFm (.tuple ds) = false := by
      show (match strsOf ds with | some ts => fm9 ts | none => false) = false
      cases q : strsOf ds with
      | none => rfl
      | some ts =>
        have hl := strsOf_len q
        show fm9 ts = false
        unfold fm9
        split
        · simp at hl; omega
        · rfl
    exact e ▸ k _ (Gr.refl H)
  have h9 : ds.length = 9 := by
    rw [dvi, el, not_true_iff, decide_eq_false_iff_not] at h2
    omega
  refine ⟨_, rfl, a, rfl, ⟨_, hS⟩, t1, fun H2 hTb => ?_⟩
  have g2 := Gr.tabb hTb
  refine turns_T (xs := xs) (fun i H' => H' = H2 ∧ ∀ d ∈ ds.take i, isaD "str" d = true) ⟨rfl, by simp⟩ ?_ ?_ ?_
  · rintro i H' _ ⟨rfl, _⟩
    exact g2.seqT hS
  · rintro i x H' hx ⟨rfl, ha⟩
    obtain ⟨d, hd, hdd⟩ := ddA_at (g2.ddA _ _ hA) hx
    refine ⟨_, rfl, x, d, "str", rfl, hdd, .inr (.inl rfl), _, rfl, ite2 (fun h3 => ⟨rfl, ?_⟩) (fun h3 => ?_)⟩
    · intro z hz
      rw [List.take_succ, hd] at hz
      rcases List.mem_append.mp hz with hz | hz
      · exact ha z hz
      · simp only [Option.toList_some, List.mem_singleton] at hz
        subst hz
        exact h3
    · have e : isFm (.tuple ds) = false := by
        show (match strsOf ds with | some ts => fm9 ts | none => false) = false
        rw [strs_none ⟨d, List.mem_of_getElem? hd, by simpa using h3⟩]
      exact ⟨_, rfl, iteT (e ▸ k _ g2)⟩
  · rintro H' ⟨rfl, ha⟩
    rw [el, List.take_length] at ha
    obtain ⟨ts, rfl, e2⟩ := strs_all hA ha
    refine ⟨_, rfl, iteF ?_⟩
    have l9 : ts.length = 9 := (strsOf_len e2).trans h9
    have zT : ∀ t ∈ ts, t.length ≤ 1000000 := fun t ht => hz t (strsOf_mem e2 t ht)
    obtain ⟨n, c1, c2, c3, c4, c5, c6, c7, c8, rfl⟩ : ∃ n c1 c2 c3 c4 c5 c6 c7 c8, ts = [n, c1, c2, c3, c4, c5, c6, c7, c8] := by
      match ts, l9 with
      | [n, c1, c2, c3, c4, c5, c6, c7, c8], _ => exact ⟨_, _, _, _, _, _, _, _, _, rfl⟩
    have eF : isFm (.tuple ds) = (isNm n && (areSg [c1, c2, c3, c4, c5, c6, c7, c8] && compl c1 c2 c3 c4 c5 c6 c7 c8)) := by
      show (match strsOf ds with | some ts => fm9 ts | none => false) = _
      rw [e2]; rfl
    rw [eF] at k
    have big : ∀ t : Str, t.length ≤ 1000000 → t.length ≤ sizeLine := fun t h => by rw [sizeLine_eq]; omega
    have hS2 := g2.seqT hS
    refine ⟨_, rfl, x_t hS2 rfl ⟨n, rfl, big n (zT n (by simp)), g2.tabG t2, fun H3 g3 => ⟨_, rfl, ?_⟩⟩⟩
    refine ite2 (fun b1 => ?_) (fun b1 => ?_)
    · rw [b1, Bool.true_and] at k
      have hS3 := g3.seqT hS2
      refine ⟨_, rfl, _, rfl, sl_t hS3 (fun z => absurd (show (1 : Nat) = 0 from z.1) (by decide)) fun _ p hp => ?_⟩
      have g4 : Gr H3 (upd H3 p (.tup (strV [c1, c2, c3, c4, c5, c6, c7, c8]))) := Gr.new hp
      refine ⟨p, [c1, c2, c3, c4, c5, c6, c7, c8], rfl, SqT.of upd_same, by show 8 ≤ 1000; decide, fun t ht => big t (zT t (List.mem_cons_of_mem _ ht)), ((g2.trans g3).trans g4).tabG t3, fun H5 g5 => ⟨_, rfl, ?_⟩⟩
      refine ite2 (fun b2 => ?_) (fun b2 => ?_)
      · rw [b2, Bool.true_and] at k
        have hS5 := g5.seqT (g4.seqT hS3)
        refine ⟨_, rfl, a, n, c1, c2, c3, c4, c5, c6, c7, c8, rfl, hS5, fun t ht => zT t (List.mem_cons_of_mem _ (List.mem_append_left [c8] ht)), fun H6 g6 => k _ ?_⟩
        exact (((g2.trans g3).trans g4).trans g5).trans g6
      · have b2 : areSg [c1, c2, c3, c4, c5, c6, c7, c8] = false := by simpa using b2
        rw [b2, Bool.false_and] at k
        exact k _ (((g2.trans g3).trans g4).trans g5)
    · have b1 : isNm n = false := by simpa using b1
      rw [b1, Bool.false_and] at k
      exact k _ (g2.trans g3)
end
end Vf
end
section
set_option Elab.async false
set_option linter.all false
set_option maxRecDepth 100000
set_option maxHeartbeats 4000000
namespace Vf
open PySem PySem.Spec PyProof.Rows L2 GxR GenW RZ
theorem k_bm {X : Cx} {K : PySem.W.Frag} {T name id : String} {r : V → List V → Hp → VK → Prop} {o e : Expr} {es : List Expr} {to : TE} {t : TA} {apos cpos : Pos} (hK : X.K = K) (pa : PlainAttrs T) (slot : Slot T name id) (hty : typeOf (.builtin id) = pure (.type "method_descriptor")) (hm : MtR X id r) (ho : PE X o to) (ha : PA X (e :: es) t)
    (hbase : attributeBase o name X.env (eval o X.env) = eval o X.env := by rfl)
    (hfew : ((backTo cpos (starEach (e :: es) X.env)).all (fun x => !x.1) && (backToKw cpos (keywordEach [] X.env)).all (fun x => x.1.isSome)
      && decide ((e :: es).length + ([] : List Keyword).length + (if ([] : List Keyword).isEmpty then 0 else 1) < 30)) = true := by rfl)
    (hline : (apos.endLine == cpos.line) = true := by rfl) (hs : starEach (e :: es) X.env = (false, eval e X.env) :: starEach es X.env := by rfl) (hplain : (backTo cpos (starEach es X.env)).any (·.1) = false := by rfl) :
    PE X (.Call (.Attribute o name apos) (e :: es) [] cpos) (tBM K T r to t) := by
  subst hK
  exact pe_bm pa slot hty hm ho ha hbase hfew hline hs hplain
@[elab_as_elim] theorem newH {C : Hp → Prop} {H : Hp} {p : Addr} {o : HO} (h : H p = none) (k : ∀ H1, Gr H H1 → H1 p = some o → C H1) : C (upd H p o) := k _ (Gr.new h) upd_same
theorem Gr.lst {H H' : Hp} (g : Gr H H') {p : Addr} {xs : List V} (h : H p = some (.lst xs)) : H' p = some (.lst xs) := g.keep h (fun _ z => by cases z)
theorem Gr.tup {H H' : Hp} (g : Gr H H') {p : Addr} {xs : List V} (h : H p = some (.tup xs)) : H' p = some (.tup xs) := g.keep h (fun _ z => by cases z)
theorem m_ll {K : PySem.W.Frag} {H : Hp} {Q : VK} {l : Addr} {k : Int} {xs : List V} (h1 : H l = some (.lst xs)) (h2 : -(2 ^ 63) ≤ k) (h3 : k < 2 ^ 63) (h4 : xs.length * k.toNat ≤ sizeLine) (q : ∀ p, H p = none → Q (.ref p) (upd H p (.lst (List.replicate k.toNat xs).flatten))) : rMu K (.ref l) (.int k) H Q := ⟨.inr (.inr (.inl ⟨_, _, _, rfl, rfl, h1, h2, h3, h4, q⟩))⟩
theorem dp_strs {K : PySem.W.Frag} {H : Hp} : ∀ ts : List Str, DpAll K H (strV ts) (ts.map PyData.str)
  | [] => .nil
  | z :: zs => .cons (.str z) (dp_strs zs)
theorem lay_strs : ∀ ts : List Str, (∀ t ∈ ts, PyData.canLay0 (.str t) = true) → PyData.canLayAll0 (ts.map PyData.str) = true
  | [], _ => rfl
  | z :: zs, h => by
    show (PyData.canLay0 (.str z) && PyData.canLayAll0 (zs.map PyData.str)) = true
    rw [lay_strs zs fun t ht => h t (List.mem_cons_of_mem _ ht), h z List.mem_cons_self]; rfl
theorem dep_strs : ∀ ts : List Str, PyData.depthAll (ts.map PyData.str) ≤ 1
  | [] => Nat.zero_le _
  | z :: zs => by
    have := dep_strs zs
    simp only [List.map_cons, PyData.depthAll, PyData.depth]
    omega
theorem shp_strsT {ts : List Str} (h : ∀ t ∈ ts, PyData.canLay0 (.str t) = true) : SeqAt.shaped (.tuple (ts.map PyData.str)) = true := by
  unfold SeqAt.shaped
  have h1 : PyData.canLay0 (.tuple (ts.map PyData.str)) = true := lay_strs ts h
  have h2 := dep_strs ts
  have h3 : PyData.depth (.tuple (ts.map PyData.str)) ≤ 64 := by simp only [PyData.depth]; omega
  rw [h1, decide_eq_true h3]; rfl
theorem k_truth {X : Cx} {K : PySem.W.Frag} {a : Expr} {ta : TE} (hK : X.K = K) (ha : PE X a ta) (he : ∀ whole, isTrue a X.env whole = (do let v ← whole; standAt a.pos; holding [v] (truthy v))) :
    PT X a (fun σ H Q => ta σ H fun x H' => ∃ k, TruV K x H' k ∧ Q k H') := by
  subst hK
  exact pt_truth ha he
abbrev s__law_all_signs : Stmt := top 38
abbrev n__law_all_signs : List Str := []
abbrev p__law_all_signs : List Str := []
theorem sc__law_all_signs : FnScope n__law_all_signs p__law_all_signs (defScope s__law_all_signs) := ⟨rfl, rfl, rfl, by decide +kernel, rfl, by decide +kernel, by decide +kernel⟩

abbrev s__law_some_set : Stmt := top 37
abbrev n__law_some_set : List Str := ["urn", "feature"]
abbrev p__law_some_set : List Str := ["urn"]
theorem sc__law_some_set : FnScope n__law_some_set p__law_some_set (defScope s__law_some_set) := ⟨rfl, rfl, rfl, by decide +kernel, rfl, by decide +kernel, by decide +kernel⟩

abbrev s__law_some_form : Stmt := top 39
abbrev n__law_some_form : List Str := ["urn", "name", "features", "signs", "turn", "picked", "there", "sign", "is_there"]
abbrev p__law_some_form : List Str := ["urn", "name", "features"]
theorem sc__law_some_form : FnScope n__law_some_form p__law_some_form (defScope s__law_some_form) := ⟨rfl, rfl, rfl, by decide +kernel, rfl, by decide +kernel, by decide +kernel⟩

abbrev s__law_is_sign : Stmt := top 40
abbrev n__law_is_sign : List Str := ["thing"]
abbrev p__law_is_sign : List Str := ["thing"]
theorem sc__law_is_sign : FnScope n__law_is_sign p__law_is_sign (defScope s__law_is_sign) := ⟨rfl, rfl, rfl, by decide +kernel, rfl, by decide +kernel, by decide +kernel⟩

abbrev s__law_due : Stmt := top 41
abbrev n__law_due : List Str := ["thing", "small", "sign", "there", "links", "others"]
abbrev p__law_due : List Str := ["thing"]
theorem sc__law_due : FnScope n__law_due p__law_due (defScope s__law_due) := ⟨rfl, rfl, rfl, by decide +kernel, rfl, by decide +kernel, by decide +kernel⟩

theorem Urn.ne {c u : Addr} {H : Hp} (h : Urn c H u) : c ≠ u := by
  obtain ⟨ns, p, a, r, h1, h2⟩ := h
  exact urn_ne h1 h2
theorem Urn.gr {c u : Addr} {H H' : Hp} (h : Urn c H u) (g : Gr H H') : Urn c H' u := by
  obtain ⟨ns, p, a, r, h1, h2⟩ := h
  exact ⟨ns, p, a, r, g.keep h1 (fun _ z => by cases z), g.keep h2 (fun _ z => by cases z)⟩
theorem Urn.updD {c u D : Addr} {H : Hp} {o : HO} (h : Urn c H u) (n1 : D ≠ u) (n2 : D ≠ c) : Urn c (upd H D o) u := by
  obtain ⟨ns, p, a, r, h1, h2⟩ := h
  exact ⟨ns, p, a, r, by rw [upd_ne (Ne.symm n1)]; exact h1, by rw [upd_ne (Ne.symm n2)]; exact h2⟩
theorem Urn.ou {c u D : Addr} {H : Hp} (h : Urn c H u) (n : H D = none) : D ≠ u := by
  obtain ⟨ns, p, a, r, h1, h2⟩ := h
  exact Ne.symm (ne_of_none h1 n)
theorem Urn.oc {c u D : Addr} {H : Hp} (h : Urn c H u) (n : H D = none) : D ≠ c := by
  obtain ⟨ns, p, a, r, h1, h2⟩ := h
  exact Ne.symm (ne_of_none h2 n)
theorem gruD {u D : Addr} {H H' : Hp} {o : HO} (g : GrU u H H') (h : H D = none) : GrU u H (upd H' D o) := fun b w hb e => by
  rw [upd_ne (ne_of_none e h)]
  exact g b w hb e
theorem GrU.free {u b : Addr} {H H' : Hp} (g : GrU u H H') (hb : b ≠ u) (h : H' b = none) : H b = none := by
  cases q : H b with
  | none => rfl
  | some o =>
    rcases g b o hb q with h1 | ⟨_, _, _, h1, _⟩
    · rw [h] at h1; cases h1
    · rw [h] at h1; cases h1
theorem GrU.seqT {K : PySem.W.Frag} {u c a : Addr} {H H' : Hp} {xs : List V} (g : GrU u H H') (hu : Urn c H u) (h : SqT K H a xs) : SqT K H' a xs := by
  rcases h with (h | ⟨o, h⟩) | h
  · exact .inl (.inl (g.notu hu h (fun _ z => by cases z) (fun _ z => by cases z)))
  · exact .inl (.inr ⟨o, g.notu hu h (fun _ z => by cases z) (fun _ z => by cases z)⟩)
  · exact .inr h
def sS (x : Str) : List Str := x.cps.toList.map fun c => ⟨#[c]⟩
theorem sgn_strV (x : Str) : sgn x = strV (sS x) := by unfold strV sS; rw [List.map_map]; rfl
def allS : List Str := sS "!#$&'()*+,-./:;<=>?\x40[]^_{|}~" ++ (["\"", "\\", "`"] : List Str)
def spAll : Sp := fun vs H Q _ => vs = [] ∧ ∀ l H', Gr H H' → H l = none → H' l = some (.lst (strV allS)) → Q (.ref l) H'
def F5 : List Str := ["cells", "nest", "link", "bold", "slant"]
def pickF (bs : List Bool) : List Str := (F5.zip bs).filterMap fun p => if p.2 = true then some p.1 else none
def spSomeSet (K : PySem.W.Frag) : Sp := fun vs H Q _ => ∃ (u c : Addr), vs = [.ref u] ∧ Urn c H u ∧ ∀ t bs H', bs.length = 5 → GrU u H H' → Urn c H' u → H t = none → t ≠ u → H' t = some (.tup (strV (pickF bs))) → Q (.ref t) H'
theorem pickF_snoc {bs : List Bool} {b : Bool} {f : Str} (h : F5[bs.length]? = some f) : pickF (bs ++ [b]) = pickF bs ++ (if b = true then [f] else []) := by
  have hl := (List.getElem?_eq_some_iff.mp h).1
  have e : F5 = F5.take bs.length ++ f :: F5.drop (bs.length + 1) := by
    have h2 := (List.getElem?_eq_some_iff.mp h).2
    rw [← h2, List.getElem_cons_drop, List.take_append_drop]
  have hlt : (F5.take bs.length).length = bs.length := by rw [List.length_take]; omega
  have z1 : F5.zip (bs ++ [b]) = (F5.take bs.length).zip bs ++ [(f, b)] := by
    conv => lhs; rw [e]
    rw [List.zip_append hlt, List.zip_cons_cons, List.zip_nil_right]
  have z2 : F5.zip bs = (F5.take bs.length).zip bs := by
    conv => lhs; rw [e, ← List.append_nil bs]
    rw [List.zip_append (by rw [List.append_nil]; exact hlt), List.append_nil]
    exact List.append_nil _
  unfold pickF
  rw [z1, z2, List.filterMap_append]
  congr 1
  cases b <;> rfl
theorem pickF_len (bs : List Bool) : (pickF bs).length ≤ 5 := by
  unfold pickF
  refine Nat.le_trans (List.length_filterMap_le _ _) ?_
  rw [List.length_zip]
  exact Nat.min_le_left _ _
def thereL (fs : List Str) : List Bool :=
  [inV (.str "cells") (strV fs), inV (.str "nest") (strV fs), inV (.str "bold") (strV fs), inV (.str "slant") (strV fs)] ++ List.replicate 3 (inV (.str "link") (strV fs)) ++ [!PyData.eqv (.tuple (fs.map PyData.str)) (.tuple [])]
def mkS (p : Str × Bool) : Str := if p.2 = true then p.1 else ""
def mask (fs : List Str) (ps : List Str) : List Str := (ps.zip (thereL fs)).map mkS
def spSomeForm (K : PySem.W.Frag) : Sp := fun vs H Q _ => ∃ (u c a : Addr) (n : Str) (fs : List Str), vs = [.ref u, .str n, .ref a] ∧ Urn c H u ∧ SqT K H a (strV fs) ∧ (∀ t ∈ fs, PyData.canLay0 (.str t) = true) ∧
  ∀ t ps rs H', ps.length = 8 → (ps ++ rs).Perm allS → GrU u H H' → Urn c H' u → H t = none → t ≠ u → H' t = some (.tup (strV (n :: mask fs ps))) → Q (.ref t) H'
theorem pop_perm {ps rs : List Str} {k : Nat} {y : Str} (h : rs[k]? = some y) : (ps ++ [y] ++ rs.eraseIdx k).Perm (ps ++ rs) := by
  rw [List.append_assoc]
  refine List.Perm.append_left ps ?_
  have hk := (List.getElem?_eq_some_iff.mp h).1
  have hy := (List.getElem?_eq_some_iff.mp h).2
  rw [List.eraseIdx_eq_take_drop_succ]
  refine List.Perm.trans (List.perm_middle (l₁ := rs.take k) (l₂ := rs.drop (k + 1)) (a := y)).symm ?_
  rw [← hy, List.getElem_cons_drop, List.take_append_drop]
section
variable {P : Program} {w : World} {K : PySem.W.Frag} {mg : Str → Option Value} {base : Heap}
theorem ok_all_signs {fd : FuncData} (F : FnP K "_law_all_signs" s__law_all_signs fd) (T : TY K mg) : FnOk P w K mg base CX0 1 (He.fAd K ("_law_all_signs", none)) fd p__law_all_signs spAll := by
  refine okP F sc__law_all_signs (fun vs H Q E h => by obtain ⟨rfl, _⟩ := h; rfl) (fun A outer s H vs Q E hr h => ?_)
  obtain ⟨rfl, k⟩ := h
  refine ⟨_, (pss_one (ps_ret (pe_op (u_add (K := K) rfl) (pe_callTy (call_listU (K := K) rfl rfl) rfl T.b_list (by decide +kernel) (pa_cons pe_str pa_nil)) (pe_lst (pa_cons pe_str (pa_cons pe_str (pa_cons pe_str pa_nil))))))), ?_⟩
  refine lsU_s (by rw [sizeLine_eq]; decide) fun l hl => ⟨by rw [sizeLine_eq]; decide, fun b hb => ?_⟩
  have h1 : upd (upd H l (.lst (sgn "!#$&'()*+,-./:;<=>?\x40[]^_{|}~"))) b (.lst [.str "\"", .str "\\", .str "`"]) l = some (.lst (sgn "!#$&'()*+,-./:;<=>?\x40[]^_{|}~")) := by
    rw [upd_ne (ne_of_none upd_same hb)]
    exact upd_same
  refine a_ll h1 upd_same (by rw [sizeLine_eq]; decide) fun p hp => ?_
  have g : Gr H (upd (upd H l (.lst (sgn "!#$&'()*+,-./:;<=>?\x40[]^_{|}~"))) b (.lst [.str "\"", .str "\\", .str "`"])) := (Gr.new hl).trans (Gr.new hb)
  refine k p _ (g.trans (Gr.new hp)) (g.free hp) (upd_same.trans ?_)
  rw [sgn_strV]
  unfold allS strV
  rw [List.map_append]; rfl
theorem ok_some_set {fd : FuncData} (F : FnP K "_law_some_set" s__law_some_set fd) (T : TY K mg) (D__law_upto : Df P w K mg base "_law_upto" 2 p__law_upto spUpto) : FnOk P w K mg base CX0 3 (He.fAd K ("_law_some_set", none)) fd p__law_some_set (spSomeSet K) := by
  refine okP F sc__law_some_set (fun vs H Q E h => by obtain ⟨u, c, rfl, _⟩ := h; rfl) (fun A outer s H vs Q E hr h => ?_)
  obtain ⟨u, c, rfl, hu, k⟩ := h
  refine ⟨_, (pss_one (ps_ret (k_tuple (K := K) rfl rfl T.b_tuple (pe_lc (own := [("feature", 1)]) (g := gName 1) rfl sc__law_some_set.nd (k_tup (K := K) rfl (pe_tup (pa_cons pe_str (pa_cons pe_str (pa_cons pe_str (pa_cons pe_str (pa_cons pe_str pa_nil))))))) (blkOk_by (own := [("feature", 1)]) (N := n__law_some_set) (sc := defScope s__law_some_set) (by decide +kernel)) (fun _ _ _ _ _ => (pg_name (i := 1) sc__law_some_set.nd rfl (by first | exact Or.inl rfl | exact Or.inr rfl))) (fun _ _ _ _ _ => (pts_one (pt_cmpR (u_eq (K := K) rfl hr.units) (pe_fn D__law_upto hr (by decide) rfl (pa_cons (pv 0) (pa_cons pe_int pa_nil))) pe_int (nomark _)))) (fun _ _ _ _ _ => (pv 1)))))), ?_⟩
  refine ⟨by show 5 ≤ sizeLine; rw [sizeLine_eq]; decide, fun p hp => ⟨p, rfl, ⟨_, SqT.of upd_same⟩, fun D hD => ?_⟩⟩
  have g1 : Gr H (upd H p (.tup (strV F5))) := Gr.new hp
  have hu1 : Urn c (upd H p (.tup (strV F5))) u := hu.gr g1
  have oD := hu1.ou hD
  have cD := hu1.oc hD
  have hD0 := g1.free hD
  refine lc_tup (K := K) (a := p) (xs := strV F5) (fun i H' => GrU u (upd H p (.tup (strV F5))) H' ∧ Urn c H' u ∧ ∃ bs, bs.length = i ∧ H' D = some (.lst (strV (pickF bs)))) ⟨(Gr.new hD).u, hu1.gr (Gr.new hD), [], rfl, upd_same⟩ ?_ ?_ ?_
  · rintro i H' _ ⟨g, _, _⟩
    exact g.seqT hu1 (SqT.of upd_same)
  · rintro i x H' hx ⟨g, hu', bs, hb, hL⟩
    obtain ⟨f, hf, rfl⟩ := str_at hx
    refine ⟨rfl, ?_⟩
    refine ⟨_, rfl, u, c, 2, rfl, hu', by decide, by decide, fun r H2 _ _ g2 hu2 => e_flat rfl ⟨_, rfl, ?_⟩⟩
    have hL2 := g2.keep oD hL (fun _ z => by cases z)
    have gg := g.trans g2
    refine ite2 (fun h1 => ?_) (fun h1 => ?_)
    · refine ⟨_, rfl, _, hL2, ?_, gruD gg hD, hu2.updD oD cD, bs ++ [true], by rw [List.length_append, hb]; rfl, ?_⟩
      · show (List.map V.str _).length < _
        rw [List.length_map, sizeLine_eq]
        exact Nat.lt_of_le_of_lt (pickF_len bs) (by decide)
      · rw [upd_same, pickF_snoc (f := f) (by rw [hb]; exact hf), if_pos rfl]
        unfold strV
        rw [List.map_append]; rfl
    · refine ⟨gg, hu2, bs ++ [false], by rw [List.length_append, hb]; rfl, ?_⟩
      rw [hL2, pickF_snoc (f := f) (by rw [hb]; exact hf), if_neg (by decide), List.append_nil]
  · rintro H' ⟨g, hu', bs, hb, hL⟩
    refine ⟨.inl ⟨D, _, rfl, SqL.of hL, fun t ht => k t bs _ hb ?_ (hu'.gr (Gr.new ht)) ?_ ?_ upd_same⟩⟩
    · exact (g1.u.trans g).trans (Gr.new ht).u
    · exact g1.free (g.free (hu'.ou ht) ht)
    · exact hu'.ou ht
theorem ok_some_form {fd : FuncData} (F : FnP K "_law_some_form" s__law_some_form fd) (T : TY K mg) (D__law_upto : Df P w K mg base "_law_upto" 2 p__law_upto spUpto) (D__law_all_signs : Df P w K mg base "_law_all_signs" 1 p__law_all_signs spAll) : FnOk P w K mg base CX0 3 (He.fAd K ("_law_some_form", none)) fd p__law_some_form (spSomeForm K) := by
  refine okP F sc__law_some_form (fun vs H Q E h => by obtain ⟨u, c, a, n, fs, rfl, _⟩ := h; rfl) (fun A outer s H vs Q E hr h => ?_)
  obtain ⟨u, c, a, n, fs, rfl, hu, hS, hf, k⟩ := h
  refine ⟨_, (pss_cons (ps_set (i := 3) sc__law_some_form.nd rfl (by first | exact Or.inl rfl | exact Or.inr rfl) (pe_fn0 D__law_all_signs hr (by decide) rfl))
      (pss_cons (ps_setLc (i := 5) (own := [("turn", 4)]) (g := gName 4) (tt := tYes) rfl sc__law_some_form.nd rfl rfl (sw_true rfl rfl rfl (by decide +kernel)) (pi_range1 rfl T.b_range (pa_cons pe_int pa_nil)) (blkOk_by (own := [("turn", 4)]) (N := n__law_some_form) (sc := defScope s__law_some_form) (by decide +kernel)) (fun _ _ _ _ _ => (pg_name (i := 4) sc__law_some_form.nd rfl (by first | exact Or.inl rfl | exact Or.inr rfl))) (fun _ _ _ _ _ => pts_nil) (fun _ _ _ _ _ => (k_bm (K := K) rfl PySem.F.plainAttrs_list PySem.F.slot_list_pop PySem.F.type_list_pop mt_popAt (pv 3) (pa_cons (pe_fn D__law_upto hr (by decide) rfl (pa_cons (pv 0) (pa_cons (pe_callB (k_len (K := K) rfl) rfl T.b_len (by decide +kernel) (pa_cons (pv 3) pa_nil)) pa_nil))) pa_nil))))
      (pss_cons (ps_set (i := 6) sc__law_some_form.nd rfl (by first | exact Or.inl rfl | exact Or.inr rfl) (pe_lst (pa_cons (pe_cmpR (u_in (K := K) rfl) pe_str (pv 2) (by first | exact nomark _ | rfl)) (pa_cons (pe_cmpR (u_in (K := K) rfl) pe_str (pv 2) (by first | exact nomark _ | rfl)) (pa_cons (pe_cmpR (u_in (K := K) rfl) pe_str (pv 2) (by first | exact nomark _ | rfl)) (pa_cons (pe_cmpR (u_in (K := K) rfl) pe_str (pv 2) (by first | exact nomark _ | rfl)) pa_nil))))))
      (pss_cons (ps_set (i := 6) sc__law_some_form.nd rfl (by first | exact Or.inl rfl | exact Or.inr rfl) (pe_op (u_add (K := K) rfl) (pe_op (u_add (K := K) rfl) (pv 6) (pe_op (u_mul (K := K) rfl) (pe_lst (pa_cons (pe_cmpR (u_in (K := K) rfl) pe_str (pv 2) (by first | exact nomark _ | rfl)) pa_nil)) pe_int)) (pe_lst (pa_cons (pe_cmpR (u_ne (K := K) rfl hr.units) (pv 2) (pe_tup pa_nil) (nomark _)) pa_nil))))
      (pss_one (ps_ret (pe_op (u_add (K := K) rfl) (pe_tup (pa_cons (pv 1) pa_nil)) (k_tuple (K := K) rfl rfl T.b_tuple (pe_lc (own := [("sign", 7), ("is_there", 8)])  (tt := tYes) rfl sc__law_some_form.nd (k_zip (K := K) rfl rfl T.b_zip (pa_cons (pv 5) (pa_cons (pv 6) pa_nil))) (blkOk_by (own := [("sign", 7), ("is_there", 8)]) (N := n__law_some_form) (sc := defScope s__law_some_form) (by decide +kernel)) (fun _ _ _ _ _ => (kg_tup 2 (K := K) rfl rfl (pgs_cons (pg_name (i := 7) sc__law_some_form.nd rfl (by first | exact Or.inl rfl | exact Or.inr rfl)) (pgs_cons (pg_name (i := 8) sc__law_some_form.nd rfl (by first | exact Or.inl rfl | exact Or.inr rfl)) pgs_nil)))) (fun _ _ _ _ _ => pts_nil) (fun _ _ _ _ _ => (pe_ifExp (k_truth (K := K) rfl (pv 8) (by intro _; rfl)) (pv 7) pe_str))))))))))), ?_⟩
  refine ⟨rfl, fun l H1 g1 hl hL => ?_⟩
  refine ⟨8, rfl, by decide, by decide, fun D hD => ?_⟩
  have lu := hu.ou hl
  have lc := hu.oc hl
  have hu1 := hu.gr g1
  have Du := hu1.ou hD
  have Dc := hu1.oc hD
  have lD : l ≠ D := ne_of_none hL hD
  have hD0 := g1.free hD
  refine lc_range (lo := 0) (n := 8) (fun i H' => ∃ ps rs, ps.length = i ∧ (ps ++ rs).Perm allS ∧ GrU u H H' ∧ Urn c H' u ∧ H' l = some (.lst (strV rs)) ∧ H' D = some (.lst (strV ps))) ⟨[], allS, rfl, List.Perm.refl _, gruD g1.u hD0, hu1.gr (Gr.new hD), by rw [upd_ne lD]; exact hL, upd_same⟩ ?_ ?_
  · rintro i H' hi ⟨ps, rs, hp, hpm, g, hu', h1, h2⟩
    have hlen : i + rs.length = 31 := by
      have q := hpm.length_eq
      rw [List.length_append, hp] at q
      exact q
    have lr : (strV rs).length = rs.length := List.length_map _
    refine ⟨rfl, ?_⟩
    refine ⟨_, rfl, .inl ⟨rfl, _, SqL.of h1⟩, _, rfl, _, rfl, _, _, rfl, .inl ⟨_, SqL.of h1, rfl⟩, u, c, _, rfl, hu', by rw [lr]; omega, by rw [lr]; omega, fun r H2 h0 hr1 g2 hu2 => ?_⟩
    obtain ⟨j, rfl⟩ := Int.eq_ofNat_of_zero_le h0
    rw [lr] at hr1
    have hj : j < rs.length := by omega
    have e1 := g2.keep lu h1 (fun _ z => by cases z)
    have e2 := g2.keep Du h2 (fun _ z => by cases z)
    refine ⟨l, strV rs, j, j, .str rs[j], rfl, rfl, e1, by omega, by omega, ?_, ?_, ?_⟩
    · unfold seqIndex?
      rw [lr]
      have q1 : ¬ (j : Int) < 0 := by omega
      simp only [q1, if_false]
      rw [if_pos (by simp; omega)]; rfl
    · unfold strV
      rw [List.getElem?_map, List.getElem?_eq_getElem hj]; rfl
    · refine ⟨strV ps, by rw [upd_ne (Ne.symm lD)]; exact e2, ?_, ps ++ [rs[j]], rs.eraseIdx j, by rw [List.length_append, hp]; rfl, (pop_perm (List.getElem?_eq_getElem hj)).trans hpm, gruD (gruD (g.trans g2) hl) hD0, (hu2.updD lu lc).updD Du Dc, ?_, ?_⟩
      · unfold strV
        rw [List.length_map, hp, sizeLine_eq]; omega
      · rw [upd_ne lD, upd_same]
        unfold strV
        rw [List.eraseIdx_eq_take_drop_succ, List.eraseIdx_eq_take_drop_succ, List.map_append, List.map_take, List.map_drop]
      · rw [upd_same]
        unfold strV
        rw [List.map_append]; rfl
  · rintro H' ⟨ps, rs, hp, hpm, g, hu', h1, h2⟩
    have hS' := g.seqT hu hS
    have hSf : (strV fs).all flatV = true := by
      unfold strV
      rw [List.all_map, List.all_eq_true]
      intro x _; rfl
    refine ⟨_, rfl, in_seq (.inr hS') rfl hSf ⟨_, rfl, in_seq (.inr hS') rfl hSf ⟨_, rfl, in_seq (.inr hS') rfl hSf ⟨_, rfl, in_seq (.inr hS') rfl hSf ⟨by show 4 ≤ sizeLine; rw [sizeLine_eq]; decide, fun p1 hp1 => ?_⟩⟩⟩⟩⟩
    refine newH hp1 fun Ha Ga s1 => ?_
    refine ⟨_, rfl, _, rfl, in_seq (.inr (Ga.seqT hS')) rfl hSf ⟨by show 1 ≤ sizeLine; rw [sizeLine_eq]; decide, fun p2 hp2 => ?_⟩⟩
    refine newH hp2 fun Hb Gb s2 => ?_
    refine m_ll s2 (by decide) (by decide) (by show 1 * 3 ≤ sizeLine; rw [sizeLine_eq]; decide) fun p3 hp3 => ?_
    refine newH hp3 fun Hc Gc s3 => ?_
    refine a_ll (Gc.lst (Gb.lst s1)) s3 (by rw [sizeLine_eq]; show 4 + 3 ≤ 16777216; decide) fun p4 hp4 => ?_
    refine newH hp4 fun Hd Gd s4 => ?_
    have G4 := ((Ga.trans Gb).trans Gc).trans Gd
    refine ⟨_, rfl, Nat.zero_le _, fun pe hpe => ?_⟩
    refine newH hpe fun Hx Ge se => ?_
    refine n_data (Dp.tup ((G4.trans Ge).seqT hS') (dp_strs fs)) (Dp.tup (SqT.of se) .nil) (shp_strsT hf) rfl ?_
    refine ⟨by show 1 ≤ sizeLine; rw [sizeLine_eq]; decide, fun p5 hp5 => ?_⟩
    refine newH hp5 fun Hf Gf s5 => ?_
    refine a_ll ((Ge.trans Gf).lst s4) s5 (by rw [sizeLine_eq]; show 7 + 1 ≤ 16777216; decide) fun p6 hp6 => ?_
    refine newH hp6 fun Hg Gg s6 => ?_
    have G6 := ((G4.trans Ge).trans Gf).trans Gg
    have e6 : Hg p6 = some (.lst ((thereL fs).map V.bl)) := s6.trans rfl
    have d6 := G6.lst h2
    refine ⟨_, rfl, by show 1 ≤ sizeLine; rw [sizeLine_eq]; decide, fun pT hpT => ?_⟩
    refine newH hpT fun Hh Gh sT => ?_
    refine ⟨_, rfl, _, rfl, D, p6, _, _, rfl, .inl ⟨SqL.of (Gh.lst d6), SqL.of (Gh.lst e6), fun Z hZ => ?_⟩⟩
    have rl : ∀ i, (((ps.zip (thereL fs)).take i).map mkS).length ≤ 8 := fun i => by
      rw [List.length_map, List.length_take, List.length_zip]
      omega
    refine lc_zL (a := D) (b := p6) (xs := strV ps) (ys := (thereL fs).map V.bl) (by unfold strV; rw [List.length_map, List.length_map, hp]; rfl) (fun i H' => Gr Hh H' ∧ H' Z = some (.lst (strV (((ps.zip (thereL fs)).take i).map mkS)))) ⟨Gr.new hZ, upd_same⟩ ?_ ?_ ?_
    · rintro i H2 ⟨g3, _⟩
      exact ⟨SqL.of (g3.lst (Gh.lst d6)), SqL.of (g3.lst (Gh.lst e6))⟩
    · rintro i x y T2 H2 hx hy ⟨g3, h3⟩ hT2
      obtain ⟨t, ht, rfl⟩ := str_at hx
      rw [List.getElem?_map] at hy
      obtain ⟨b, hb, rfl⟩ : ∃ b, (thereL fs)[i]? = some b ∧ y = .bl b := by
        cases e : (thereL fs)[i]? with
        | none => rw [e] at hy; cases hy
        | some b => rw [e] at hy; exact ⟨b, rfl, (Option.some.inj hy).symm⟩
      have hz : (ps.zip (thereL fs))[i]? = some (t, b) := by
        rw [List.getElem?_zip_eq_some]
        exact ⟨ht, hb⟩
      refine newH hT2 fun H3 g4 s8 => ?_
      have g5 := g3.trans g4
      have h4 := g4.lst h3
      refine ⟨_, _, rfl, SqT.of s8, rfl, _, _, rfl, _, _, rfl, rfl, rfl, ?_⟩
      have st : ((ps.zip (thereL fs)).take (i + 1)).map mkS = ((ps.zip (thereL fs)).take i).map mkS ++ [mkS (t, b)] := by
        rw [List.take_succ, hz, List.map_append]; rfl
      have nl : (strV (((ps.zip (thereL fs)).take i).map mkS)).length < sizeLine := by
        unfold strV
        rw [List.length_map, sizeLine_eq]
        exact Nat.lt_of_le_of_lt (rl i) (by decide)
      refine ⟨_, rfl, b, rfl, ite2 (fun hb => ?_) (fun hb => ?_)⟩
      · refine ⟨_, rfl, _, h4, nl, g5.upd' hZ, ?_⟩
        rw [upd_same, st]
        unfold strV
        rw [List.map_append]
        show _ = some (HO.lst (_ ++ [V.str (mkS (t, b))]))
        have e : mkS (t, b) = t := if_pos hb
        rw [e]
      · refine ⟨_, h4, nl, g5.upd' hZ, ?_⟩
        rw [upd_same, st]
        unfold strV
        rw [List.map_append]
        show _ = some (HO.lst (_ ++ [V.str (mkS (t, b))]))
        have e : mkS (t, b) = "" := if_neg hb
        rw [e]
    · rintro H2 ⟨g3, h3⟩
      refine ⟨.inl ⟨Z, _, rfl, SqL.of h3, fun t8 ht8 => ?_⟩⟩
      refine newH ht8 fun H3 g4 s8 => ?_
      have g5 := (G6.trans Gh).trans (g3.trans g4)
      have ln : (strV ps).length = 8 := by unfold strV; rw [List.length_map]; exact hp
      have tk : (ps.zip (thereL fs)).take (strV ps).length = ps.zip (thereL fs) := by
        rw [ln]
        refine List.take_of_length_le ?_
        rw [List.length_zip]
        omega
      have ml : (mask fs ps).length = 8 := by
        unfold mask
        rw [List.length_map, List.length_zip, hp]; rfl
      rw [tk] at s8
      have s8 : H3 t8 = some (.tup (strV (mask fs ps))) := s8
      have sl : (strV (mask fs ps)).length = 8 := by unfold strV; rw [List.length_map]; exact ml
      refine a_tt (SqT.of ((g3.trans g4).tup sT)) (SqT.of s8) (by rw [sl, sizeLine_eq]; show 1 + 8 ≤ 16777216; decide) (fun z => by cases z) (fun _ z => ?_) (fun _ _ t ht => ?_)
      · rw [z] at sl
        cases sl
      · refine newH ht fun H4 g6 s9 => ?_
        have g7 := g5.trans g6
        refine k t ps rs _ hp hpm (g.trans g7.u) (hu'.gr g7) (g.free (hu'.ou (g5.free ht)) (g5.free ht)) (hu'.ou (g5.free ht)) (s9.trans rfl)
end
end Vf
end
section
set_option Elab.async false
set_option linter.all false
set_option maxRecDepth 100000
set_option maxHeartbeats 4000000
namespace Vf
open PySem PySem.Spec PyProof.Rows L2 GxR GenW RZ
theorem bt {b : Bool} (h : ¬ (!b) = true) : b = true := by cases b <;> simp at h ⊢
def lsg : PyData → Bool
  | .str x => decide (V.str x = V.str "") || inV (.str x) (strV allS)
  | _ => false
def spLsign (K : PySem.W.Frag) : Sp := fun vs H Q _ => ∃ v d, vs = [v] ∧ Dd K H v d ∧ ∀ H', Gr H H' → Q (.bl (lsg d)) H'
theorem inV_str {x : Str} {l : List Str} : inV (.str x) (strV l) = true ↔ x ∈ l := by
  unfold inV strV
  rw [List.any_map, List.any_eq_true]
  constructor
  · rintro ⟨y, hy, e⟩
    have e : (y == x) = true := e
    have e := eq_of_beq e
    exact e ▸ hy
  · intro h
    exact ⟨x, h, show (x == x) = true from beq_self_eq_true x⟩
theorem sg_fwd : ∀ c : Nat, c < 127 → sgnC c = true → c ≠ 37 → (⟨#[c]⟩ : Str) ∈ allS := by decide +kernel
theorem sg_bwd : ∀ x ∈ allS, isSg x = true := by decide +kernel
theorem sg_iff {x : Str} (h : x ≠ "%") : isSg x = true ↔ x ∈ allS := by
  refine ⟨fun q => ?_, sg_bwd x⟩
  unfold isSg at q
  split at q
  · rename_i c hc
    have e : x = ⟨#[c]⟩ := by
      obtain ⟨⟨l⟩⟩ := x
      have hc : l = [c] := hc
      rw [hc]
    have q2 := q
    unfold sgnC at q2
    rw [Bool.and_eq_true, Bool.and_eq_true] at q2
    have h2 : c ≤ 126 := of_decide_eq_true q2.2.1
    subst e
    refine sg_fwd c (by omega) q fun z => h ?_
    rw [z]; rfl
  · cases q
theorem strsOf_in : ∀ {ds : List PyData} {ts : List Str}, strsOf ds = some ts → ∀ t, PyData.str t ∈ ds → t ∈ ts
  | .str x :: r, ts, h, t, ht => by
    have h : (strsOf r).map (x :: ·) = some ts := h
    cases q : strsOf r with
    | none => rw [q] at h; cases h
    | some us =>
      rw [q] at h
      cases h
      rcases List.mem_cons.mp ht with e | ht
      · cases e; exact List.mem_cons_self
      · exact List.mem_cons_of_mem _ (strsOf_in q t ht)
  | .none :: _, _, h, _, _ => by cases h
  | .bool _ :: _, _, h, _, _ => by cases h
  | .int _ :: _, _, h, _, _ => by cases h
  | .list _ :: _, _, h, _, _ => by cases h
  | .tuple _ :: _, _, h, _, _ => by cases h
  | .dict _ :: _, _, h, _, _ => by cases h
theorem lsg_str {x : Str} (h : x ≠ "%") : lsg (.str x) = true ↔ (x = "" ∨ isSg x = true) := by
  show (decide (V.str x = V.str "") || inV (.str x) (strV allS)) = true ↔ _
  rw [Bool.or_eq_true, dvs, decide_eq_true_iff, inV_str, sg_iff h]
theorem nEm_iff {x : Str} : nEm x = true ↔ x ≠ "" := by
  unfold nEm
  rw [dvs]
  simp
theorem bad_sign {n : Str} {dr : List PyData} (l8 : dr.length = 8) (h : ∃ d ∈ dr, lsg d = false) (hp : ∀ x, PyData.str x ∈ dr → x ≠ "%") : isFm (.tuple (.str n :: dr)) = false := by
  show (match strsOf (.str n :: dr) with | some ts => fm9 ts | none => false) = false
  have q : strsOf (.str n :: dr) = (strsOf dr).map (n :: ·) := rfl
  rw [q]
  obtain ⟨d, hd, hl⟩ := h
  cases e : strsOf dr with
  | none => rfl
  | some ts =>
    have hs : isaD "str" d = true := by
      cases y : isaD "str" d with
      | true => rfl
      | false => rw [strs_none ⟨d, hd, y⟩] at e; cases e
    obtain ⟨x, rfl⟩ := isStr_iff.mp hs
    have hx := strsOf_in e x hd
    have hb : ¬ (x = "" ∨ isSg x = true) := fun z => by
      rw [← lsg_str (hp x hd), hl] at z
      cases z
    have hn : x ∈ nonE ts := List.mem_filter.mpr ⟨hx, nEm_iff.mpr fun z => hb (.inl z)⟩
    have ha : areSg ts = false := by
      unfold areSg
      rw [List.all_eq_false.mpr ⟨x, hn, fun z => hb (.inr z)⟩, Bool.false_and]
    have hl := strsOf_len e
    show fm9 (n :: ts) = false
    match ts, hl.trans l8, ha with
    | [c1, c2, c3, c4, c5, c6, c7, c8], _, ha =>
      show (isNm n && (areSg [c1, c2, c3, c4, c5, c6, c7, c8] && _)) = false
      rw [ha, Bool.false_and, Bool.and_false]
theorem ddA_snoc {K : PySem.W.Frag} {H : Hp} : ∀ {ys : List V} {es : List PyData} {x : V} {d : PyData}, DdAll K H ys es → Dd K H x d → DdAll K H (ys ++ [x]) (es ++ [d])
  | _, [], _, _, h, k => by cases h; exact .cons k .nil
  | _, _ :: _, _, _, h, k => by
    cases h with
    | cons a b => exact .cons a (ddA_snoc b k)
theorem len0 {x : Str} : x.length = 0 ↔ x = "" := by
  constructor
  · intro h
    obtain ⟨⟨l⟩⟩ := x
    have h : l.length = 0 := h
    cases l with
    | nil => rfl
    | cons a b => cases h
  · rintro rfl
    rfl
theorem nEm_len {x : Str} : nEm x = true ↔ x.length ≠ 0 := by
  unfold nEm
  rw [dvs, Ne, len0]
  simp
theorem join_len0 {us : List Str} : (Txt.join "" us).length ≠ 0 ↔ ∃ x ∈ us, x.length ≠ 0 := by
  have e : Txt.join "" us = Str.join "" us := StrLaws.glued_eq_join "" us
  rw [e]
  constructor
  · intro h
    refine Classical.byContradiction fun z => h ?_
    have q := StrLaws.join_length_le "" us
    have e0 : (("" : Str)).length = 0 := rfl
    have s0 : (us.map fun x => x.length).sum = 0 := by
      clear e q h
      induction us with
      | nil => rfl
      | cons a r ih =>
        rw [List.map_cons, List.sum_cons, ih fun ⟨x, hx, y⟩ => z ⟨x, List.mem_cons_of_mem _ hx, y⟩]
        by_cases y : a.length = 0
        · omega
        · exact absurd ⟨a, List.mem_cons_self, y⟩ z
    rw [e0, s0, Nat.mul_zero] at q
    omega
  · rintro ⟨x, hx, h⟩
    have q := PySem.join_mem_le "" us x hx
    omega
theorem nEm_join {us : List Str} : nEm (Txt.join "" us) = us.any nEm := by
  rw [Bool.eq_iff_iff, nEm_len, join_len0, List.any_eq_true]
  constructor
  · rintro ⟨x, hx, h⟩
    exact ⟨x, hx, nEm_len.mpr h⟩
  · rintro ⟨x, hx, h⟩
    exact ⟨x, hx, nEm_len.mp h⟩
theorem nonE_isEmpty {us : List Str} : (!((nonE us).map PyData.str).isEmpty) = us.any nEm := by
  unfold nonE
  induction us with
  | nil => rfl
  | cons a r ih =>
    rw [List.any_cons]
    cases h : nEm a with
    | true => rw [List.filter_cons_of_pos h]; rfl
    | false => rw [List.filter_cons_of_neg (by rw [h]; decide), Bool.false_or]; exact ih
theorem links_ok {c5 c6 c7 : Str} : inV (.int ((strV (nonE [c5, c6, c7])).length : Nat)) [.int 0, .int 3] = !([nEm c5, nEm c6, nEm c7].any id && !([nEm c5, nEm c6, nEm c7].all id)) := by
  have e : (strV (nonE [c5, c6, c7])).length = ([nEm c5, nEm c6, nEm c7].filter id).length := by
    unfold strV
    rw [List.length_map]
    unfold nonE
    rw [show [nEm c5, nEm c6, nEm c7] = [c5, c6, c7].map nEm from rfl, List.filter_map, List.length_map]
    rfl
  rw [e]
  cases nEm c5 <;> cases nEm c6 <;> cases nEm c7 <;> decide
theorem lc_nonE {K : PySem.W.Frag} {p D : Addr} {us : List Str} {Hb : Hp} {Qd : Hp → Prop} {v0 v1 v2 v3 v4 v5 : Option V} (hS : SqT K Hb p (strV us)) (hu : us.length ≤ 100) (hD : Hb D = none) (q : ∀ H', Gr Hb H' → H' D = some (.lst (strV (nonE us))) → Qd H') :
    ∃ W : Nat → Nat → Hp → Prop, (∃ m, W 0 m (upd Hb D (.lst []))) ∧ ∀ i m H, W i m H →
      ((Itt K p).stop i H ∧ Qd H) ∨ ((Itt K p).go i H ∧ ∃ Nx : Hp → Prop, (∀ H', Nx H' → ∃ m', m' < m ∧ W (i + 1) m' H') ∧ ∀ x H', (Itt K p).yld i H x H' → gName 2 x (wipe [v0, v1, v2, v3, v4, v5] [2]) H' fun σ2 H2 => wipe σ2 [2] = wipe [v0, v1, v2, v3, v4, v5] [2] ∧ tTest (tOp (rNeU K) (tVar 2) (tC (.str ""))) σ2 H2 fun b H3 =>
        if b = true then tVar 2 σ2 H3 fun y H4 => ∃ acc, H4 D = some (.lst acc) ∧ acc.length < sizeLine ∧ Nx (upd H4 D (.lst (acc ++ [y]))) else Nx H3) := by
  refine lc_tup (K := K) (a := p) (xs := strV us) (fun i H' => Gr Hb H' ∧ H' D = some (.lst (strV (nonE (us.take i))))) ⟨Gr.new hD, upd_same⟩ ?_ ?_ ?_
  · rintro i H' _ ⟨g, _⟩
    exact g.seqT hS
  · rintro i x H' hx ⟨g, hL⟩
    obtain ⟨t, ht, rfl⟩ := str_at hx
    have et : us.take (i + 1) = us.take i ++ [t] := by rw [List.take_succ, ht]; rfl
    have en : nonE (us.take (i + 1)) = nonE (us.take i) ++ nonE [t] := by rw [et]; unfold nonE; rw [List.filter_append]
    refine ⟨rfl, ?_⟩
    refine ⟨_, rfl, n_flat rfl ⟨_, rfl, ite2 (fun h1 => ?_) (fun h1 => ?_)⟩⟩
    · refine ⟨_, rfl, _, hL, ?_, g.upd' hD, ?_⟩
      · have q : (nonE (us.take i)).length ≤ (us.take i).length := List.length_filter_le _ _
        rw [List.length_take] at q
        show (List.map V.str _).length < _
        rw [List.length_map, sizeLine_eq]
        omega
      · rw [upd_same, en]
        have e1 : nonE [t] = [t] := nonE_pos h1
        rw [e1]
        unfold strV
        rw [List.map_append]; rfl
    · have e1 : nonE [t] = [] := nonE_neg h1
      exact ⟨g, by rw [hL, en, e1, List.append_nil]⟩
  · rintro H' ⟨g, hL⟩
    rw [show (strV us).length = us.length from List.length_map _, List.take_length] at hL
    exact q _ g hL
def DueOk (d : PyData) : Prop := ∀ ds, d = .tuple ds → PyData.canLayAll0 ds = true ∧ PyData.depthAll ds ≤ 60 ∧ ∀ x, PyData.str x ∈ ds → x.length ≤ 1000000 ∧ x ≠ "%"
def spDue (K : PySem.W.Frag) : Sp := fun vs H Q _ => ∃ v d, vs = [v] ∧ Dd K H v d ∧ DueOk d ∧ ∀ H', Gr H H' → Q (.bl (isFm d)) H'
theorem allS_flat : (strV allS).all flatV = true := by
  unfold strV
  rw [List.all_map, List.all_eq_true]
  intro x _; rfl
theorem canLayAll_mem : ∀ {ds : List PyData}, PyData.canLayAll0 ds = true → ∀ d ∈ ds, PyData.canLay0 d = true
  | d :: ds, h, e, he => by
    have h : (PyData.canLay0 d && PyData.canLayAll0 ds) = true := h
    rw [Bool.and_eq_true] at h
    rcases List.mem_cons.mp he with rfl | he
    · exact h.1
    · exact canLayAll_mem h.2 e he
theorem canLayAll_of : ∀ {ds : List PyData}, (∀ d ∈ ds, PyData.canLay0 d = true) → PyData.canLayAll0 ds = true
  | [], _ => rfl
  | d :: ds, h => by
    show (PyData.canLay0 d && PyData.canLayAll0 ds) = true
    rw [h d List.mem_cons_self, canLayAll_of fun e he => h e (List.mem_cons_of_mem _ he)]; rfl
theorem depAll_mem : ∀ {ds : List PyData} {k : Nat}, PyData.depthAll ds ≤ k → ∀ d ∈ ds, d.depth ≤ k
  | d :: ds, k, h, e, he => by
    have h : max (PyData.depth d) (PyData.depthAll ds) ≤ k := h
    rcases List.mem_cons.mp he with rfl | he
    · omega
    · exact depAll_mem (by omega) e he
theorem depAll_of : ∀ {ds : List PyData} {k : Nat}, (∀ d ∈ ds, d.depth ≤ k) → PyData.depthAll ds ≤ k
  | [], k, _ => Nat.zero_le _
  | d :: ds, k, h => by
    show max (PyData.depth d) (PyData.depthAll ds) ≤ k
    have h1 := h d List.mem_cons_self
    have h2 := depAll_of fun e he => h e (List.mem_cons_of_mem _ he)
    omega
mutual
theorem dp_dd {K : PySem.W.Frag} {H : Hp} : ∀ (d : PyData) (v : V), Dd K H v d → PyData.canLay0 d = true → Dp K H v d
  | .none, _, h, _ => by cases h; exact .non
  | .bool _, _, h, _ => by cases h; exact .bl _
  | .int _, _, h, _ => by cases h; exact .int _
  | .str _, _, h, _ => by cases h; exact .str _
  | .list ds, _, h, c => by
    cases h with
    | lst a b => exact .lst a (dp_ddA ds _ b c)
  | .tuple ds, _, h, c => by
    cases h with
    | tup a b => exact .tup a (dp_ddA ds _ b c)
  | .dict _, _, h, c => by cases c
theorem dp_ddA {K : PySem.W.Frag} {H : Hp} : ∀ (ds : List PyData) (vs : List V), DdAll K H vs ds → PyData.canLayAll0 ds = true → DpAll K H vs ds
  | [], _, h, _ => by cases h; exact .nil
  | d :: ds, _, h, c => by
    have c : (PyData.canLay0 d && PyData.canLayAll0 ds) = true := c
    rw [Bool.and_eq_true] at c
    cases h with
    | cons a b => exact .cons (dp_dd d _ a c.1) (dp_ddA ds _ b c.2)
end
theorem shp_list {ds : List PyData} (h1 : PyData.canLayAll0 ds = true) (h2 : PyData.depthAll ds ≤ 60) : SeqAt.shaped (.list ds) = true := by
  unfold SeqAt.shaped
  have h3 : PyData.depth (.list ds) ≤ 64 := by simp only [PyData.depth]; omega
  have h1 : PyData.canLay0 (.list ds) = true := h1
  rw [h1, decide_eq_true h3]; rfl
theorem eqv_nil (ds : List PyData) : PyData.eqv (.list ds) (.list []) = ds.isEmpty := by
  cases ds <;> simp [PyData.eqv, PyData.eqvAll]
section
variable {P : Program} {w : World} {K : PySem.W.Frag} {mg : Str → Option Value} {base : Heap}
theorem ok_lsign {fd : FuncData} (F : FnP K "_law_is_sign" s__law_is_sign fd) (T : TY K mg) (D__law_all_signs : Df P w K mg base "_law_all_signs" 1 p__law_all_signs spAll) : FnOk P w K mg base CX0 2 (He.fAd K ("_law_is_sign", none)) fd p__law_is_sign (spLsign K) := by
  refine okP F sc__law_is_sign (fun vs H Q E h => by obtain ⟨v, d, rfl, _⟩ := h; rfl) (fun A outer s H vs Q E hr h => ?_)
  obtain ⟨v, d, rfl, hd, k⟩ := h
  refine ⟨_, (pss_one (ps_ret (pe_and (pe_callB (call_isD (K := K) rfl) rfl T.b_isinstance (by decide +kernel) (pa_cons (pv 0) (pa_cons (pe_ty (T := "str") rfl T.b_str (by decide +kernel)) pa_nil))) (pe_one (pe_or (pe_cmpR (u_eq (K := K) rfl hr.units) (pv 0) pe_str (nomark _)) (pe_one (pe_cmpR (u_in (K := K) rfl) (pv 0) (pe_fn0 D__law_all_signs hr (by decide) rfl) (by first | exact nomark _ | rfl)))))))), ?_⟩
  refine ⟨_, rfl, v, d, "str", rfl, hd, .inr (.inl rfl), _, rfl, ?_⟩
  refine ite2 (fun h1 => ?_) (fun h1 => ?_)
  · obtain ⟨x, rfl⟩ := isStr_iff.mp h1
    cases hd
    refine ⟨_, rfl, e_flat rfl ⟨_, rfl, ite2 (fun h2 => ?_) (fun h2 => ?_)⟩⟩
    · have e : lsg (.str x) = true := by
        show (decide _ || _) = true
        rw [h2, Bool.true_or]
      exact e ▸ k _ (Gr.refl H)
    · refine ⟨_, rfl, rfl, fun l H' g hl hL => in_seq (.inl (SqL.of hL)) rfl allS_flat ?_⟩
      have e : lsg (.str x) = inV (.str x) (strV allS) := by
        show (decide _ || _) = _
        rw [show decide (V.str x = V.str "") = false by simpa using h2, Bool.false_or]
      exact e ▸ k _ g
  · have e : lsg d = false := by
      cases d <;> first | rfl | simp [isaD] at h1
    exact e ▸ k _ (Gr.refl H)
theorem ok_due {fd : FuncData} (F : FnP K "_law_due" s__law_due fd) (T : TY K mg) (D__law_is_sign : Df P w K mg base "_law_is_sign" 2 p__law_is_sign (spLsign K)) : FnOk P w K mg base CX0 3 (He.fAd K ("_law_due", none)) fd p__law_due (spDue K) := by
  refine okP F sc__law_due (fun vs H Q E h => by obtain ⟨v, d, rfl, _⟩ := h; rfl) (fun A outer s H vs Q E hr h => ?_)
  obtain ⟨v, d, rfl, hd, ho, k⟩ := h
  refine ⟨_, (pss_cons (ps_if (PW.pt (pw_or (pt_not (pt_val (pe_callB (call_isD (K := K) rfl) rfl T.b_isinstance (by decide +kernel) (pa_cons (pv 0) (pa_cons (pe_ty (T := "tuple") rfl T.b_tuple (by decide +kernel)) pa_nil))))) (pw_or (pt_cmpR (u_ne (K := K) rfl hr.units) (pe_callB (k_len (K := K) rfl) rfl T.b_len (by decide +kernel) (pa_cons (pv 0) pa_nil)) pe_int (nomark _)) (pw_or1 (pt_not (pt_val (pe_callB (call_isD (K := K) rfl) rfl T.b_isinstance (by decide +kernel) (pa_cons (pe_ix (u_ix (K := K) rfl) (pv 0) pe_int (fun _ _ => rfl)) (pa_cons (pe_ty (T := "str") rfl T.b_str (by decide +kernel)) pa_nil)))))))))
      (pss_one (ps_ret pe_bl))
      pss_nil)
      (pss_cons (ps_set (i := 1) sc__law_due.nd rfl (by first | exact Or.inl rfl | exact Or.inr rfl) pe_str)
      (pss_cons (ps_if (PW.pt (pw_or (pt_not (pt_chain u_le u_le pe_int (pe_callB (k_len (K := K) rfl) rfl T.b_len (by decide +kernel) (pa_cons (pe_ix (u_ix (K := K) rfl) (pv 0) pe_int (fun _ _ => rfl)) pa_nil)) pe_int)) (pw_or1 (pt_cmpR (u_ni (K := K) rfl) (pe_ix (u_ix (K := K) rfl) (pe_ix (u_ix (K := K) rfl) (pv 0) pe_int (fun _ _ => rfl)) pe_int (fun _ _ => rfl)) (pv 1) (by first | exact nomark _ | rfl)))))
      (pss_one (ps_ret pe_bl))
      pss_nil)
      (pss_cons (ps_if (pt_cmpR (u_ne (K := K) rfl hr.units) (pe_lc (own := [("sign", 2)]) (g := gName 2) rfl sc__law_due.nd (pi_str (pe_ix (u_ix (K := K) rfl) (pv 0) pe_int (fun _ _ => rfl))) (blkOk_by (own := [("sign", 2)]) (N := n__law_due) (sc := defScope s__law_due) (by decide +kernel)) (fun _ _ _ _ _ => (pg_name (i := 2) sc__law_due.nd rfl (by first | exact Or.inl rfl | exact Or.inr rfl))) (fun _ _ _ _ _ => (pts_one (pt_cmpR (u_ni (K := K) rfl) (pv 2) (pe_op (u_add (K := K) rfl) (pv 1) pe_str) (by first | exact nomark _ | rfl)))) (fun _ _ _ _ _ => (pv 2))) (pe_lst pa_nil) (nomark _))
      (pss_one (ps_ret pe_bl))
      pss_nil)
      (pss_cons (ps_if (pt_cmpR (u_ne (K := K) rfl hr.units) (pe_lc (own := [("sign", 2)]) (g := gName 2) rfl sc__law_due.nd (k_tup (K := K) rfl (pe_slice (u_sl (K := K) rfl) (pv 0) (po_some pe_int) po_none)) (blkOk_by (own := [("sign", 2)]) (N := n__law_due) (sc := defScope s__law_due) (by decide +kernel)) (fun _ _ _ _ _ => (pg_name (i := 2) sc__law_due.nd rfl (by first | exact Or.inl rfl | exact Or.inr rfl))) (fun _ _ _ _ _ => (pts_one (pt_not (pt_val (pe_fn D__law_is_sign hr (by decide) rfl (pa_cons (pv 2) pa_nil)))))) (fun _ _ _ _ _ => (pv 2))) (pe_lst pa_nil) (nomark _))
      (pss_one (ps_ret pe_bl))
      pss_nil)
      (pss_cons (ps_setLc (i := 3) (own := [("sign", 2)]) (g := gName 2) rfl sc__law_due.nd rfl rfl (sw_true rfl rfl rfl (by decide +kernel)) (k_tup (K := K) rfl (pe_slice (u_sl (K := K) rfl) (pv 0) (po_some pe_int) po_none)) (blkOk_by (own := [("sign", 2)]) (N := n__law_due) (sc := defScope s__law_due) (by decide +kernel)) (fun _ _ _ _ _ => (pg_name (i := 2) sc__law_due.nd rfl (by first | exact Or.inl rfl | exact Or.inr rfl))) (fun _ _ _ _ _ => (pts_one (pt_cmpR (u_ne (K := K) rfl hr.units) (pv 2) pe_str (nomark _)))) (fun _ _ _ _ _ => (pv 2)))
      (pss_cons (ps_set (i := 4) sc__law_due.nd rfl (by first | exact Or.inl rfl | exact Or.inr rfl) (pe_callB (k_len (K := K) rfl) rfl T.b_len (by decide +kernel) (pa_cons (pe_lc (own := [("sign", 2)]) (g := gName 2) rfl sc__law_due.nd (k_tup (K := K) rfl (pe_slice (u_sl (K := K) rfl) (pv 0) (po_some pe_int) (po_some pe_int))) (blkOk_by (own := [("sign", 2)]) (N := n__law_due) (sc := defScope s__law_due) (by decide +kernel)) (fun _ _ _ _ _ => (pg_name (i := 2) sc__law_due.nd rfl (by first | exact Or.inl rfl | exact Or.inr rfl))) (fun _ _ _ _ _ => (pts_one (pt_cmpR (u_ne (K := K) rfl hr.units) (pv 2) pe_str (nomark _)))) (fun _ _ _ _ _ => (pv 2))) pa_nil)))
      (pss_cons (ps_setLc (i := 5) (own := [("sign", 2)]) (g := gName 2) rfl sc__law_due.nd rfl rfl (sw_true rfl rfl rfl (by decide +kernel)) (k_tup (K := K) rfl (pe_slice (u_sl (K := K) rfl) (pv 0) (po_some pe_int) (po_some pe_int))) (blkOk_by (own := [("sign", 2)]) (N := n__law_due) (sc := defScope s__law_due) (by decide +kernel)) (fun _ _ _ _ _ => (pg_name (i := 2) sc__law_due.nd rfl (by first | exact Or.inl rfl | exact Or.inr rfl))) (fun _ _ _ _ _ => (pts_one (pt_cmpR (u_ne (K := K) rfl hr.units) (pv 2) pe_str (nomark _)))) (fun _ _ _ _ _ => (pv 2)))
      (pss_one (ps_ret (pe_and (pe_cmpR (u_eq (K := K) rfl hr.units) (pe_lenSetS (K := K) rfl rfl T.b_len rfl T.b_set (pv 3)) (pe_callB (k_len (K := K) rfl) rfl T.b_len (by decide +kernel) (pa_cons (pv 3) pa_nil)) (nomark _)) (pe_and (pe_cmpR (u_in (K := K) rfl) (pv 4) (pe_tup (pa_cons pe_int (pa_cons pe_int pa_nil))) (by first | exact nomark _ | rfl)) (pe_one (pe_cmpR (u_eq (K := K) rfl hr.units) (pe_cmpR (u_ne (K := K) rfl hr.units) (pe_ix (u_ix (K := K) rfl) (pv 0) pe_int (fun _ _ => rfl)) pe_str (nomark _)) (pe_cmpR (u_ne (K := K) rfl hr.units) (pv 5) (pe_lst pa_nil) (nomark _)) (nomark _))))))))))))))), ?_⟩
  refine ⟨_, rfl, v, d, "tuple", rfl, hd, .inl rfl, _, rfl, ite2 (fun h1 => ?_) (fun h1 => ?_)⟩
  · have e : isFm d = false := by
      cases d <;> first | rfl | simp [isaD] at h1
    exact e ▸ k _ (Gr.refl H)
  have ht : ∃ ds, d = .tuple ds := by
    cases d <;> first | exact ⟨_, rfl⟩ | simp [isaD] at h1
  obtain ⟨ds, rfl⟩ := ht
  cases hd with
  | tup hS hA =>
  rename_i a xs
  have el := ddA_len hA
  obtain ⟨o1, o2, o3⟩ := ho ds rfl
  have none_ : strsOf ds = none → isFm (.tuple ds) = false := fun h => by
    show (match strsOf ds with | some ts => fm9 ts | none => false) = false
    rw [h]
  refine ⟨_, rfl, _, _, rfl, .inr ⟨_, hS, rfl⟩, n_flat rfl ⟨_, rfl, ite2 (fun h2 => ?_) (fun h2 => ?_)⟩⟩
  · have h2 : ¬ ds.length = 9 := by
      rw [dvi, el, not_true_iff, decide_eq_false_iff_not] at h2
      omega
    have e : isFm (.tuple ds) = false := by
      show (match strsOf ds with | some ts => fm9 ts | none => false) = false
      cases q : strsOf ds with
      | none => rfl
      | some ts =>
        have hl := strsOf_len q
        show fm9 ts = false
        unfold fm9
        split
        · simp at hl; omega
        · rfl
    exact e ▸ k _ (Gr.refl H)
  have h9 : ds.length = 9 := by
    rw [dvi, el, not_true_iff, decide_eq_false_iff_not] at h2
    omega
  obtain ⟨d0, dr, rfl⟩ : ∃ d0 dr, ds = d0 :: dr := by
    match ds, h9 with
    | d0 :: dr, _ => exact ⟨d0, dr, rfl⟩
  cases hA with
  | cons hd0 hA =>
  rename_i x0 xr
  have l8 : dr.length = 8 := by simpa using h9
  have l8x : xr.length = 8 := by rw [ddA_len hA]; exact l8
  refine ⟨_, rfl, x_t hS (atI_nat (j := 0) rfl) ⟨x0, d0, "str", rfl, hd0, .inr (.inl rfl), _, rfl, ite2 (fun h3 => ?_) (fun h3 => ?_)⟩⟩
  · have e := none_ (strs_none ⟨d0, List.mem_cons_self, by simpa using h3⟩)
    exact e ▸ k _ (Gr.refl H)
  obtain ⟨n, rfl⟩ := isStr_iff.mp (show isaD "str" d0 = true by simpa using h3)
  cases hd0
  obtain ⟨z1, z2⟩ := o3 n List.mem_cons_self
  have hn : n.length ≤ sizeLine := by rw [sizeLine_eq]; omega
  have no : isNm n = false → isFm (.tuple (.str n :: dr)) = false := fun h => by
    show (match strsOf (.str n :: dr) with | some ts => fm9 ts | none => false) = false
    have q : strsOf (.str n :: dr) = (strsOf dr).map (n :: ·) := rfl
    rw [q]
    cases e : strsOf dr with
    | none => rfl
    | some ts =>
      have hl := strsOf_len e
      show fm9 (n :: ts) = false
      match ts, hl.trans l8 with
      | [c1, c2, c3, c4, c5, c6, c7, c8], _ =>
        show (isNm n && _) = false
        rw [h, Bool.false_and]
  have fin0 : ∀ H', Gr H H' → isNm n = false → Q (.bl false) H' := fun H' g e => no e ▸ k H' g
  refine ⟨_, rfl, x_t hS (atI_nat (j := 0) rfl) ⟨_, _, rfl, ⟨hn, rfl⟩, le_ii ⟨_, rfl, ite2 (fun h4 => le_ii ⟨_, rfl, ?_⟩) (fun h4 => ⟨_, rfl, iteT (fin0 _ (Gr.refl H) ?_)⟩)⟩⟩⟩
  rotate_left
  · have h4 : ¬ 1 ≤ n.length := fun z => h4 (decide_eq_true (by omega))
    unfold isNm
    rw [decide_eq_false (by omega), Bool.false_and]
  have h4 : 1 ≤ n.length := by have := of_decide_eq_true h4; omega
  by_cases h5 : n.length ≤ 8
  rotate_left
  · have e1 : (decide ((n.length : Int) ≤ 8)) = false := by simp; omega
    rw [e1]
    refine iteT (fin0 _ (Gr.refl H) ?_)
    unfold isNm
    rw [decide_eq_false (by omega), Bool.false_and]
  have e1 : (decide ((n.length : Int) ≤ 8)) = true := by simp; omega
  rw [e1]
  obtain ⟨c0, r0, hc0⟩ : ∃ c r, n.cps.toList = c :: r := by
    cases e : n.cps.toList with
    | nil =>
      have h0 : n.length = n.cps.toList.length := Array.length_toList.symm
      rw [e] at h0
      simp at h0
      omega
    | cons c r => exact ⟨c, r, rfl⟩
  have e2 : n.cps.toList[0]? = some c0 := by rw [hc0]; rfl
  have eN : isNm n = (decide (c0 ∈ azs) && n.cps.toList.all fun c => decide (c ∈ words)) := by
    unfold isNm
    rw [decide_eq_true ⟨h4, h5⟩, Bool.true_and, hc0]
  refine iteF ⟨_, rfl, x_t hS (atI_nat (j := 0) rfl) (x_s hn (atI_nat (j := 0) e2) ⟨_, rfl, ni_sign ⟨_, rfl, ite2 (fun h6 => fin0 _ (Gr.refl H) ?_) (fun h6 => ?_)⟩⟩)⟩
  · have h6 : c0 ∉ azs := fun z => by
      have q : (!decide (c0 ∈ azs)) = true := h6
      rw [decide_eq_true z] at q
      cases q
    rw [eN, decide_eq_false h6, Bool.false_and]
  have h6 : c0 ∈ azs := by
    by_cases z : c0 ∈ azs
    · exact z
    · exact absurd (show (!decide (c0 ∈ azs)) = true by rw [decide_eq_false z]; rfl) h6
  rw [decide_eq_true h6, Bool.true_and] at eN
  have okc : ∀ c ∈ n.cps.toList, PyData.canLay0 (.str ⟨#[c]⟩) = true := fun c hc => by
    have q := canLayAll_mem o1 (.str n) List.mem_cons_self
    simp only [PyData.canLay0, PyData.strOk] at q ⊢
    rw [← Array.all_toList] at q ⊢
    have q2 := List.all_eq_true.mp q c hc
    simpa using q2
  refine ⟨_, rfl, x_t hS (atI_nat (j := 0) rfl) ⟨n, rfl, fun D hD => ?_⟩⟩
  refine lc_S (x := n) (fun i H' => ∃ ys : List Str, Gr H H' ∧ H' D = some (.lst (strV ys)) ∧ ys.length ≤ i ∧ (∀ y ∈ ys, PyData.canLay0 (.str y) = true) ∧ (ys = [] ↔ ∀ c ∈ n.cps.toList.take i, c ∈ words)) ⟨[], Gr.new hD, upd_same, Nat.le_refl _, by simp, by simp⟩ ?_ ?_
  · rintro i c H' hc ⟨ys, g, hL, hl, hy, hq⟩
    have il := (List.getElem?_eq_some_iff.mp hc).1
    have nl : n.cps.toList.length = n.length := Array.length_toList
    refine ⟨rfl, ?_⟩
    refine ⟨_, rfl, _, rfl, a_ss (by rw [sizeLine_eq]; decide) (ni_sign ⟨_, rfl, ite2 (fun h7 => ?_) (fun h7 => ?_)⟩)⟩
    · have h7 : c ∉ words := fun z => by
        have q : (!decide (c ∈ words)) = true := h7
        rw [decide_eq_true z] at q
        cases q
      refine ⟨_, rfl, _, hL, ?_, ys ++ [⟨#[c]⟩], g.upd' hD, ?_, ?_, ?_, ?_⟩
      · unfold strV
        rw [List.length_map, sizeLine_eq]; omega
      · rw [upd_same]
        unfold strV
        rw [List.map_append]; rfl
      · rw [List.length_append]
        exact Nat.succ_le_succ hl
      · intro y hy2
        rcases List.mem_append.mp hy2 with hy2 | hy2
        · exact hy y hy2
        · rw [List.mem_singleton] at hy2
          subst hy2
          exact okc c (List.mem_of_getElem? hc)
      · constructor
        · intro z
          simp at z
        · intro z
          refine absurd (z c ?_) h7
          rw [List.take_succ, hc]
          simp
    · have h7 : c ∈ words := by
        by_cases z : c ∈ words
        · exact z
        · exact absurd (show (!decide (c ∈ words)) = true by rw [decide_eq_false z]; rfl) h7
      refine ⟨ys, g, hL, Nat.le_succ_of_le hl, hy, hq.trans ?_⟩
      rw [List.take_succ, hc]
      constructor
      · intro z d hd
        rcases List.mem_append.mp hd with hd | hd
        · exact z d hd
        · simp only [Option.toList_some, List.mem_singleton] at hd
          subst hd
          exact h7
      · exact fun z d hd => z d (List.mem_append_left _ hd)
  rintro H1 ⟨ys, g1, hL, hl, hy, hq⟩
  rw [List.take_length] at hq
  refine ⟨Nat.zero_le _, fun l0 hl0 => ?_⟩
  refine newH hl0 fun H2 g2 s2 => ?_
  refine n_data (Dp.lst (SqL.of (g2.lst hL)) (dp_strs ys)) (Dp.lst (SqL.of s2) .nil) (shp_list (lay_strs ys hy) (Nat.le_trans (dep_strs ys) (by decide))) rfl ⟨_, rfl, ite2 (fun h7 => ?_) (fun h7 => ?_)⟩
  · rw [eqv_nil] at h7
    refine fin0 _ (g1.trans g2) ?_
    rw [eN, List.all_eq_false]
    have h8 : ¬ ys = [] := fun z => by rw [z] at h7; cases h7
    rw [hq] at h8
    refine Classical.byContradiction fun z => h8 fun c hc => ?_
    by_cases y : c ∈ words
    · exact y
    · exact absurd ⟨c, hc, by simpa using y⟩ z
  have hN : isNm n = true := by
    rw [eqv_nil] at h7
    rw [eN, List.all_eq_true]
    have h8 : ys = [] := by
      cases ys with
      | nil => rfl
      | cons y yr => exact absurd rfl h7
    exact fun c hc => decide_eq_true (hq.mp h8 c hc)
  have G2 := g1.trans g2
  have hA2 := G2.ddA _ _ hA
  have hS2 := G2.seqT hS
  have hcut : cutV (.str n :: xr) (some 1) none = xr := by
    match xr, l8x with
    | [x1, x2, x3, x4, x5, x6, x7, x8], _ => rfl
  have lx : (V.str n :: xr).length = 9 := by rw [List.length_cons, l8x]
  have nos : ∀ z : HT.sIx (V.str n :: xr).length 0 (some 1) = 0 ∧ HT.sIx (V.str n :: xr).length (V.str n :: xr).length none = (V.str n :: xr).length, False := fun z => by
    rw [lx] at z
    exact absurd (show (1 : Nat) = 0 from z.1) (by decide)
  refine ⟨_, rfl, _, rfl, sl_t hS2 (fun z => (nos z).elim) fun _ p hp => ?_⟩
  rw [hcut]
  refine newH hp fun H3 g3 s3 => ?_
  refine ⟨p, rfl, ⟨_, SqT.of s3⟩, fun D3 hD3 => ?_⟩
  have G3 := G2.trans g3
  have hA3 := G3.ddA _ _ hA
  refine lc_tup (K := K) (a := p) (xs := xr) (fun i H' => ∃ ys es, Gr H3 H' ∧ H' D3 = some (.lst ys) ∧ DdAll K H3 ys es ∧ ys.length ≤ i ∧ (∀ e ∈ es, e ∈ dr) ∧ (es = [] ↔ ∀ d ∈ dr.take i, lsg d = true)) ⟨[], [], Gr.new hD3, upd_same, .nil, Nat.le_refl _, by simp, by simp⟩ ?_ ?_ ?_
  · rintro i H' _ ⟨ys, es, g, _⟩
    exact g.seqT (SqT.of s3)
  · rintro i x H' hx ⟨ys, es, g, hL, hD, hl, he, hq⟩
    have il := (List.getElem?_eq_some_iff.mp hx).1
    obtain ⟨d, hd, hdd⟩ := ddA_at hA3 hx
    refine ⟨rfl, ?_⟩
    refine ⟨_, rfl, x, d, rfl, g.dd _ _ hdd, fun H4 g4 => ⟨_, rfl, ite2 (fun h8 => ?_) (fun h8 => ?_)⟩⟩
    · have h8 : lsg d = false := by simpa using h8
      refine ⟨_, rfl, _, g4.lst hL, ?_, ys ++ [x], es ++ [d], (g.trans g4).upd' hD3, upd_same, ddA_snoc hD hdd, ?_, ?_, ?_⟩
      · rw [sizeLine_eq]; omega
      · rw [List.length_append]
        exact Nat.succ_le_succ hl
      · intro y hy2
        rcases List.mem_append.mp hy2 with hy2 | hy2
        · exact he y hy2
        · rw [List.mem_singleton] at hy2
          subst hy2
          exact List.mem_of_getElem? hd
      · constructor
        · intro z
          simp at z
        · intro z
          have q := z d (by rw [List.take_succ, hd]; simp)
          rw [h8] at q
          cases q
    · have h8 : lsg d = true := by simpa using h8
      refine ⟨ys, es, g.trans g4, g4.lst hL, hD, Nat.le_succ_of_le hl, he, hq.trans ?_⟩
      rw [List.take_succ, hd]
      constructor
      · intro z e he
        rcases List.mem_append.mp he with he | he
        · exact z e he
        · simp only [Option.toList_some, List.mem_singleton] at he
          subst he
          exact h8
      · exact fun z d hd => z d (List.mem_append_left _ hd)
  rintro H4 ⟨ys2, es, g4, hL4, hD4, _, he, hq2⟩
  rw [show xr.length = dr.length by rw [l8, l8x], List.take_length] at hq2
  refine ⟨Nat.zero_le _, fun l5 hl5 => ?_⟩
  refine newH hl5 fun H5 g5 s5 => ?_
  have cl : PyData.canLayAll0 es = true := canLayAll_of fun e h => canLayAll_mem o1 e (List.mem_cons_of_mem _ (he e h))
  have cd : PyData.depthAll es ≤ 60 := depAll_of fun e h => depAll_mem o2 e (List.mem_cons_of_mem _ (he e h))
  refine n_data (Dp.lst (SqL.of (g5.lst hL4)) (dp_ddA _ _ ((g4.trans g5).ddA _ _ hD4) cl)) (Dp.lst (SqL.of s5) .nil) (shp_list cl cd) rfl ⟨_, rfl, ite2 (fun h8 => ?_) (fun h8 => ?_)⟩
  · rw [eqv_nil] at h8
    have h9 : ¬ es = [] := fun z => by rw [z] at h8; cases h8
    rw [hq2] at h9
    have e : isFm (.tuple (.str n :: dr)) = false := by
      refine bad_sign l8 ?_ fun x hx => (o3 x (List.mem_cons_of_mem _ hx)).2
      refine Classical.byContradiction fun z => h9 fun d hd => ?_
      cases y : lsg d with
      | true => rfl
      | false => exact absurd ⟨d, hd, y⟩ z
    exact e ▸ k _ ((G3.trans g4).trans g5)
  have hall : ∀ d ∈ dr, lsg d = true := by
    rw [eqv_nil] at h8
    refine hq2.mp ?_
    cases es with
    | nil => rfl
    | cons y yr => exact absurd rfl h8
  -- only texts from here on
  have G5 := (G3.trans g4).trans g5
  have hstr : ∀ d ∈ dr, isaD "str" d = true := fun d hd => by
    have q := hall d hd
    cases d <;> first | rfl | cases q
  obtain ⟨ts, rfl, e8⟩ := strs_all hA hstr
  have lt8 : ts.length = 8 := (strsOf_len e8).trans l8
  obtain ⟨c1, c2, c3, c4, c5, c6, c7, c8, rfl⟩ : ∃ c1 c2 c3 c4 c5 c6 c7 c8, ts = [c1, c2, c3, c4, c5, c6, c7, c8] := by
    match ts, lt8 with
    | [c1, c2, c3, c4, c5, c6, c7, c8], _ => exact ⟨_, _, _, _, _, _, _, _, rfl⟩
  have np : ∀ t ∈ [c1, c2, c3, c4, c5, c6, c7, c8], t ≠ "%" ∧ (t = "" ∨ isSg t = true) := fun t ht => by
    have hm := strsOf_mem e8 t ht
    have h1 := (o3 t (List.mem_cons_of_mem _ hm)).2
    exact ⟨h1, (lsg_str h1).mp (hall _ hm)⟩
  have hS : SqT K H a (strV [n, c1, c2, c3, c4, c5, c6, c7, c8]) := hS
  have hall2 : (nonE [c1, c2, c3, c4, c5, c6, c7, c8]).all isSg = true := by
    rw [List.all_eq_true]
    intro t ht
    obtain ⟨m1, m2⟩ := List.mem_filter.mp ht
    rcases (np t m1).2 with z | z
    · exact absurd z (nEm_iff.mp m2)
    · exact z
  have eF : isFm (.tuple (.str n :: dr)) = (decide ((mets (nonE [c1, c2, c3, c4, c5, c6, c7, c8])).length = (nonE [c1, c2, c3, c4, c5, c6, c7, c8]).length) && compl c1 c2 c3 c4 c5 c6 c7 c8) := by
    show (match strsOf (.str n :: dr) with | some ts => fm9 ts | none => false) = _
    have q : strsOf (.str n :: dr) = (strsOf dr).map (n :: ·) := rfl
    rw [q, e8]
    show (isNm n && (areSg [c1, c2, c3, c4, c5, c6, c7, c8] && compl c1 c2 c3 c4 c5 c6 c7 c8)) = _
    rw [hN, Bool.true_and]
    unfold areSg
    rw [hall2, Bool.true_and]
  rw [eF] at k
  have nos5 : ∀ z : HT.sIx (strV [n, c1, c2, c3, c4, c5, c6, c7, c8]).length 0 (some 5) = 0 ∧ HT.sIx (strV [n, c1, c2, c3, c4, c5, c6, c7, c8]).length (strV [n, c1, c2, c3, c4, c5, c6, c7, c8]).length (some 8) = (strV [n, c1, c2, c3, c4, c5, c6, c7, c8]).length, False := fun z => absurd (show (5 : Nat) = 0 from z.1) (by decide)
  -- there
  refine ⟨_, rfl, _, rfl, sl_t (G5.seqT hS) (fun z => (nos z).elim) fun _ pa hpa => ?_⟩
  refine newH hpa fun H6 g6 s6 => ?_
  refine ⟨pa, rfl, ⟨_, SqT.of s6⟩, fun Da hDa => ?_⟩
  refine lc_nonE (us := [c1, c2, c3, c4, c5, c6, c7, c8]) (SqT.of s6) (by show 8 ≤ 100; decide) hDa fun H7 g7 hLa => ?_
  have G7 := (G5.trans g6).trans g7
  -- links
  refine ⟨_, rfl, _, rfl, _, rfl, sl_t (G7.seqT hS) (fun z => (nos5 z).elim) fun _ pb hpb => ?_⟩
  refine newH hpb fun H8 g8 s8 => ?_
  refine ⟨pb, rfl, ⟨_, SqT.of s8⟩, fun Db hDb => ?_⟩
  refine lc_nonE (us := [c5, c6, c7]) (SqT.of s8) (by show 3 ≤ 100; decide) hDb fun H9 g9 hLb => ?_
  have G9 := (G7.trans g8).trans g9
  refine ⟨_, _, rfl, .inl ⟨_, SqL.of hLb, rfl⟩, ?_⟩
  -- others
  refine ⟨_, rfl, _, rfl, _, rfl, sl_t (G9.seqT hS) (fun z => absurd (show (1 : Nat) = 0 from z.1) (by decide)) fun _ pc hpc => ?_⟩
  refine newH hpc fun H10 g10 s10 => ?_
  refine ⟨pc, rfl, ⟨_, SqT.of s10⟩, fun Dc hDc => ?_⟩
  refine lc_nonE (us := [c1, c2, c3, c4, c5, c6, c7]) (SqT.of s10) (by show 7 ≤ 100; decide) hDc fun H11 g11 hLc => ?_
  have G11 := (G9.trans g10).trans g11
  have hLa' := (((g8.trans g9).trans g10).trans g11).lst hLa
  -- the answer
  have ll : (nonE [c1, c2, c3, c4, c5, c6, c7, c8]).length ≤ 8 := List.length_filter_le _ _
  refine ⟨_, rfl, Da, _, rfl, SqL.of hLa', by omega, _, rfl, _, _, rfl, .inl ⟨_, SqL.of hLa', rfl⟩, e_flat rfl ⟨_, rfl, ite2 (fun b1 => ?_) (fun b1 => ?_)⟩⟩
  rotate_left
  · have b1 : decide ((mets (nonE [c1, c2, c3, c4, c5, c6, c7, c8])).length = (nonE [c1, c2, c3, c4, c5, c6, c7, c8]).length) = false := by
      rw [decide_eq_false_iff_not]
      intro z
      refine b1 (decide_eq_true ?_)
      rw [show (strV (nonE [c1, c2, c3, c4, c5, c6, c7, c8])).length = (nonE [c1, c2, c3, c4, c5, c6, c7, c8]).length from List.length_map _, z]
    rw [b1, Bool.false_and] at k
    exact k _ G11
  have b1 : decide ((mets (nonE [c1, c2, c3, c4, c5, c6, c7, c8])).length = (nonE [c1, c2, c3, c4, c5, c6, c7, c8]).length) = true := by
    rw [decide_eq_true_iff]
    have z := of_decide_eq_true b1
    injection z with z
    rw [show (strV (nonE [c1, c2, c3, c4, c5, c6, c7, c8])).length = (nonE [c1, c2, c3, c4, c5, c6, c7, c8]).length from List.length_map _] at z
    omega
  rw [b1, Bool.true_and] at k
  refine ⟨_, rfl, by show 2 ≤ sizeLine; rw [sizeLine_eq]; decide, fun pt hpt => ?_⟩
  refine newH hpt fun H12 g12 s12 => ?_
  refine in_seq (.inr (SqT.of s12)) rfl rfl ⟨_, rfl, ?_⟩
  rw [links_ok]
  have G12 := G11.trans g12
  refine ite2 (fun b2 => ?_) (fun b2 => ?_)
  rotate_left
  · have b2 : ([nEm c5, nEm c6, nEm c7].any id && !([nEm c5, nEm c6, nEm c7].all id)) = true := bt b2
    have e : compl c1 c2 c3 c4 c5 c6 c7 c8 = false := by unfold compl; rw [if_pos b2]
    rw [e] at k
    exact k _ G12
  have b2 : ([nEm c5, nEm c6, nEm c7].any id && !([nEm c5, nEm c6, nEm c7].all id)) = false := not_true_iff.mp b2
  have e : compl c1 c2 c3 c4 c5 c6 c7 c8 = decide (V.bl (nEm c8) = V.bl (nEm (Txt.join "" [c1, c2, c3, c4, c5, c6, c7]))) := by
    unfold compl
    rw [if_neg (by rw [b2]; exact Bool.false_ne_true)]
  rw [e, nEm_join] at k
  refine ⟨_, rfl, x_t (G12.seqT hS) (atI_nat (j := 8) rfl) (n_flat rfl ⟨_, rfl, Nat.zero_le _, fun l6 hl6 => ?_⟩)⟩
  refine newH hl6 fun H13 g13 s13 => ?_
  have okT : ∀ t ∈ nonE [c1, c2, c3, c4, c5, c6, c7], PyData.canLay0 (.str t) = true := fun t ht => by
    have m1 := (List.mem_filter.mp ht).1
    have m2 : t ∈ [c1, c2, c3, c4, c5, c6, c7, c8] := List.mem_append_left [c8] m1
    exact canLayAll_mem o1 _ (List.mem_cons_of_mem _ (strsOf_mem e8 t m2))
  refine n_data (Dp.lst (SqL.of ((g12.trans g13).lst hLc)) (dp_strs _)) (Dp.lst (SqL.of s13) .nil) (shp_list (lay_strs _ okT) (Nat.le_trans (dep_strs _) (by decide))) rfl (e_flat rfl ?_)
  rw [eqv_nil, nonE_isEmpty]
  exact k _ (G12.trans g13)
end
end Vf
end
section
set_option Elab.async false
set_option linter.all false
set_option maxRecDepth 100000
set_option maxHeartbeats 4000000
namespace Vf
open PySem PySem.Spec PyProof.Rows L2 GxR GenW RZ
/-! ### the things that the law asks -/
structure Small (e : PyData) : Prop where
  sh : e.showable = true
  dp : e.depth ≤ 2
  ln : e.shown.length ≤ 300
  cl : e.canLay0 = true
  st : ∀ x, e = .str x → x.length ≤ 20 ∧ x ≠ "%"
theorem Small.str {x : Str} (h1 : x.length ≤ 20) (h2 : PyData.canLay0 (.str x) = true) (h3 : x ≠ "%") : Small (.str x) := by
  refine ⟨by simp only [PyData.showable], by simp only [PyData.depth]; omega, ?_, h2, fun y e => by cases e; exact ⟨h1, h3⟩⟩
  have q := StrLaws.reprText_len x fun c hc => by
    simp only [PyData.canLay0, PyData.strOk] at h2
    rw [← Array.all_toList] at h2
    have q2 := List.all_eq_true.mp h2 c hc
    have q3 : c < 0x110000 := by simpa using q2
    omega
  simp only [PyData.shown]
  omega
theorem Small.non : Small .none := ⟨by simp only [PyData.showable], by simp only [PyData.depth]; omega, by simp only [PyData.shown]; decide, by simp only [PyData.canLay0], fun y e => by cases e⟩
theorem Small.bl (b : Bool) : Small (.bool b) := ⟨by simp only [PyData.showable], by simp only [PyData.depth]; omega, by simp only [PyData.shown]; cases b <;> decide, by simp only [PyData.canLay0], fun y e => by cases e⟩
theorem Small.zero : Small (.int 0) := ⟨by simp only [PyData.showable]; decide, by simp only [PyData.depth]; omega, by simp only [PyData.shown]; decide, by simp only [PyData.canLay0], fun y e => by cases e⟩
theorem Small.tup0 : Small (.tuple []) := ⟨rfl, by simp only [PyData.depth, PyData.depthAll]; omega, by simp only [PyData.shown, PyData.shownAll]; decide, rfl, fun y e => by cases e⟩
theorem Small.star : Small (.list [.str "*"]) := ⟨rfl, by simp only [PyData.depth, PyData.depthAll]; omega, by simp only [PyData.shown, PyData.shownAll]; decide +kernel, by simp only [PyData.canLay0, PyData.canLayAll0, PyData.strOk]; decide +kernel, fun y e => by cases e⟩
structure Good (d : PyData) : Prop where
  sh : d.showable = true
  dp : d.depth < 60
  ln : d.shown.length ≤ sizeLine
  cl : d.canLay0 = true
  due : DueOk d
theorem Good.hd {d : PyData} (h : Good d) : d.hasDict = true → noLst d = true := fun z => by
  rw [PyData.hasDict_of_canLay d h.cl] at z
  cases z
theorem showAll_of : ∀ {ds : List PyData}, (∀ d ∈ ds, d.showable = true) → PyData.showableAll ds = true
  | [], _ => rfl
  | d :: ds, h => by
    show (PyData.showable d && PyData.showableAll ds) = true
    rw [h d List.mem_cons_self, showAll_of fun e he => h e (List.mem_cons_of_mem _ he)]; rfl
theorem shownAll_sum {k : Nat} : ∀ {ds : List PyData}, (∀ d ∈ ds, d.shown.length ≤ k) → ((PyData.shownAll ds).map fun x => x.length).sum ≤ ds.length * k ∧ (PyData.shownAll ds).length = ds.length
  | [], _ => ⟨Nat.zero_le _, rfl⟩
  | d :: ds, h => by
    obtain ⟨h1, h2⟩ := shownAll_sum fun e he => h e (List.mem_cons_of_mem _ he)
    have h3 := h d List.mem_cons_self
    refine ⟨?_, by show (PyData.shownAll ds).length + 1 = _; rw [h2]; rfl⟩
    show d.shown.length + ((PyData.shownAll ds).map fun x => x.length).sum ≤ (ds.length + 1) * k
    rw [Nat.add_mul]
    omega
theorem Good.tup {ds : List PyData} (hl : ds.length ≤ 20) (h : ∀ e ∈ ds, Small e) : Good (.tuple ds) := by
  have hd := depAll_of (k := 2) fun e he => (h e he).dp
  have hc : PyData.canLayAll0 ds = true := canLayAll_of fun e he => (h e he).cl
  obtain ⟨h1, h2⟩ := shownAll_sum (k := 300) fun e he => (h e he).ln
  have h3 : ds.length * 300 ≤ 6000 := by omega
  refine ⟨?_, by simp only [PyData.depth]; omega, ?_, hc, fun es e => ?_⟩
  · simp only [PyData.showable]
    exact showAll_of fun e he => (h e he).sh
  · simp only [PyData.shown]
    have q := tupleText_len_le (PyData.shownAll ds)
    rw [sizeLine_eq]
    omega
  · cases e
    refine ⟨hc, by omega, fun x hx => ?_⟩
    obtain ⟨a, b⟩ := (h _ hx).st x rfl
    exact ⟨by omega, b⟩
theorem Good.lst {ds : List PyData} (hl : ds.length ≤ 20) (h : ∀ e ∈ ds, Small e) : Good (.list ds) := by
  have hd := depAll_of (k := 2) fun e he => (h e he).dp
  have hc : PyData.canLayAll0 ds = true := canLayAll_of fun e he => (h e he).cl
  obtain ⟨h1, h2⟩ := shownAll_sum (k := 300) fun e he => (h e he).ln
  have h3 : ds.length * 300 ≤ 6000 := by omega
  refine ⟨?_, by simp only [PyData.depth]; omega, ?_, hc, fun es e => by cases e⟩
  · simp only [PyData.showable]
    exact showAll_of fun e he => (h e he).sh
  · simp only [PyData.shown]
    have q := listText_len_le (PyData.shownAll ds)
    rw [sizeLine_eq]
    omega
theorem Small.good {d : PyData} (h : Small d) (hn : ∀ ds, d ≠ .tuple ds) : Good d := by
  have := h.dp
  have := h.ln
  exact ⟨h.sh, by omega, by rw [sizeLine_eq]; omega, h.cl, fun ds e => absurd e (hn ds)⟩
/-! ### heaps without some objects -/
def Wo (S : List Addr) (H : Hp) : Hp := fun b => if b ∈ S then none else H b
theorem wo_gr (S : List Addr) (H : Hp) : Gr (Wo S H) H := fun b o e => by
  unfold Wo at e
  split at e
  · cases e
  · exact .inl e
theorem wo_some {S : List Addr} {H : Hp} {b : Addr} {o : HO} (h : b ∉ S) (e : H b = some o) : Wo S H b = some o := by
  unfold Wo
  rw [if_neg h]
  exact e
theorem Gr.wo {H H' : Hp} (g : Gr H H') (S : List Addr) : Gr (Wo S H) (Wo S H') := fun b o e => by
  unfold Wo at e ⊢
  split at e
  · cases e
  · rename_i h
    rw [if_neg h]
    exact g b o e
theorem GrU.wo {u : Addr} {H H' : Hp} (g : GrU u H H') {S : List Addr} (hu : u ∈ S) : Gr (Wo S H) (Wo S H') := fun b o e => by
  unfold Wo at e ⊢
  split at e
  · cases e
  · rename_i h
    rw [if_neg h]
    exact g b o (fun z => h (z ▸ hu)) e
theorem wo_upd {S : List Addr} {H : Hp} {D : Addr} {o : HO} (h : D ∈ S) : Wo S (upd H D o) = Wo S H := by
  funext b
  unfold Wo
  split
  · rfl
  · rename_i hb
    exact upd_ne fun z => hb (z ▸ h)
theorem wo_more {u D : Addr} {H : Hp} {o : HO} (h : H D = none) : Gr (Wo [u] H) (Wo [u, D] (upd H D o)) := fun b w e => by
  unfold Wo at e ⊢
  split at e
  · cases e
  · rename_i hb
    have n : b ≠ D := ne_of_none e h
    rw [if_neg (by
      intro z
      rcases List.mem_cons.mp z with z | z
      · exact hb (by rw [z]; exact List.mem_cons_self)
      · exact n (List.mem_singleton.mp z)), upd_ne n]
    exact .inl e
theorem a_ttW {K : PySem.W.Frag} {S : List Addr} {H : Hp} {Q : VK} {a b : Addr} {xs ys : List V} (h1 : SqT K (Wo S H) a xs) (h2 : SqT K (Wo S H) b ys) (h : xs.length + ys.length ≤ sizeLine) (hs : ∀ p, H p = none → p ∉ S)
    (q : ∀ p H', Gr H H' → SqT K (Wo S H') p (xs ++ ys) → Q (.ref p) H') : rAdd K (.ref a) (.ref b) H Q := by
  refine a_tt ((wo_gr S H).seqT h1) ((wo_gr S H).seqT h2) h (fun z => ?_) (fun _ z => ?_) (fun _ _ p hp => ?_)
  · subst z
    exact q b H (Gr.refl H) h2
  · subst z
    rw [List.append_nil] at q
    exact q a H (Gr.refl H) h1
  · exact newH hp fun H1 g1 s1 => q p H1 g1 (SqT.of (wo_some (hs p hp) s1))
theorem dd_strs {K : PySem.W.Frag} {H : Hp} : ∀ ts : List Str, DdAll K H (strV ts) (ts.map PyData.str)
  | [] => .nil
  | z :: zs => .cons (.str z) (dd_strs zs)
theorem ddA_app {K : PySem.W.Frag} {H : Hp} : ∀ {xs ys : List V} {ds es : List PyData}, DdAll K H xs ds → DdAll K H ys es → DdAll K H (xs ++ ys) (ds ++ es)
  | _, _, [], _, h, k => by cases h; exact k
  | _, _, _ :: _, _, h, k => by
    cases h with
    | cons a b => exact .cons a (ddA_app b k)
end Vf
end
section
set_option Elab.async false
set_option linter.all false
set_option maxRecDepth 100000
set_option maxHeartbeats 4000000
set_option pp.maxSteps 3000
namespace Vf
open PySem PySem.Spec PyProof.Rows L2 GxR GenW RZ
abbrev s_law : Stmt := top 42
abbrev n_law : List Str := ["script", "urn", "small", "signs", "sign", "things", "turn", "features", "form", "again", "place", "odd", "thing", "before"]
abbrev p_law : List Str := ["script"]
theorem sc_law : FnScope n_law p_law (defScope s_law) := ⟨rfl, rfl, rfl, by decide +kernel, rfl, by decide +kernel, by decide +kernel⟩

def spLaw (K : PySem.W.Frag) : Sp := fun vs H Q _ => ∃ (a : Addr) (ns : List Int), vs = [.ref a] ∧ SqL K H a (ns.map V.int) ∧ ns.length ≤ 63 ∧ TabG H (tb K "is_form") ∧ TabG H (tb K "is_form_name") ∧ TabG H (tb K "are_signs") ∧ ∀ H', Q (.bl true) H'
theorem nin2 {p u D : Addr} (h : p ∉ [u]) (n : p ≠ D) : p ∉ [u, D] := fun z => by
  rcases List.mem_cons.mp z with z | z
  · exact h (by rw [z]; exact List.mem_cons_self)
  · exact n (List.mem_singleton.mp z)
theorem wo_sub {S S' : List Addr} (h : ∀ b, b ∈ S' → b ∈ S) (H : Hp) : Gr (Wo S H) (Wo S' H) := fun b o e => by
  unfold Wo at e ⊢
  split at e
  · cases e
  · rename_i hb
    rw [if_neg fun z => hb (h b z)]
    exact .inl e
theorem GrU.tabG {u c P : Addr} {H H' : Hp} (g : GrU u H H') (hu : Urn c H u) (h : TabG H P) : TabG H' P := by
  obtain ⟨ps, h1, t1⟩ := h
  have n : P ≠ u := by
    rintro rfl
    obtain ⟨_, _, _, _, h2, _⟩ := hu
    rw [h1] at h2
    cases h2
  rcases g P _ n h1 with q | ⟨qs, more, e, q, t⟩
  · exact ⟨ps, q, t1⟩
  · cases e
    exact ⟨_, q, t t1⟩
theorem tabG_upd {H : Hp} {P D : Addr} {xs : List V} {o : HO} (h : TabG H P) (hD : H D = some (.lst xs)) : TabG (upd H D o) P := by
  obtain ⟨ps, h1, t1⟩ := h
  have n : P ≠ D := by
    rintro rfl
    rw [h1] at hD
    cases hD
  exact ⟨ps, by rw [upd_ne n]; exact h1, t1⟩
def okS (x : Str) : Bool := decide (x.length ≤ 20) && (PyData.canLay0 (.str x) && !decide (x = "%"))
theorem okS_small {x : Str} (h : okS x = true) : Small (.str x) := by
  unfold okS at h
  rw [Bool.and_eq_true, Bool.and_eq_true] at h
  exact Small.str (of_decide_eq_true h.1) h.2.1 (by simpa using h.2.2)
def az : Str := "abcdefghijklmnopqrstuvwxyz"
def L1 : List Str := sS (az ++ Txt.upper az ++ "0123456789 ") ++ allS
def L2_ : List Str := sS (az ++ Txt.upper az ++ "0123456789 _")
theorem L1_ok : L1.all okS = true := by decide +kernel
theorem L1_len : L1.length ≤ 100 := by decide +kernel
theorem L2_ok : L2_.all okS = true := by decide +kernel
theorem L2_len : L2_.length ≤ 100 := by decide +kernel
theorem allS_ok : allS.all okS = true := by decide +kernel
theorem allS_len : allS.length = 31 := by decide +kernel
theorem small_strs {ts : List Str} (h : ts.all okS = true) : ∀ e ∈ ts.map PyData.str, Small e := fun e he => by
  obtain ⟨t, ht, rfl⟩ := List.mem_map.mp he
  exact okS_small (List.all_eq_true.mp h t ht)
theorem L2a_ok : L2_.all (fun t => okS ("a" ++ t) && decide (t.length ≤ 20)) = true := by decide +kernel
def P8 : List Str := ["", "", "", "", "", "", "", ""]
def PL : List Str := ["plain", "", "", "", "", "", "", "", ""]
theorem PL_ok : PL.all okS = true := by decide +kernel
theorem dd_zeros {K : PySem.W.Frag} {H : Hp} : DdAll K H (List.replicate (9 : Int).toNat [V.int 0]).flatten (List.replicate 9 (.int 0)) :=
  .cons (.int 0) (.cons (.int 0) (.cons (.int 0) (.cons (.int 0) (.cons (.int 0) (.cons (.int 0) (.cons (.int 0) (.cons (.int 0) (.cons (.int 0) .nil))))))))
theorem good_strsT {ts : List Str} (hl : ts.length ≤ 20) (h : ts.all okS = true) : Good (.tuple (ts.map PyData.str)) := Good.tup (by rw [List.length_map]; exact hl) (small_strs h)
theorem good_strsL {ts : List Str} (hl : ts.length ≤ 20) (h : ts.all okS = true) : Good (.list (ts.map PyData.str)) := Good.lst (by rw [List.length_map]; exact hl) (small_strs h)
theorem thereL_pick : ∀ b1 b2 b3 b4 b5 : Bool, thereL (pickF [b1, b2, b3, b4, b5]) = [b1, b2, b4, b5, b3, b3, b3, b1 || b2 || b3 || b4 || b5] := by decide +kernel
theorem nEm_mkS {p : Str} {b : Bool} (h : nEm p = true) : nEm (mkS (p, b)) = b := by
  cases b with
  | true => exact h
  | false => rfl
theorem carr_mask {bs : List Bool} {ps : List Str} (hb : bs.length = 5) (hp : ps.length = 8) (hn : ∀ p ∈ ps, nEm p = true) :
    ∃ c1 c2 c3 c4 c5 c6 c7 c8, mask (pickF bs) ps = [c1, c2, c3, c4, c5, c6, c7, c8] ∧ carr c1 c2 c5 c3 c4 = pickF bs := by
  match bs, hb, ps, hp, hn with
  | [b1, b2, b3, b4, b5], _, [p1, p2, p3, p4, p5, p6, p7, p8], _, hn =>
    refine ⟨mkS (p1, b1), mkS (p2, b2), mkS (p3, b4), mkS (p4, b5), mkS (p5, b3), mkS (p6, b3), mkS (p7, b3), mkS (p8, b1 || b2 || b3 || b4 || b5), ?_, ?_⟩
    · unfold mask
      rw [thereL_pick]; rfl
    · have h1 := nEm_mkS (b := b1) (hn p1 (by simp))
      have h2 := nEm_mkS (b := b2) (hn p2 (by simp))
      have h5 := nEm_mkS (b := b3) (hn p5 (by simp))
      have h3 := nEm_mkS (b := b4) (hn p3 (by simp))
      have h4 := nEm_mkS (b := b5) (hn p4 (by simp))
      unfold carr pickF F5
      simp only [List.zip_cons_cons, List.zip_nil_right, List.filterMap_cons, List.filterMap_nil, h1, h2, h3, h4, h5]
theorem pickF_ok : ∀ {bs : List Bool}, bs.length = 5 → (pickF bs).all okS = true := by
  intro bs hb
  match bs, hb with
  | [b1, b2, b3, b4, b5], _ => revert b1 b2 b3 b4 b5; decide +kernel
theorem mask_ok {fs ps : List Str} (h : ∀ p ∈ ps, okS p = true) : (mask fs ps).all okS = true := by
  rw [List.all_eq_true]
  intro z hz
  obtain ⟨⟨p, b⟩, hp, rfl⟩ := List.mem_map.mp hz
  have hm := (List.of_mem_zip hp).1
  cases b with
  | true => exact h p hm
  | false => exact (by decide +kernel : okS "" = true)
theorem allS_nE : allS.all nEm = true := by decide +kernel
theorem okS_lay {x : Str} (h : okS x = true) : PyData.canLay0 (.str x) = true := (okS_small h).cl
def NM : List Str := ["f", "star", "abcdefg8", "x1"]
theorem NM_ok : NM.all okS = true := by decide +kernel
theorem Good.four {d : PyData} (h : Good d) : d.showable = true ∧ (d.hasDict = true → noLst d = true) ∧ d.depth < 60 ∧ d.shown.length ≤ sizeLine := ⟨h.sh, h.hd, h.dp, h.ln⟩
theorem ddA_mem {K : PySem.W.Frag} {H : Hp} {xs : List V} {ds : List PyData} {x : V} (h : DdAll K H xs ds) (hx : x ∈ xs) : ∃ d ∈ ds, Dd K H x d := by
  obtain ⟨i, hi⟩ := List.getElem?_of_mem hx
  obtain ⟨d, e, q⟩ := ddA_at h hi
  exact ⟨d, List.mem_of_getElem? e, q⟩
theorem cut_strs (fm : List Str) (lo hi : Option Int) : ∃ ts, cutV (strV fm) lo hi = strV ts ∧ (∀ t ∈ ts, t ∈ fm) ∧ ts.length ≤ fm.length := by
  unfold cutV strV
  rw [← List.map_drop, ← List.map_take]
  refine ⟨_, rfl, fun t ht => List.mem_of_mem_drop (List.mem_of_mem_take ht), ?_⟩
  rw [List.length_take, List.length_drop]
  omega
theorem sl_tW {K : PySem.W.Frag} {S : List Addr} {H : Hp} {Q : VK} {a : Addr} {fm : List Str} {lo hi : Option Int} (h1 : SqT K (Wo S H) a (strV fm)) (hs : ∀ p, H p = none → p ∉ S)
    (q : ∀ p H' ts, Gr H H' → SqT K (Wo S H') p (strV ts) → (∀ t ∈ ts, t ∈ fm) → ts.length ≤ fm.length → Q (.ref p) H') : rSlU K (.ref a) lo hi H Q := by
  refine sl_t ((wo_gr S H).seqT h1) (fun _ => q a H fm (Gr.refl H) h1 (fun _ z => z) (Nat.le_refl _)) (fun _ p hp => ?_)
  obtain ⟨ts, e, m, l⟩ := cut_strs fm lo hi
  rw [e]
  exact newH hp fun H1 g1 s1 => q p H1 ts g1 (SqT.of (wo_some (hs p hp) s1)) m l
def E8 : List Str := ["a", "A", "0", " ", "", "\n", "\t", "**"]
def E4 : List Str := ["abcdefghi", "1a", "aB", "a_"]
theorem E8_ok : E8.all okS = true := by decide +kernel
theorem E4_ok : E4.all okS = true := by decide +kernel
theorem al31 : (strV allS).length = 31 := (List.length_map _).trans allS_len
theorem okE : okS "" = true := by decide +kernel
theorem okF : okS "f" = true := by decide +kernel
theorem okX : okS "!" = true := by decide +kernel
/-- a list of things that may be asked -/
def Th (K : PySem.W.Frag) (S : List Addr) (H : Hp) (xs : List V) : Prop := ∃ ds, DdAll K (Wo S H) xs ds ∧ ∀ d ∈ ds, Good d
theorem Th.nil {K : PySem.W.Frag} {S : List Addr} {H : Hp} : Th K S H [] := ⟨[], .nil, by simp⟩
theorem Th.gr {K : PySem.W.Frag} {S S' : List Addr} {H H' : Hp} {xs : List V} (t : Th K S H xs) (g : Gr (Wo S H) (Wo S' H')) : Th K S' H' xs := by
  obtain ⟨ds, a, b⟩ := t
  exact ⟨ds, g.ddA _ _ a, b⟩
theorem Th.upd {K : PySem.W.Frag} {S : List Addr} {H : Hp} {xs : List V} {D : Addr} {o : HO} (h : D ∈ S) (t : Th K S H xs) : Th K S (upd H D o) xs := by
  unfold Th
  rw [wo_upd h]
  exact t
theorem Th.snoc {K : PySem.W.Frag} {S : List Addr} {H : Hp} {xs : List V} {x : V} {d : PyData} (t : Th K S H xs) (h : Dd K (Wo S H) x d) (g : Good d) : Th K S H (xs ++ [x]) := by
  obtain ⟨ds, a, b⟩ := t
  refine ⟨ds ++ [d], ddA_snoc a h, fun e he => ?_⟩
  rcases List.mem_append.mp he with he | he
  · exact b e he
  · rw [List.mem_singleton] at he
    exact he ▸ g
theorem Th.app {K : PySem.W.Frag} {S : List Addr} {H : Hp} {xs ys : List V} (t : Th K S H xs) (t2 : Th K S H ys) : Th K S H (xs ++ ys) := by
  obtain ⟨ds, a, b⟩ := t
  obtain ⟨es, a2, b2⟩ := t2
  refine ⟨ds ++ es, ddA_app a a2, fun e he => ?_⟩
  rcases List.mem_append.mp he with he | he
  · exact b e he
  · exact b2 e he
theorem Th.cons {K : PySem.W.Frag} {S : List Addr} {H : Hp} {xs : List V} {x : V} {d : PyData} (h : Dd K (Wo S H) x d) (g : Good d) (t : Th K S H xs) : Th K S H (x :: xs) := by
  obtain ⟨ds, a, b⟩ := t
  refine ⟨d :: ds, .cons h a, fun e he => ?_⟩
  rcases List.mem_cons.mp he with rfl | he
  · exact g
  · exact b e he
/-- what stays in the loops -/
structure St (K : PySem.W.Frag) (c u D : Addr) (H : Hp) (zs : List V) : Prop where
  t1 : TabG H (tb K "is_form")
  t2 : TabG H (tb K "is_form_name")
  t3 : TabG H (tb K "are_signs")
  hu : Urn c H u
  hD : H D = some (.lst zs)
  th : Th K [u, D] H zs
  du : D ≠ u
  dc : D ≠ c
section
variable {K : PySem.W.Frag} {c u D : Addr} {H H' : Hp} {zs : List V}
theorem St.gr (h : St K c u D H zs) (g : Gr H H') : St K c u D H' zs := ⟨g.tabG h.t1, g.tabG h.t2, g.tabG h.t3, h.hu.gr g, g.lst h.hD, h.th.gr (g.wo _), h.du, h.dc⟩
theorem St.gru (h : St K c u D H zs) (g : GrU u H H') (hu : Urn c H' u) : St K c u D H' zs := ⟨g.tabG h.hu h.t1, g.tabG h.hu h.t2, g.tabG h.hu h.t3, hu, g.keep h.du h.hD (fun _ z => by cases z), h.th.gr (g.wo (by simp)), h.du, h.dc⟩
theorem St.push (h : St K c u D H zs) {x : V} {d : PyData} (hx : Dd K (Wo [u, D] H) x d) (g : Good d) : St K c u D (upd H D (.lst (zs ++ [x]))) (zs ++ [x]) :=
  ⟨tabG_upd h.t1 h.hD, tabG_upd h.t2 h.hD, tabG_upd h.t3 h.hD, h.hu.updD h.du h.dc, upd_same, Th.upd (by simp) (h.th.snoc hx g), h.du, h.dc⟩
theorem St.new (h : St K c u D H zs) {p : Addr} (hp : H p = none) : p ∉ [u, D] := nin2 (fun z => h.hu.ou hp (List.mem_singleton.mp z)) (Ne.symm (ne_of_none h.hD hp))
end
section
variable {P : Program} {w : World} {K : PySem.W.Frag} {mg : Str → Option Value} {base : Heap}
theorem ok_law {fd : FuncData} (F : FnP K "law" s_law fd) (T : TY K mg) (D__law_urn_of : Df P w K mg base "_law_urn_of" 1 p__law_urn_of (spUrnOf K)) (D__law_all_signs : Df P w K mg base "_law_all_signs" 1 p__law_all_signs spAll)
    (D__law_some_set : Df P w K mg base "_law_some_set" 3 p__law_some_set (spSomeSet K)) (D__law_some_form : Df P w K mg base "_law_some_form" 3 p__law_some_form (spSomeForm K)) (D__law_choice : Df P w K mg base "_law_choice" 3 p__law_choice (spChoice K))
    (D__law_upto : Df P w K mg base "_law_upto" 2 p__law_upto spUpto) (D__law_equal : DfG P w K mg base "_law_equal" 1 p__law_equal (spEqual K)) (D_carried : Df P w K mg base "carried" 1 p_carried (spCarried K))
    (D_is_form : Df P w K mg base "is_form" 4 p_is_form (spIsForm K)) (D__law_due : Df P w K mg base "_law_due" 3 p__law_due (spDue K)) : FnG P w K mg base CX0 5 (He.fAd K ("law", none)) fd p_law (spLaw K) := by
  refine okQ F sc_law (fun vs H Q E h => by obtain ⟨a, ns, rfl, _⟩ := h; rfl) (fun A outer s H vs Q E hgu hr h => ?_)
  obtain ⟨a, ns, rfl, hS, hl, t1, t2, t3, k⟩ := h
  obtain ⟨aP, m_PLAIN, sP⟩ := T.c_PLAIN
  refine ⟨_, (pss_cons (ps_set (i := 1) sc_law.nd rfl (by first | exact Or.inl rfl | exact Or.inr rfl) (pe_fn D__law_urn_of hr (by decide) rfl (pa_cons (pv 0) pa_nil)))
      (pss_cons (ps_set (i := 2) sc_law.nd rfl (by first | exact Or.inl rfl | exact Or.inr rfl) pe_str)
      (pss_cons (ps_set (i := 3) sc_law.nd rfl (by first | exact Or.inl rfl | exact Or.inr rfl) (pe_op (u_add (K := K) rfl) (pe_callTy (call_listU (K := K) rfl rfl) rfl T.b_list (by decide +kernel) (pa_cons (pe_op (u_add (K := K) rfl) (pe_op (u_add (K := K) rfl) (pv 2) (pe_upper (pv 2))) pe_str) pa_nil)) (pe_fn0 D__law_all_signs hr (by decide) rfl)))
      (pss_cons (ps_setLc (i := 5) (own := [("sign", 4)]) (g := gName 4) (tt := tYes) rfl sc_law.nd rfl rfl (sw_true rfl rfl rfl (by decide +kernel)) (k_list (K := K) rfl (pv 3)) (blkOk_by (own := [("sign", 4)]) (N := n_law) (sc := defScope s_law) (by decide +kernel)) (fun _ _ _ _ _ => (pg_name (i := 4) sc_law.nd rfl (by first | exact Or.inl rfl | exact Or.inr rfl))) (fun _ _ _ _ _ => pts_nil) (fun _ _ _ _ _ => (pe_tup (pa_cons pe_str (pa_cons pe_str (pa_cons pe_str (pa_cons (pv 4) (pa_cons pe_str (pa_cons pe_str (pa_cons pe_str (pa_cons pe_str (pa_cons pe_str pa_nil))))))))))))
      (pss_cons (ps_for PassesOwn.never rfl (k_list (K := K) rfl (pe_callTy (call_listU (K := K) rfl rfl) rfl T.b_list (by decide +kernel) (pa_cons (pe_op (u_add (K := K) rfl) (pe_op (u_add (K := K) rfl) (pv 2) (pe_upper (pv 2))) pe_str) pa_nil))) (pg_name (i := 4) sc_law.nd rfl (by first | exact Or.inl rfl | exact Or.inr rfl))
      (pss_one (ps_set (i := 5) sc_law.nd rfl (by first | exact Or.inl rfl | exact Or.inr rfl) (pe_op (u_add (K := K) rfl) (pv 5) (pe_lst (pa_cons (pe_op (u_add (K := K) rfl) (pe_tup (pa_cons (pv 4) pa_nil)) (pe_slice (u_sl (K := K) rfl) (pe_ref rfl m_PLAIN) (po_some pe_int) po_none)) (pa_cons (pe_op (u_add (K := K) rfl) (pe_tup (pa_cons (pe_op (u_add (K := K) rfl) pe_str (pv 4)) pa_nil)) (pe_slice (u_sl (K := K) rfl) (pe_ref rfl m_PLAIN) (po_some pe_int) po_none)) pa_nil)))))))
      (pss_cons (ps_set (i := 5) sc_law.nd rfl (by first | exact Or.inl rfl | exact Or.inr rfl) (pe_op (u_add (K := K) rfl) (pv 5) (pe_lst (pa_cons (pe_ref rfl m_PLAIN) (pa_cons pe_non (pa_cons (pe_tup pa_nil) (pa_cons pe_str (pa_cons (pe_callTy (call_listU (K := K) rfl rfl) rfl T.b_list (by decide +kernel) (pa_cons (pe_ref rfl m_PLAIN) pa_nil)) (pa_cons (pe_slice (u_sl (K := K) rfl) (pe_ref rfl m_PLAIN) po_none (po_some pe_int)) (pa_cons (pe_op (u_add (K := K) rfl) (pe_ref rfl m_PLAIN) (pe_tup (pa_cons pe_str pa_nil))) (pa_cons (pe_op (u_add (K := K) rfl) (pe_slice (u_sl (K := K) rfl) (pe_ref rfl m_PLAIN) po_none (po_some pe_int)) (pe_tup (pa_cons pe_str pa_nil))) (pa_cons (pe_op (u_mul (K := K) rfl) (pe_tup (pa_cons pe_int pa_nil)) pe_int) pa_nil))))))))))))
      (pss_cons (ps_for PassesOwn.never rfl (pi_range1 rfl T.b_range (pa_cons pe_int pa_nil)) (pg_name (i := 6) sc_law.nd rfl (by first | exact Or.inl rfl | exact Or.inr rfl))
      (pss_cons (ps_set (i := 7) sc_law.nd rfl (by first | exact Or.inl rfl | exact Or.inr rfl) (pe_fn D__law_some_set hr (by decide) rfl (pa_cons (pv 1) pa_nil)))
      (pss_cons (ps_set (i := 8) sc_law.nd rfl (by first | exact Or.inl rfl | exact Or.inr rfl) (pe_fn D__law_some_form hr (by decide) rfl (pa_cons (pv 1) (pa_cons (pe_fn D__law_choice hr (by decide) rfl (pa_cons (pv 1) (pa_cons (pe_lst (pa_cons pe_str (pa_cons pe_str (pa_cons pe_str (pa_cons pe_str pa_nil))))) pa_nil))) (pa_cons (pv 7) pa_nil)))))
      (pss_cons (ps_if (pt_not (pt_val (pe_fnG hgu D__law_equal hr (by decide) rfl (pa_cons (pe_fn D_carried hr (by decide) rfl (pa_cons (pv 8) pa_nil)) (pa_cons (pv 7) pa_nil)))))
      (pss_one (ps_ret pe_bl))
      pss_nil)
      (pss_cons (ps_expr (k_bm (K := K) rfl PySem.F.plainAttrs_list PySem.F.slot_list_append PySem.F.type_list_append mt_append (pv 5) (pa_cons (pv 8) pa_nil)))
      (pss_one (ps_for PassesOwn.never rfl (pi_range1 rfl T.b_range (pa_cons pe_int pa_nil)) (pg_name (i := 9) sc_law.nd rfl (by first | exact Or.inl rfl | exact Or.inr rfl))
      (pss_cons (ps_set (i := 10) sc_law.nd rfl (by first | exact Or.inl rfl | exact Or.inr rfl) (pe_fn D__law_upto hr (by decide) rfl (pa_cons (pv 1) (pa_cons pe_int pa_nil))))
      (pss_cons (ps_set (i := 11) sc_law.nd rfl (by first | exact Or.inl rfl | exact Or.inr rfl) (pe_op (u_add (K := K) rfl) (pe_op (u_add (K := K) rfl) (pe_lst (pa_cons pe_non (pa_cons pe_int (pa_cons pe_bl (pa_cons pe_str (pa_cons pe_str (pa_cons pe_str (pa_cons pe_str (pa_cons pe_str (pa_cons pe_str (pa_cons pe_str (pa_cons pe_str (pa_cons (pe_tup pa_nil) (pa_cons (pe_lst (pa_cons pe_str pa_nil)) pa_nil)))))))))))))) (pe_fn0 D__law_all_signs hr (by decide) rfl)) (pe_callTy (call_listU (K := K) rfl rfl) rfl T.b_list (by decide +kernel) (pa_cons (pv 8) pa_nil))))
      (pss_cons (ps_set (i := 11) sc_law.nd rfl (by first | exact Or.inl rfl | exact Or.inr rfl) (pe_op (u_add (K := K) rfl) (pv 11) (pe_lst (pa_cons pe_str (pa_cons pe_str (pa_cons pe_str (pa_cons pe_str pa_nil)))))))
      (pss_one (ps_expr (k_bm (K := K) rfl PySem.F.plainAttrs_list PySem.F.slot_list_append PySem.F.type_list_append mt_append (pv 5) (pa_cons (pe_op (u_add (K := K) rfl) (pe_op (u_add (K := K) rfl) (pe_slice (u_sl (K := K) rfl) (pv 8) po_none (po_some (pv 10))) (pe_tup (pa_cons (pe_fn D__law_choice hr (by decide) rfl (pa_cons (pv 1) (pa_cons (pv 11) pa_nil))) pa_nil))) (pe_slice (u_sl (K := K) rfl) (pv 8) (po_some (pe_op (u_add (K := K) rfl) (pv 10) pe_int)) po_none)) pa_nil))))))))))))))
      (pss_cons (ps_for PassesOwn.never rfl (k_list (K := K) rfl (pv 5)) (pg_name (i := 12) sc_law.nd rfl (by first | exact Or.inl rfl | exact Or.inr rfl))
      (pss_cons (ps_set (i := 13) sc_law.nd rfl (by first | exact Or.inl rfl | exact Or.inr rfl) (pe_callB (call_reprD hgu hr.units) rfl T.b_repr (by decide +kernel) (pa_cons (pv 12) pa_nil)))
      (pss_one (ps_if (PW.pt (pw_or (pt_not (pt_val (pe_fnG hgu D__law_equal hr (by decide) rfl (pa_cons (pe_fn D_is_form hr (by decide) rfl (pa_cons (pv 12) pa_nil)) (pa_cons (pe_fn D__law_due hr (by decide) rfl (pa_cons (pv 12) pa_nil)) pa_nil))))) (pw_or1 (pt_cmpR (u_ne (K := K) rfl hr.units) (pe_callB (call_reprD hgu hr.units) rfl T.b_repr (by decide +kernel) (pa_cons (pv 12) pa_nil)) (pv 13) (nomark _)))))
      (pss_one (ps_ret pe_bl))
      pss_nil))))
      (pss_one (ps_ret (pe_cmpR (u_eq (K := K) rfl hr.units) (pe_fn D_carried hr (by decide) rfl (pa_cons (pe_ref rfl m_PLAIN) pa_nil)) (pe_tup pa_nil) (nomark _)))))))))))), ?_⟩
  refine ⟨_, rfl, a, ns, rfl, hS, hl, fun u c H1 hu0 hc0 g1 hu1 => ?_⟩
  have uN : ∀ {H' : Hp} {p : Addr}, Gr H1 H' → H' p = none → p ∉ [u] := fun g hp z => (hu1.gr g).ou hp (List.mem_singleton.mp z)
  refine ⟨_, rfl, _, rfl, ⟨az, rfl⟩, az, rfl, rfl, by decide +kernel, a_ss (by rw [sizeLine_eq]; decide +kernel) (a_ss (by rw [sizeLine_eq]; decide +kernel) (lsU_s (by rw [sizeLine_eq]; decide +kernel) fun l1 hl1 => ?_))⟩
  refine newH hl1 fun H2 g2 s2 => ?_
  refine ⟨rfl, fun l2 H3 g3 hl2 s3 => a_ll (g3.lst s2) s3 (by rw [sizeLine_eq]; decide +kernel) fun l3 hl3 => ?_⟩
  refine newH hl3 fun H4 g4 s4 => ?_
  have s4 : H4 l3 = some (.lst (strV L1)) := s4.trans (by rw [sgn_strV]; unfold L1 strV; rw [List.map_append]; rfl)
  have G4 := ((g2.trans g3).trans g4)
  -- things = [('f', ..) for sign in signs]
  refine ⟨_, rfl, l3, rfl, ⟨_, SqL.of s4⟩, fun D hD => ?_⟩
  refine lc_list (K := K) (a := l3) (xs := strV L1) (fun i H' => Gr H4 H' ∧ ∃ ys, H' D = some (.lst ys) ∧ ys.length = i ∧ Th K [u, D] H' ys) ⟨Gr.new hD, [], upd_same, rfl, Th.nil⟩ ?_ ?_ ?_
  · rintro i H' _ ⟨g, _⟩
    exact SqL.of (g.lst s4)
  · rintro i x H' hx ⟨g, ys, hL, hl, th⟩
    obtain ⟨t, ht, rfl⟩ := str_at hx
    have il := (List.getElem?_eq_some_iff.mp ht).1
    have ok := List.all_eq_true.mp L1_ok t (List.mem_of_getElem? ht)
    refine ⟨rfl, ?_⟩
    refine ⟨_, rfl, by show 9 ≤ sizeLine; rw [sizeLine_eq]; decide, fun p hp => ?_⟩
    have pu : p ∉ [u, D] := nin2 (uN (G4.trans g) hp) (Ne.symm (ne_of_none hL hp))
    refine newH hp fun H5 g5 s5 => ?_
    have hL5 := g5.lst hL
    refine ⟨ys, hL5, by rw [sizeLine_eq]; have := L1_len; omega, (g.trans g5).upd' hD, ys ++ [.ref p], upd_same, by rw [List.length_append, hl]; rfl, ?_⟩
    refine Th.upd (by simp) ((th.gr (g5.wo _)).snoc (Dd.tup (SqT.of (wo_some pu s5)) (dd_strs ["f", "", "", t, "", "", "", "", "!"])) (Good.tup (by show 9 ≤ 20; decide) (small_strs ?_)))
    simp only [List.all_cons, List.all_nil, okE, okF, okX, ok, Bool.and_true]
  rintro H5 ⟨g5, ys, hL, hl, th⟩
  have G5 := G4.trans g5
  have th := th.gr (wo_sub (S' := [u]) (by simp) H5)
  rw [show (strV L1).length = L1.length from List.length_map _] at hl
  have yl : ys.length ≤ 100 := hl ▸ L1_len
  -- for sign in list(..): things = things + [.., ..]
  refine ⟨_, rfl, _, rfl, ⟨az, rfl⟩, az, rfl, rfl, by decide +kernel, a_ss (by rw [sizeLine_eq]; decide +kernel) (a_ss (by rw [sizeLine_eq]; decide +kernel) (lsU_s (by rw [sizeLine_eq]; decide +kernel) fun l6 hl6 => ?_))⟩
  refine newH hl6 fun H6 g6 s6 => ?_
  have s6 : H6 l6 = some (.lst (strV L2_)) := s6.trans (by rw [sgn_strV]; rfl)
  have G6 := G5.trans g6
  refine ⟨l6, rfl, ⟨_, SqL.of s6⟩, ?_⟩
  refine for_list (K := K) (a := l6) (xs := strV L2_) (fun i σ H' => ∃ (D : Addr) (xs : List V) (o4 : Option V), σ = [some (.ref a), some (.ref u), some (.str az), some (.ref l3), o4, some (.ref D), none, none, none, none, none, none, none, none] ∧ Gr H6 H' ∧ H' D = some (.lst xs) ∧ Th K [u] H' xs ∧ xs.length ≤ 100 + 2 * i)
    ⟨D, ys, none, rfl, Gr.refl _, g6.lst hL, th.gr (g6.wo _), by omega⟩ ?_ ?_ ?_
  · rintro i σ H' _ ⟨D, xs, o4, rfl, g, _⟩
    exact SqL.of (g.lst s6)
  · rintro i x σ H' hx ⟨D, xs, o4, rfl, g, hL, th, hl⟩
    obtain ⟨t, ht, rfl⟩ := str_at hx
    have il := (List.getElem?_eq_some_iff.mp ht).1
    have ok := List.all_eq_true.mp L2_ok t (List.mem_of_getElem? ht)
    have oka := List.all_eq_true.mp L2a_ok t (List.mem_of_getElem? ht)
    rw [Bool.and_eq_true] at oka
    have tl : t.length ≤ 20 := of_decide_eq_true oka.2
    have GA := G6.trans g
    refine ⟨_, rfl, _, rfl, by show 1 ≤ sizeLine; rw [sizeLine_eq]; decide, fun p1 hp1 => ?_⟩
    have n1 := uN GA hp1
    refine newH hp1 fun H7 g7 s7 => ?_
    have GB := GA.trans g7
    refine ⟨_, rfl, sl_t (sP _) (fun z => absurd (show (1 : Nat) = 0 from z.1) (by decide)) fun _ p2 hp2 => ?_⟩
    have n2 := uN GB hp2
    refine newH hp2 fun H8 g8 s8 => ?_
    have GC := GB.trans g8
    refine a_ttW (S := [u]) (SqT.of (wo_some n1 (g8.tup s7))) (SqT.of (wo_some n2 s8)) (by rw [sizeLine_eq]; show 1 + 8 ≤ 16777216; decide) (fun p hp => uN GC hp) fun q1 H9 g9 sq1 => ?_
    have GD := GC.trans g9
    refine ⟨_, rfl, a_ss (by rw [sizeLine_eq]; show 1 + t.length ≤ 16777216; omega) ⟨by show 1 ≤ sizeLine; rw [sizeLine_eq]; decide, fun p3 hp3 => ?_⟩⟩
    have n3 := uN GD hp3
    refine newH hp3 fun H10 g10 s10 => ?_
    have GE := GD.trans g10
    refine ⟨_, rfl, sl_t (sP _) (fun z => absurd (show (1 : Nat) = 0 from z.1) (by decide)) fun _ p4 hp4 => ?_⟩
    have n4 := uN GE hp4
    refine newH hp4 fun H11 g11 s11 => ?_
    have GF := GE.trans g11
    refine a_ttW (S := [u]) (SqT.of (wo_some n3 (g11.tup s10))) (SqT.of (wo_some n4 s11)) (by rw [sizeLine_eq]; show 1 + 8 ≤ 16777216; decide) (fun p hp => uN GF hp) fun q2 H12 g12 sq2 => ?_
    have GG := GF.trans g12
    refine ⟨by show 2 ≤ sizeLine; rw [sizeLine_eq]; decide, fun p5 hp5 => ?_⟩
    refine newH hp5 fun H13 g13 s13 => ?_
    have gAll := (((((g7.trans g8).trans g9).trans g10).trans g11).trans g12).trans g13
    have nl2 : L2_.length ≤ 100 := L2_len
    refine a_ll (gAll.lst hL) s13 (by rw [sizeLine_eq]; show xs.length + 2 ≤ 16777216; omega) fun p6 hp6 => ?_
    refine newH hp6 fun H14 g14 s14 => ?_
    have gAll := gAll.trans g14
    have gq := (((g10.trans g11).trans g12).trans g13).trans g14
    refine ⟨p6, _, _, rfl, g.trans gAll, s14, (th.gr (gAll.wo _)).app (Th.cons (d := .tuple ((t :: P8).map PyData.str)) (Dd.tup ((gq.wo _).seqT sq1) (dd_strs (t :: P8))) ?_ (Th.cons (d := .tuple ((("a" ++ t) :: P8).map PyData.str)) (Dd.tup (((g13.trans g14).wo _).seqT sq2) (dd_strs (("a" ++ t) :: P8))) ?_ Th.nil)), ?_⟩
    · refine Good.tup (by show 9 ≤ 20; decide) (small_strs ?_)
      simp only [P8, List.all_cons, List.all_nil, okE, ok, Bool.and_true]
    · refine Good.tup (by show 9 ≤ 20; decide) (small_strs ?_)
      simp only [P8, List.all_cons, List.all_nil, okE, oka.1, Bool.and_true]
    · rw [List.length_append]
      show xs.length + 2 ≤ _
      omega
  rintro σ H7 ⟨D7, xs, o4, rfl, g7, hL7, th7, hl7⟩
  have l2l : (strV L2_).length ≤ 100 := by unfold strV; rw [List.length_map]; exact L2_len
  have G7 := G6.trans g7
  -- things = things + [..]
  refine ⟨_, rfl, Nat.zero_le _, fun p1 hp1 => ?_⟩
  have n1 := uN G7 hp1
  refine newH hp1 fun Ha ga sa => ?_
  have Ga := G7.trans ga
  refine lsU_q (.inr (sP _)) fun p2 hp2 => ?_
  have n2 := uN Ga hp2
  refine newH hp2 fun Hb gb sb => ?_
  have Gb := Ga.trans gb
  refine ⟨_, rfl, sl_t (sP _) (fun z => absurd (show (8 : Nat) = 9 from z.2) (by decide)) fun _ p3 hp3 => ?_⟩
  have n3 := uN Gb hp3
  refine newH hp3 fun Hc gc sc => ?_
  have Gc := Gb.trans gc
  refine ⟨by show 1 ≤ sizeLine; rw [sizeLine_eq]; decide, fun p4 hp4 => ?_⟩
  have n4 := uN Gc hp4
  refine newH hp4 fun Hd gd sd => ?_
  have Gd := Gc.trans gd
  refine a_ttW (S := [u]) (sP _) (SqT.of (wo_some n4 sd)) (by rw [sizeLine_eq]; show 9 + 1 ≤ 16777216; decide) (fun p hp => uN Gd hp) fun q1 Hee ge sq1 => ?_
  have Ge := Gd.trans ge
  refine ⟨_, rfl, sl_t (sP _) (fun z => absurd (show (8 : Nat) = 9 from z.2) (by decide)) fun _ p5 hp5 => ?_⟩
  have n5 := uN Ge hp5
  refine newH hp5 fun Hf gf sf => ?_
  have Gf := Ge.trans gf
  refine ⟨by show 1 ≤ sizeLine; rw [sizeLine_eq]; decide, fun p6 hp6 => ?_⟩
  have n6 := uN Gf hp6
  refine newH hp6 fun Hg gg sg => ?_
  have Gg := Gf.trans gg
  refine a_ttW (S := [u]) (SqT.of (wo_some n5 (gg.tup sf))) (SqT.of (wo_some n6 sg)) (by rw [sizeLine_eq]; show 8 + 1 ≤ 16777216; decide) (fun p hp => uN Gg hp) fun q2 Hh gh sq2 => ?_
  have Gh := Gg.trans gh
  refine ⟨by show 1 ≤ sizeLine; rw [sizeLine_eq]; decide, fun p7 hp7 => ?_⟩
  refine newH hp7 fun Hi gi si => ?_
  have Gi := Gh.trans gi
  refine m_tt (SqT.of si) (by simp) (by decide) (by decide) (by decide) fun p8 hp8 => ?_
  have n8 := uN Gi hp8
  refine newH hp8 fun Hj gj sj => ?_
  have Gj := Gi.trans gj
  refine ⟨by show 9 ≤ sizeLine; rw [sizeLine_eq]; decide, fun p9 hp9 => ?_⟩
  refine newH hp9 fun Hk gk sk => ?_
  have Gk := Gj.trans gk
  have h9 := gj.trans gk
  have h8 := gi.trans h9
  have h7 := gh.trans h8
  have h6 := gg.trans h7
  have h5 := gf.trans h6
  have h4 := ge.trans h5
  have h3 := gd.trans h4
  have h2 := gc.trans h3
  have h1 := gb.trans h2
  have h0 := ga.trans h1
  have yl : xs.length ≤ 300 := by omega
  refine a_ll (h0.lst hL7) sk (by rw [sizeLine_eq]; show xs.length + 9 ≤ 16777216; omega) fun D8 hD8 => ?_
  have nD8u := Gk.free hD8
  have D8u := (hu1.gr Gk).ou hD8
  have D8c := (hu1.gr Gk).oc hD8
  have th8 : Th K [u] Hk (xs ++ [.ref aP, .non, .ref p1, .str "plain", .ref p2, .ref p3, .ref q1, .ref q2, .ref p8]) := by
    refine (th7.gr (h0.wo _)).app ?_
    refine Th.cons (d := .tuple (PL.map PyData.str)) (Dd.tup (sP _) (dd_strs PL)) (good_strsT (by decide) PL_ok) ?_
    refine Th.cons (d := .none) .non (Small.non.good fun _ z => by cases z) ?_
    refine Th.cons (d := .tuple []) (Dd.tup (SqT.of (wo_some n1 (h1.tup sa))) .nil) (Good.tup (by decide) (by simp)) ?_
    refine Th.cons (d := .str "plain") (.str _) ((okS_small (by decide +kernel)).good fun _ z => by cases z) ?_
    refine Th.cons (d := .list (PL.map PyData.str)) (Dd.lst (SqL.of (wo_some n2 (h2.lst sb))) (dd_strs PL)) (good_strsL (by decide) PL_ok) ?_
    refine Th.cons (d := .tuple ((PL.take 8).map PyData.str)) (Dd.tup (SqT.of (wo_some n3 (h3.tup sc))) (dd_strs (PL.take 8))) (good_strsT (by decide) (by decide +kernel)) ?_
    refine Th.cons (d := .tuple ((PL ++ ([""] : List Str)).map PyData.str)) (Dd.tup ((h5.wo _).seqT sq1) (dd_strs (PL ++ ([""] : List Str)))) (good_strsT (by decide) (by decide +kernel)) ?_
    refine Th.cons (d := .tuple ((PL.take 8 ++ (["!"] : List Str)).map PyData.str)) (Dd.tup ((h8.wo _).seqT sq2) (dd_strs (PL.take 8 ++ (["!"] : List Str)))) (good_strsT (by decide) (by decide +kernel)) ?_
    refine Th.cons (d := .tuple (List.replicate 9 (.int 0))) (Dd.tup (SqT.of (wo_some n8 (gk.tup sj))) dd_zeros) (Good.tup (by decide) fun e he => ?_) Th.nil
    rw [List.eq_of_mem_replicate he]
    exact Small.zero
  have th8 := th8.gr (wo_more (u := u) (D := D8) (o := .lst (xs ++ [.ref aP, .non, .ref p1, .str "plain", .ref p2, .ref p3, .ref q1, .ref q2, .ref p8])) hD8)
  generalize hzs : xs ++ [V.ref aP, .non, .ref p1, .str "plain", .ref p2, .ref p3, .ref q1, .ref q2, .ref p8] = zs at th8
  have zl : zs.length ≤ 400 := by
    rw [← hzs, List.length_append]
    show xs.length + 9 ≤ 400
    omega
  revert th8
  refine newH hD8 fun H8 g8 s8 th8 => ?_
  have G8 := Gk.trans g8
  have g18 := g1.trans G8
  have st8 : St K c u D8 H8 zs := ⟨g18.tabG t1, g18.tabG t2, g18.tabG t3, hu1.gr G8, s8, th8, D8u, D8c⟩
  refine ⟨15, rfl, by decide, by decide, for_range (n := 15) (fun i σ H' => ∃ (o6 o7 o8 o9 o10 o11 : Option V) (zs : List V), σ = [some (.ref a), some (.ref u), some (.str az), some (.ref l3), o4, some (.ref D8), o6, o7, o8, o9, o10, o11, none, none] ∧ St K c u D8 H' zs ∧ zs.length ≤ 400 + 7 * i)
    ⟨none, none, none, none, none, none, zs, rfl, st8, by omega⟩ ?_ ?_⟩
  · rintro i σ H' hi ⟨o6, o7, o8, o9, o10, o11, zs, rfl, st, zl⟩
    refine ⟨_, rfl, u, c, rfl, st.hu, fun t bs H1 hbs gA huA ht tu sT => ?_⟩
    have stA := st.gru gA huA
    refine ⟨_, rfl, _, rfl, by show 4 ≤ sizeLine; rw [sizeLine_eq]; decide, fun pl hpl => ?_⟩
    have nplu := stA.hu.ou hpl
    refine newH hpl fun HB gB sB => ?_
    have stB := stA.gr gB
    refine ⟨u, c, pl, strV NM, rfl, stB.hu, nplu, .inl (SqL.of sB), by decide, by decide, fun x HC hx gC huC => ?_⟩
    obtain ⟨n, hn, rfl⟩ := List.mem_map.mp hx
    have okn := List.all_eq_true.mp NM_ok n hn
    have stC := stB.gru gC huC
    have sT2 : SqT K HC t (strV (pickF bs)) := gC.seqT stB.hu (gB.seqT (SqT.of sT))
    have okF5 := List.all_eq_true.mp (pickF_ok hbs)
    refine ⟨_, rfl, u, c, t, n, pickF bs, rfl, stC.hu, sT2, fun z hz => okS_lay (okF5 z hz), fun t2 ps rs HD hp hpm gD huD ht2 t2u sF => ?_⟩
    have stD := stC.gru gD huD
    have mps : ∀ p ∈ ps, p ∈ allS := fun p hp => hpm.subset (List.mem_append_left _ hp)
    have okm := mask_ok (fs := pickF bs) fun p hp => List.all_eq_true.mp allS_ok p (mps p hp)
    obtain ⟨c1, c2, c3, c4, c5, c6, c7, c8, eM, eC⟩ := carr_mask hbs hp fun p hp => List.all_eq_true.mp allS_nE p (mps p hp)
    rw [eM] at sF okm
    have okf : [n, c1, c2, c3, c4, c5, c6, c7, c8].all okS = true := by
      rw [List.all_cons, okn, okm]; rfl
    have nT2 : t2 ∉ [u, D8] := stC.new ht2
    refine ⟨_, rfl, t2, n, c1, c2, c3, c4, c5, c6, c7, c8, rfl, SqT.of sF, fun tt HE gE htt sE => ?_⟩
    have stE := stD.gr gE
    have gP : Good (.tuple ((pickF bs).map PyData.str)) := good_strsT (Nat.le_trans (pickF_len bs) (by decide)) (pickF_ok hbs)
    rw [eC] at sE
    refine ⟨_, rfl, _, _, .tuple ((pickF bs).map PyData.str), .tuple ((pickF bs).map PyData.str), rfl, Dd.tup sE (dd_strs _), Dd.tup (gE.seqT (gD.seqT stC.hu sT2)) (dd_strs _), gP.four, gP.four, ⟨_, rfl, ?_⟩⟩
    rw [decide_eq_true rfl]
    refine iteF ?_
    refine ⟨_, rfl, .inl ⟨rfl, _, SqL.of stE.hD⟩, _, rfl, D8, zs, .ref t2, rfl, rfl, stE.hD, by rw [sizeLine_eq]; omega, ?_⟩
    have stF := stE.push (x := .ref t2) (d := .tuple ([n, c1, c2, c3, c4, c5, c6, c7, c8].map PyData.str)) (Dd.tup (SqT.of (wo_some nT2 (gE.tup sF))) (dd_strs [n, c1, c2, c3, c4, c5, c6, c7, c8])) (good_strsT (by show 9 ≤ 20; decide) okf)
    have sFF : SqT K (Wo [u, D8] (upd HE D8 (.lst (zs ++ [.ref t2])))) t2 (strV [n, c1, c2, c3, c4, c5, c6, c7, c8]) := by
      rw [wo_upd (by simp)]
      exact SqT.of (wo_some nT2 (gE.tup sF))
    generalize upd HE D8 (.lst (zs ++ [.ref t2])) = HF at stF sFF
    refine ⟨6, rfl, by decide, by decide, for_range (n := 6) (fun j σ H' => ∃ (o6 o7 o9 o10 o11 : Option V) (zs : List V), σ = [some (.ref a), some (.ref u), some (.str az), some (.ref l3), o4, some (.ref D8), o6, o7, some (.ref t2), o9, o10, o11, none, none] ∧ St K c u D8 H' zs ∧ SqT K (Wo [u, D8] H') t2 (strV [n, c1, c2, c3, c4, c5, c6, c7, c8]) ∧ zs.length ≤ 401 + 7 * i + j)
      ⟨_, _, _, _, _, _, rfl, stF, sFF, by rw [List.length_append]; show zs.length + 1 ≤ _; omega⟩ ?_ ?_⟩
    · clear stF sFF stE stD stC stB stA st
      rintro j σ H' hj ⟨o6, o7, o9, o10, o11, zs, rfl, st, sF, zl⟩
      have fl : (strV [n, c1, c2, c3, c4, c5, c6, c7, c8]).length = 9 := rfl
      refine ⟨_, rfl, u, c, 9, rfl, st.hu, by decide, by decide, fun r Ha h0 h9 gA huA => ?_⟩
      have stA := st.gru gA huA
      have sFA := (gA.wo (S := [u, D8]) (by simp)).seqT sF
      refine ⟨Nat.zero_le _, fun p1 hp1 => ?_⟩
      have n1 := stA.new hp1
      refine newH hp1 fun Hb gb sb => ?_
      have stB := stA.gr gb
      refine ⟨by show 1 ≤ sizeLine; rw [sizeLine_eq]; decide, fun p2 hp2 => ?_⟩
      have n2 := stB.new hp2
      refine newH hp2 fun Hc gc sc => ?_
      have stC := stB.gr gc
      refine ⟨by show 13 ≤ sizeLine; rw [sizeLine_eq]; decide, fun p3 hp3 => ?_⟩
      refine newH hp3 fun Hd gd sd => ?_
      have stD := stC.gr gd
      refine ⟨rfl, fun p4 Hf gf hp4 sf => ?_⟩
      have stF := stD.gr gf
      refine a_ll (gf.lst sd) sf (by rw [sizeLine_eq, al31]; show 13 + 31 ≤ 16777216; decide) fun p5 hp5 => ?_
      refine newH hp5 fun Hg gg sg => ?_
      have stG := stF.gr gg
      have gAG := (((gb.trans gc).trans gd).trans gf).trans gg
      have sFG := (gAG.wo [u, D8]).seqT sFA
      refine ⟨_, rfl, lsU_q (.inr ((wo_gr _ _).seqT sFG)) fun p6 hp6 => ?_⟩
      refine newH hp6 fun Hh gh sh => ?_
      have stH := stG.gr gh
      refine a_ll (gh.lst sg) sh (by rw [sizeLine_eq, List.length_append, al31]; show 13 + 31 + 9 ≤ 16777216; decide) fun p7 hp7 => ?_
      refine newH hp7 fun Hi gi si => ?_
      have stI := stH.gr gi
      refine ⟨_, rfl, by show 4 ≤ sizeLine; rw [sizeLine_eq]; decide, fun p8 hp8 => ?_⟩
      refine newH hp8 fun Hj gj sj => ?_
      have stJ := stI.gr gj
      refine a_ll (gj.lst si) sj (by rw [sizeLine_eq, List.length_append, List.length_append, al31]; show 13 + 31 + 9 + 4 ≤ 16777216; decide) fun p9 hp9 => ?_
      have n9 := stJ.hu.ou hp9
      refine newH hp9 fun Hk gk sk => ?_
      have stK := stJ.gr gk
      have gGK := ((gh.trans gi).trans gj).trans gk
      have sFK := (gGK.wo [u, D8]).seqT sFG
      have gbK := (((gc.trans gd).trans gf).trans gg).trans gGK
      have gcK := ((gd.trans gf).trans gg).trans gGK
      have ddO : DdAll K (Wo [u, D8] Hk) ((([V.non, .int 0, .bl true] ++ strV E8 ++ [.ref p1, .ref p2]) ++ strV allS) ++ strV [n, c1, c2, c3, c4, c5, c6, c7, c8] ++ strV E4)
          ((([PyData.none, .int 0, .bool true] ++ E8.map PyData.str ++ [.tuple [], .list [.str "*"]]) ++ allS.map PyData.str) ++ [n, c1, c2, c3, c4, c5, c6, c7, c8].map PyData.str ++ E4.map PyData.str) :=
        ddA_app (ddA_app (ddA_app (ddA_app (ddA_app (.cons .non (.cons (.int 0) (.cons (.bl true) .nil))) (dd_strs E8)) (.cons (Dd.tup (SqT.of (wo_some n1 (gbK.tup sb))) .nil) (.cons (Dd.lst (SqL.of (wo_some n2 (gcK.lst sc))) (dd_strs ["*"])) .nil))) (dd_strs allS)) (dd_strs _)) (dd_strs E4)
      have smO : ∀ d ∈ ((([PyData.none, .int 0, .bool true] ++ E8.map PyData.str ++ [.tuple [], .list [.str "*"]]) ++ allS.map PyData.str) ++ [n, c1, c2, c3, c4, c5, c6, c7, c8].map PyData.str ++ E4.map PyData.str), Small d := by
        intro d hd
        rcases List.mem_append.mp hd with hd | hd
        · rcases List.mem_append.mp hd with hd | hd
          · rcases List.mem_append.mp hd with hd | hd
            · rcases List.mem_append.mp hd with hd | hd
              · rcases List.mem_append.mp hd with hd | hd
                · simp only [List.mem_cons, List.not_mem_nil, or_false] at hd
                  rcases hd with rfl | rfl | rfl
                  · exact Small.non
                  · exact Small.zero
                  · exact Small.bl _
                · exact small_strs E8_ok d hd
              · simp only [List.mem_cons, List.not_mem_nil, or_false] at hd
                rcases hd with rfl | rfl
                · exact Small.tup0
                · exact Small.star
            · exact small_strs allS_ok d hd
          · exact small_strs okf d hd
        · exact small_strs E4_ok d hd
      refine ⟨_, rfl, .inl ⟨rfl, _, SqL.of stK.hD⟩, _, rfl, _, rfl, _, rfl, sl_tW (S := [u, D8]) sFK (fun p hp => stK.new hp) fun q1 Hl ts1 gl sq1 m1 l1 => ?_⟩
      have stL := stK.gr gl
      refine ⟨_, rfl, _, rfl, u, c, p9, _, rfl, stL.hu, n9, .inl (SqL.of (gl.lst sk)), by simp, ?_, fun x Hm hx gm hum => ?_⟩
      · rw [List.length_append, List.length_append, List.length_append, al31]
        show 13 + 31 + 9 + 4 < 1073741824
        decide
      obtain ⟨d, hd, ddx⟩ := ddA_mem ddO hx
      have smd := smO d hd
      have stM := stL.gru gm hum
      refine ⟨by show 1 ≤ sizeLine; rw [sizeLine_eq]; decide, fun pt hpt => ?_⟩
      have npt := stM.new hpt
      refine newH hpt fun Hn gn sn => ?_
      have stN := stM.gr gn
      have gLM := gm.wo (S := [u, D8]) (by simp)
      have wLN := gLM.trans (gn.wo [u, D8])
      have l1' : (strV ts1).length ≤ 9 := by unfold strV; rw [List.length_map]; exact l1
      refine a_ttW (S := [u, D8]) (wLN.seqT sq1) (SqT.of (wo_some npt sn)) (by rw [sizeLine_eq]; show (strV ts1).length + 1 ≤ _; omega) (fun p hp => stN.new hp) fun q2 Ho go sq2 => ?_
      have stO := stN.gr go
      have wKO := ((gl.wo [u, D8]).trans wLN).trans (go.wo [u, D8])
      refine ⟨_, rfl, _, rfl, a_ii ⟨_, rfl, sl_tW (S := [u, D8]) (wKO.seqT sFK) (fun p hp => stO.new hp) fun q3 Hp' ts2 gp sq3 m2 l2 => ?_⟩⟩
      have stP := stO.gr gp
      have l2' : (strV ts2).length ≤ 9 := by unfold strV; rw [List.length_map]; exact l2
      have wKP := wKO.trans (gp.wo [u, D8])
      refine a_ttW (S := [u, D8]) ((gp.wo [u, D8]).seqT sq2) sq3 (by rw [sizeLine_eq, List.length_append]; show (strV ts1).length + 1 + (strV ts2).length ≤ _; omega) (fun p hp => stP.new hp) fun q4 Hq gq sq4 => ?_
      have stQ := stP.gr gq
      have wKQ := wKP.trans (gq.wo [u, D8])
      refine ⟨D8, zs, .ref q4, rfl, rfl, stQ.hD, by rw [sizeLine_eq]; omega, ?_⟩
      refine ⟨_, _, _, _, _, zs ++ [.ref q4], rfl, stQ.push (d := .tuple (ts1.map PyData.str ++ [d] ++ ts2.map PyData.str)) (Dd.tup sq4 (ddA_app (ddA_app (dd_strs ts1) (.cons (wKQ.dd _ _ ddx) .nil)) (dd_strs ts2))) (Good.tup ?_ fun e he => ?_), ?_, ?_⟩
      · rw [List.length_append, List.length_append, List.length_map, List.length_map]
        have a1 : ts1.length ≤ 9 := l1
        have a2 : ts2.length ≤ 9 := l2
        show ts1.length + 1 + ts2.length ≤ 20
        omega
      · have sub : ∀ {ts : List Str}, (∀ t ∈ ts, t ∈ [n, c1, c2, c3, c4, c5, c6, c7, c8]) → ∀ e ∈ ts.map PyData.str, Small e := fun m => small_strs (List.all_eq_true.mpr fun t ht => List.all_eq_true.mp okf t (m t ht))
        rcases List.mem_append.mp he with he | he
        · rcases List.mem_append.mp he with he | he
          · exact sub m1 e he
          · rw [List.mem_singleton] at he
            exact he ▸ smd
        · exact sub m2 e he
      · rw [wo_upd (by simp)]
        exact wKQ.seqT sFK
      · rw [List.length_append]
        show zs.length + 1 ≤ _
        omega
    · rintro σ H' ⟨o6, o7, o9, o10, o11, zs, rfl, st, sF, zl⟩
      exact ⟨_, _, _, _, _, _, zs, rfl, st, by omega⟩
  rintro σ H' ⟨o6, o7, o8, o9, o10, o11, zs, rfl, st, zl⟩
  -- the last walk
  refine ⟨_, rfl, D8, rfl, ⟨_, SqL.of st.hD⟩, ?_⟩
  refine for_list (K := K) (a := D8) (xs := zs) (fun i σ H' => ∃ (o6 o7 o8 o9 o10 o11 o12 o13 : Option V), σ = [some (.ref a), some (.ref u), some (.str az), some (.ref l3), o4, some (.ref D8), o6, o7, o8, o9, o10, o11, o12, o13] ∧ St K c u D8 H' zs)
    ⟨_, _, _, _, _, _, _, _, rfl, st⟩ ?_ ?_ ?_
  · rintro i σ H' _ ⟨o6, o7, o8, o9, o10, o11, o12, o13, rfl, st⟩
    exact SqL.of st.hD
  · clear st
    rintro i x σ H' hx ⟨o6, o7, o8, o9, o10, o11, o12, o13, rfl, st⟩
    obtain ⟨ds, hA, hG⟩ := st.th
    obtain ⟨d, hd, ddx⟩ := ddA_mem hA (List.mem_of_getElem? hx)
    have gd := hG d hd
    have dx := (wo_gr _ _).dd _ _ ddx
    obtain ⟨f1, f2, f3, f4⟩ := gd.four
    refine ⟨_, rfl, x, d, rfl, dx, f1, f2, f3, f4, ?_⟩
    refine ⟨_, rfl, x, d, rfl, dx, fun ds e y hy => ((gd.due ds e).2.2 y hy).1, st.t1, st.t2, st.t3, fun HA gA => ?_⟩
    refine ⟨_, rfl, x, d, rfl, gA.dd _ _ dx, gd.due, fun HB gB => ?_⟩
    have gb : Good (.bool (isFm d)) := (Small.bl _).good fun _ z => by cases z
    refine ⟨_, _, .bool (isFm d), .bool (isFm d), rfl, .bl _, .bl _, gb.four, gb.four, ⟨_, rfl, ?_⟩⟩
    rw [decide_eq_true rfl]
    have gAB := gA.trans gB
    refine iteF ⟨_, rfl, x, d, rfl, gAB.dd _ _ dx, f1, f2, f3, f4, _, rfl, n_flat rfl ⟨_, rfl, ?_⟩⟩
    rw [decide_eq_true rfl]
    refine iteF ?_
    exact ⟨_, _, _, _, _, _, _, _, rfl, st.gr gAB⟩
  rintro σ H' ⟨o6, o7, o8, o9, o10, o11, o12, o13, rfl, st⟩
  refine ⟨aP, "plain", "", "", "", "", "", "", "", "", rfl, sP _, fun t HA gA ht sT => ⟨Nat.zero_le _, fun p hp => ?_⟩⟩
  refine newH hp fun HB gB sB => ?_
  have e : carr "" "" "" "" "" = [] := by decide +kernel
  rw [e] at sT
  refine e_data (Dp.tup (gB.seqT sT) (dp_strs [])) (Dp.tup (SqT.of sB) .nil) rfl rfl ?_
  exact k _
end
end Vf
end
section
set_option Elab.async false
set_option linter.all false
set_option maxRecDepth 100000
set_option maxHeartbeats 0
namespace Vf
open PySem PySem.Spec PyProof.Rows L2 GxR GenW RZ
/-! ### the head: what stands where the law is called -/
def dd (x : Str) (st : Stmt) : He.DefD := ⟨(x, none), x, x, defArgs st, defBody st, defScope st, [], []⟩
def fns : List He.DefD := [dd "is_form" s_is_form, dd "is_form_name" s_is_form_name, dd "are_signs" s_are_signs, dd "is_sign" s_is_sign, dd "are_complete" s_are_complete, dd "carried" s_carried,
  dd "_law_churned" s__law_churned, dd "_law_urn_of" s__law_urn_of, dd "_law_upto" s__law_upto, dd "_law_choice" s__law_choice, dd "_law_equal" s__law_equal, dd "_law_some_set" s__law_some_set,
  dd "_law_all_signs" s__law_all_signs, dd "_law_some_form" s__law_some_form, dd "_law_is_sign" s__law_is_sign, dd "_law_due" s__law_due, dd "law" s_law]
def fcs : List He.Fa := [.glo "is_form", .glo "is_form_name", .glo "are_signs", .glo "is_sign", .glo "are_complete", .glo "carried",
  .glo "_law_churned", .glo "_law_urn_of", .glo "_law_upto", .glo "_law_choice", .glo "_law_equal", .glo "_law_some_set",
  .glo "_law_all_signs", .glo "_law_some_form", .glo "_law_is_sign", .glo "_law_due", .glo "law",
  .free "range", .free "abs", .free "enumerate", .free "len", .free "int", .free "repr", .free "isinstance", .free "all", .free "any", .free "set", .free "str", .free "tuple", .free "list", .free "zip",
  .int "FORM_STRINGS" 9, .int "MOST_NAME_CHARACTERS" 8, .int "CELL" 1, .int "LEVEL" 2, .int "BOLD" 3, .int "SLANT" 4, .int "OPENING" 5, .int "MIDDLE" 6, .int "END" 7, .int "ESCAPE" 8,
  .str "NAME_LETTERS" "abcdefghijklmnopqrstuvwxyz", .str "WORD_CHARACTERS" "abcdefghijklmnopqrstuvwxyz0123456789", .str "LETTERS_AND_DIGITS" "0123456789ABCDEFGHIJKLMNOPQRSTUVWXYZabcdefghijklmnopqrstuvwxyz",
  .glo "FEATURES", .glo "PLAIN"]
def exs (K : PySem.W.Frag) : Bool := He.tupB K "FEATURES" [.str "cells", .str "nest", .str "link", .str "bold", .str "slant"] && He.tupB K "PLAIN" [.str "plain", .str "", .str "", .str "", .str "", .str "", .str "", .str "", .str ""]
def tfs : List He.Defn := [("is_form", none), ("is_form_name", none), ("are_signs", none)]
abbrev R : PySem.W.OpenRow := PySem.W.OpenLaw.row PySem.Challenge.rw_clipforms_k03_forms_of_any_object
abbrev hk : PySem.W.Hook := He.hookX 4 fcs fns [] tfs exs
def ob (s : PySem.W.SharedT) : He.AlX := He.obsX 4 fcs fns [] tfs exs (HandSHeadRun.getT s)
theorem ob_eq (s : PySem.W.SharedT) : ob s = hk.obs s.abs := He.obsX_eq (HandSHeadRun.getT_eq s)
def loose : List Str := (["FEATURES", "WORD_CHARACTERS", "PLAIN", "CELL", "LEVEL", "BOLD", "SLANT", "OPENING", "MIDDLE", "END", "ESCAPE", "FORM_STRINGS", "NAME_LETTERS", "MOST_NAME_CHARACTERS", "LETTERS_AND_DIGITS", "is_form", "is_form_name", "are_signs", "is_sign", "are_complete", "carried"] : List Str) ++
  (["_law_churned", "_law_urn_of", "_law_upto", "_law_choice", "_law_equal", "_law_some_text", "_law_some_marks", "_law_joined", "_law_some_cell", "_law_some_line", "_law_some_content", "_law_dropped", "_law_keeping", "_law_features_of", "_law_some_set", "_law_all_signs", "_law_some_form", "_law_is_sign", "_law_due"] : List Str)
theorem run (w : World) : HandSHeadRun.RunEq R (PySem.W.view R.prog [42]) hk ob 4000 loose w := by
  intro os
  kernel_rfl
end Vf
end
section
set_option Elab.async false
set_option linter.all false
set_option maxRecDepth 100000
set_option maxHeartbeats 0
namespace Vf
open PySem PySem.Spec PyProof.Rows L2 GxR GenW RZ
section
variable {P : Program} {w : World} {K : PySem.W.Frag} {h : Heap} {mg : Str → Option Value} {base : Heap}
theorem fnd (c : He.SaysD fcs fns K) {x : Str} {st : Stmt} (hm : dd x st ∈ fns) : ∃ fd, FnP K x st fd := c.defs hm
theorem mk1 {x : Str} {st : Stmt} {k : Nat} {ps : List Str} {sp : Sp} {fd : FuncData} (X : K.In h) (G : h.Ns mainGlobals mg) (c : He.SaysD fcs fns K) (F : FnP K x st fd) (hg : He.Fa.glo x ∈ fcs) (O : FnOk P w K mg base CX0 k (He.fAd K (x, none)) fd ps sp)
    (hb : ∀ (kV doc pm : Value) (an : Option Addr) (cdv ct : Value) (us : List Value), us.length = ps.length → bindArgs (PySem.W.fnOf x x (defArgs st) (defBody st) (defScope st) .none kV doc pm an cdv ct) ⟨us, []⟩ = pure (ps.zip us)) : Df P w K mg base x k ps sp :=
  ⟨⟨_, fd, O, He.glo_ok X G (c.facts hg), F.kp, F.bindsN hb⟩⟩
theorem mk2 {x : Str} {st : Stmt} {k : Nat} {ps : List Str} {sp : Sp} {fd : FuncData} (X : K.In h) (G : h.Ns mainGlobals mg) (c : He.SaysD fcs fns K) (F : FnP K x st fd) (hg : He.Fa.glo x ∈ fcs) (O : FnG P w K mg base CX0 k (He.fAd K (x, none)) fd ps sp)
    (hb : ∀ (kV doc pm : Value) (an : Option Addr) (cdv ct : Value) (us : List Value), us.length = ps.length → bindArgs (PySem.W.fnOf x x (defArgs st) (defBody st) (defScope st) .none kV doc pm an cdv ct) ⟨us, []⟩ = pure (ps.zip us)) : DfG P w K mg base x k ps sp :=
  ⟨⟨_, fd, O, He.glo_ok X G (c.facts hg), F.kp, F.bindsN hb⟩⟩
theorem ty_of (X : K.In h) (G : h.Ns mainGlobals mg) (c : He.SaysD fcs fns K) (m : exs K = true) : TY K mg := by
  have fr : ∀ {x : Str}, He.Fa.free x ∈ fcs → mg x = none := fun hx => He.free_ok X G (c.facts hx)
  have it : ∀ {x : Str} {i : Int}, He.Fa.int x i ∈ fcs → ∃ u, mg x = some u ∧ RelV (.int i) u := fun hx => by
    obtain ⟨t, e⟩ := He.int_ok X G (c.facts hx)
    exact ⟨_, e, t, rfl⟩
  have sr : ∀ {x z : Str}, He.Fa.str x z ∈ fcs → ∃ u, mg x = some u ∧ RelV (.str z) u := fun hx => by
    obtain ⟨t, e⟩ := He.str_ok X G (c.facts hx)
    exact ⟨_, e, t, rfl⟩
  obtain ⟨m1, m2⟩ := He.ba m
  exact { b_range := fr (by simp [fcs]), b_abs := fr (by simp [fcs]), b_enumerate := fr (by simp [fcs]), b_len := fr (by simp [fcs]), b_int := fr (by simp [fcs]), b_repr := fr (by simp [fcs]),
          b_isinstance := fr (by simp [fcs]), b_all := fr (by simp [fcs]), b_any := fr (by simp [fcs]), b_set := fr (by simp [fcs]), b_str := fr (by simp [fcs]), b_tuple := fr (by simp [fcs]), b_list := fr (by simp [fcs]), b_zip := fr (by simp [fcs]),
          c_FORM_STRINGS := it (by simp [fcs]), c_MOST_NAME_CHARACTERS := it (by simp [fcs]), c_NAME_LETTERS := sr (by simp [fcs]), c_WORD_CHARACTERS := sr (by simp [fcs]), c_LETTERS_AND_DIGITS := sr (by simp [fcs]),
          c_CELL := it (by simp [fcs]), c_LEVEL := it (by simp [fcs]), c_BOLD := it (by simp [fcs]), c_SLANT := it (by simp [fcs]), c_OPENING := it (by simp [fcs]), c_MIDDLE := it (by simp [fcs]), c_END := it (by simp [fcs]), c_ESCAPE := it (by simp [fcs]),
          c_FEATURES := ⟨_, He.glo_ok X G (c.facts (f := .glo "FEATURES") (by simp [fcs])), fun H => He.tupB_ok m1 H⟩, c_PLAIN := ⟨_, He.glo_ok X G (c.facts (f := .glo "PLAIN") (by simp [fcs])), fun H => He.tupB_ok m2 H⟩ }
theorem law_base (X : K.In h) (G : h.Ns mainGlobals mg) (c : He.SaysD fcs fns K) (T : TY K mg) (TB : ∀ p ∈ tfs.map (He.cT K), TabB base mg p.1 p.2) {fd : FuncData} (FL : FnP K "law" s_law fd) : FnG P w K mg base CX0 5 (He.fAd K ("law", none)) fd p_law (spLaw K) := by
  have tb1 : TBx K mg base "is_form" := TB (He.cT K ("is_form", none)) (by simp [tfs])
  have tb2 : TBx K mg base "is_form_name" := TB (He.cT K ("is_form_name", none)) (by simp [tfs])
  have tb3 : TBx K mg base "are_signs" := TB (He.cT K ("are_signs", none)) (by simp [tfs])
  obtain ⟨f1, F1⟩ := fnd (x := "is_form") (st := s_is_form) c (by simp [fns])
  obtain ⟨f2, F2⟩ := fnd (x := "is_form_name") (st := s_is_form_name) c (by simp [fns])
  obtain ⟨f3, F3⟩ := fnd (x := "are_signs") (st := s_are_signs) c (by simp [fns])
  obtain ⟨f4, F4⟩ := fnd (x := "is_sign") (st := s_is_sign) c (by simp [fns])
  obtain ⟨f5, F5⟩ := fnd (x := "are_complete") (st := s_are_complete) c (by simp [fns])
  obtain ⟨f6, F6⟩ := fnd (x := "carried") (st := s_carried) c (by simp [fns])
  obtain ⟨f7, F7⟩ := fnd (x := "_law_churned") (st := s__law_churned) c (by simp [fns])
  obtain ⟨f8, F8⟩ := fnd (x := "_law_urn_of") (st := s__law_urn_of) c (by simp [fns])
  obtain ⟨f9, F9⟩ := fnd (x := "_law_upto") (st := s__law_upto) c (by simp [fns])
  obtain ⟨f10, F10⟩ := fnd (x := "_law_choice") (st := s__law_choice) c (by simp [fns])
  obtain ⟨f11, F11⟩ := fnd (x := "_law_equal") (st := s__law_equal) c (by simp [fns])
  obtain ⟨f12, F12⟩ := fnd (x := "_law_some_set") (st := s__law_some_set) c (by simp [fns])
  obtain ⟨f13, F13⟩ := fnd (x := "_law_all_signs") (st := s__law_all_signs) c (by simp [fns])
  obtain ⟨f14, F14⟩ := fnd (x := "_law_some_form") (st := s__law_some_form) c (by simp [fns])
  obtain ⟨f15, F15⟩ := fnd (x := "_law_is_sign") (st := s__law_is_sign) c (by simp [fns])
  obtain ⟨f16, F16⟩ := fnd (x := "_law_due") (st := s__law_due) c (by simp [fns])
  have d4 := mk1 X G c F4 (by simp [fcs]) (ok_is_sign F4 T (P := P) (w := w) (base := base)) fun _ _ _ _ _ _ us hl => match us, hl with | [_], _ => rfl
  have d2 := mk1 X G c F2 (by simp [fcs]) (ok_name F2 T tb2 (P := P) (w := w)) fun _ _ _ _ _ _ us hl => match us, hl with | [_], _ => rfl
  have d3 := mk1 X G c F3 (by simp [fcs]) (ok_signs F3 T tb3 d4) fun _ _ _ _ _ _ us hl => match us, hl with | [_], _ => rfl
  have d5 := mk1 X G c F5 (by simp [fcs]) (ok_complete F5 T (P := P) (w := w) (base := base)) fun _ _ _ _ _ _ us hl => match us, hl with | [_], _ => rfl
  have d6 := mk1 X G c F6 (by simp [fcs]) (ok_carried F6 T (P := P) (w := w) (base := base)) fun _ _ _ _ _ _ us hl => match us, hl with | [_], _ => rfl
  have d1 := mk1 X G c F1 (by simp [fcs]) (ok_is_form F1 T tb1 d2 d3 d5) fun _ _ _ _ _ _ us hl => match us, hl with | [_], _ => rfl
  have d7 := mk1 X G c F7 (by simp [fcs]) (ok_churned F7 T.toTX (P := P) (w := w) (base := base)) fun _ _ _ _ _ _ us hl => match us, hl with | [_, _], _ => rfl
  have d8 := mk1 X G c F8 (by simp [fcs]) (ok_urn_of F8 T.toTX (P := P) (w := w) (base := base)) fun _ _ _ _ _ _ us hl => match us, hl with | [_], _ => rfl
  have d9 := mk1 X G c F9 (by simp [fcs]) (ok_upto F9 T.toTX d7) fun _ _ _ _ _ _ us hl => match us, hl with | [_, _], _ => rfl
  have d10 := mk1 X G c F10 (by simp [fcs]) (ok_choice F10 T.toTX d9) fun _ _ _ _ _ _ us hl => match us, hl with | [_, _], _ => rfl
  have d11 := mk2 X G c F11 (by simp [fcs]) (ok_equal F11 T.toTX (P := P) (w := w) (base := base)) fun _ _ _ _ _ _ us hl => match us, hl with | [_, _], _ => rfl
  have d12 := mk1 X G c F12 (by simp [fcs]) (ok_some_set F12 T d9) fun _ _ _ _ _ _ us hl => match us, hl with | [_], _ => rfl
  have d13 := mk1 X G c F13 (by simp [fcs]) (ok_all_signs F13 T (P := P) (w := w) (base := base)) fun _ _ _ _ _ _ us hl => match us, hl with | [], _ => rfl
  have d14 := mk1 X G c F14 (by simp [fcs]) (ok_some_form F14 T d9 d13) fun _ _ _ _ _ _ us hl => match us, hl with | [_, _, _], _ => rfl
  have d15 := mk1 X G c F15 (by simp [fcs]) (ok_lsign F15 T d13) fun _ _ _ _ _ _ us hl => match us, hl with | [_], _ => rfl
  have d16 := mk1 X G c F16 (by simp [fcs]) (ok_due F16 T d15) fun _ _ _ _ _ _ us hl => match us, hl with | [_], _ => rfl
  exact ok_law FL T d8 d13 d12 d14 d10 d9 d11 d6 d1 d16
end
abbrev LW : PySem.W.OpenLaw := PySem.Challenge.rw_clipforms_k03_forms_of_any_object
theorem law_at {w : World} {mg : Str → Option Value} {fa : Addr} {h : Heap} (Y : hk.says w h) (G : h.Ns mainGlobals mg) (hmg : mg "law" = some (.ref fa)) : ∃ K : PySem.W.Frag, K.In h ∧ LawAtG LW w K CX0 5 63 "script" mg fa h := by
  obtain ⟨K, X, s⟩ := Y
  have c := s.t.d
  have T := ty_of X G c s.more
  obtain ⟨fd, FL⟩ := fnd (x := "law") (st := s_law) c (by simp [fns])
  have e := hmg.symm.trans (He.glo_ok X G (c.facts (f := .glo "law") (by simp [fcs])))
  cases e
  have inT : ∀ p ∈ tfs.map (He.cT K), ∃ q ∈ tfs, He.cT K q = p := fun p hp => List.mem_map.mp hp
  refine ⟨K, X, fd, tfs.map (He.cT K), spLaw K, fun p hp => ?_, fun p hp => ?_, fun p hp => ?_, fun s v => ?_, fun H a ns hl _ hT _ hS => ?_, fun base Xb Gb TB => ?_⟩
  · obtain ⟨q, hq, rfl⟩ := inT p hp
    exact s.empty q hq
  · obtain ⟨q, hq, rfl⟩ := inT p hp
    exact s.out q hq
  · obtain ⟨q, hq, rfl⟩ := inT p hp
    exact PySem.W.codeHd_of_K X (s.hd q hq)
  · exact (FunD.bindsA (ps := ["script"]) FL fun _ _ _ _ _ _ us hl => match us, hl with | [_], _ => rfl) s [v] rfl
  · have tt : ∀ q ∈ tfs, TabG H (He.cT K q).2 := fun q hq => ⟨#[], hT (He.cT K q) (List.mem_map.mpr ⟨q, hq, rfl⟩), by first | exact .nil | trivial | (intro z; simp at z) | simp [TriplesOk]⟩
    exact ⟨a, ns, rfl, hS, hl, tt ("is_form", none) (by simp [tfs]), tt ("is_form_name", none) (by simp [tfs]), tt ("are_signs", none) (by simp [tfs]), fun _ => rfl⟩
  · exact law_base X G c T TB FL
end Vf
end
section
set_option Elab.async false
set_option linter.all false
set_option maxRecDepth 100000
set_option maxHeartbeats 0
open PySem PySem.W PySem.Calls PyProof.Rows
theorem PySem.Challenge.cw_clipforms_k03_forms_of_any_object_holds : PySem.Challenge.rw_clipforms_k03_forms_of_any_object.Holds := by
  w_on; o_law
  refine HandSHeadRun.head_any (r := OpenLaw.row PySem.Challenge.rw_clipforms_k03_forms_of_any_object) (q := view (OpenLaw.row PySem.Challenge.rw_clipforms_k03_forms_of_any_object).prog [42]) (H := Vf.hk) (ob := Vf.ob) (M := 4000) (loose := Vf.loose) (d := HandSHeadRun.topDef (OpenLaw.row PySem.Challenge.rw_clipforms_k03_forms_of_any_object).prog 42) (kwd := []) Vf.ob_eq
    (by kernel_rfl) (fun s => by kernel_rfl) Vf.run (by kernel_rfl) (by kernel_rfl) (by kernel_rfl) (by rfl) (by first | assumption | decide +kernel) (by decide +kernel) ⟨rfl, rfl, rfl, rfl, rfl, by decide +kernel⟩ ?hw ?hc
  case hw => w_witness2
  case hc =>
    refine Vf.walkG (l := PySem.Challenge.rw_clipforms_k03_forms_of_any_object) (n := 63) (k := 5) (x := "script") (CX := fun _ => L2.CX0) rfl (by decide) (by kernel_rfl) ⟨rfl, by decide, by decide⟩ ?F (fun _ _ _ _ _ z => z)
    intro w mg fa h Y G hmg0
    have hmg : mg ("law" : PySem.Str) = some (.ref fa) := by
      have e : (HandSHeadRun.topDef (OpenLaw.row PySem.Challenge.rw_clipforms_k03_forms_of_any_object).prog 42).name = ("law" : PySem.Str) := by kernel_rfl
      rw [← e]
      exact hmg0
    exact Vf.law_at Y G hmg
end
