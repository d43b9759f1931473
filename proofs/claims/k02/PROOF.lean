import PyProof.Rows.All
import Wide.All
import OpenK.AllK
import Wide.FinOn
import Lean
import HandS.ForMost
import HandS.Strs
import HandS.Conv
import HandS.TupAny
import HandS.TupMul
import HandS.Zip
import HandS.Deep
import HandS.Codes
import HandS.Wide
import HandS.IsInst
import HandS.AnyAll
import HandS.GenList
import HandS.Defaults
import HandS.Head0
import HandS.Head1
import HandS.Head2
import HandS.HeadEnd
import HandS.HeadHook1
import HandS.HeadHook2
import HandS.HeadHook4
import HandS.HeadWalk
import HandS.EndTab
import PyProof.ReprRoads
import HandS.JoinGen
import PyProof.GenCompT
import PyProof.WalksPairs
import PyProof.SumAny
import PyProof.NeKinds
import PyProof.NeData
import PyProof.StrOps2
import PySem.Challenge.RW_clipforms_k02_features_dropped
import PyProof.ReprLen
import HandS.NestedK
section
set_option Elab.async false
set_option linter.all false
set_option maxRecDepth 100000
set_option maxHeartbeats 4000000
/-! Own layer: defs that are called where no repr runs (FnG), repr of data, unions. -/
namespace Vf
open PySem PySem.Spec PyProof.Rows L2

/-- as FnOk, for calls where no repr is under way -/
structure FnG (P : Program) (w : World) (K : PySem.W.Frag) (mg : Str → Option Value) (base : Heap) (CX : CXT) (k : Nat) (f : Addr) (fd : FuncData) (ps : List Str) (sp : Sp) : Prop where
  len : ∀ vs H Q E, sp vs H Q E → vs.length = ps.length
  run : ∀ (A : Around) (outer : List Env) (s : Shared) (H : Hp) (args : Args) (us : List Value) (vs : List V) (Q : VK) (E : XK), A.guards = some [] → Room k A → Env0 P w K mg base A outer s H →
    BindsTo s fd args (ps.zip us) → Vals vs us → sp vs H Q E → codeAny (model P w) A (.call (.ref f) args) (CR CX outer P w H s Q E) s
section
variable {P : Program} {w : World} {K : PySem.W.Frag} {mg : Str → Option Value} {base : Heap} {CX : CXT} {k : Nat} {f : Addr} {fd : FuncData} {ps : List Str} {sp : Sp}
theorem FnG.of (F : FnOk P w K mg base CX k f fd ps sp) : FnG P w K mg base CX k f fd ps sp :=
  ⟨F.len, fun A outer s H args us vs Q E _ => F.run A outer s H args us vs Q E⟩
theorem deeper_guards {A : Around} {env : Env} (h : A.guards = some []) : (A.deeper env).guards = some [] := h

/-- a def's body where no repr is under way -/
theorem okG {x qual : Str} {params : Arguments} {body : List Stmt} {scope : Scope} {dvs : List V} {kws : List (Str × V)} {N : List Str}
    (F : FunD K x qual params body scope dvs kws f fd) (S : FnScope N ps scope) (len : ∀ vs H Q E, sp vs H Q E → vs.length = ps.length)
    (hbody : ∀ (cdv : Value) (hcv : fd.code = cdv) (A : Around) (outer : List Env) (s : Shared) (H : Hp) (vs : List V) (Q : VK) (E : XK), A.guards = some [] → Room k (A.deeper (envOfC qual scope s.heap.objs.size f cdv)) → sp vs H Q E →
      ∃ t, PSs (cxOf CX P w K mg base N qual scope f cdv A outer s H E) body t ∧ t { nx := fun _ H' => Q .non H', rt := Q } (start N vs) H) :
    FnG P w K mg base CX (k + 1) f fd ps sp := by
  obtain ⟨oc, od, dV, kV, doc, pm, an, cdv, ct, osl, rfl, lk, hcd, _, _⟩ := F.ex
  refine ⟨len, ?_⟩
  intro A outer s H args us vs Q E hg hr e0 hb r hsp
  have inS : K.In s.heap := e0.mod.kin.keeps (fun b o e => (e0.bs b o e).1)
  have noL : s.heap.NoLimit := e0.mod.nolimit.keeps (fun b o e => (e0.bs b o e).1)
  obtain ⟨t, ht, hq⟩ := hbody cdv rfl A outer s H vs Q E hg (hr.deeper _) hsp
  refine codeAny_call_function hr.depth (inS _ _ lk) rfl S.co S.gen rfl (PySem.W.codeRec_of inS hcd) (hb _ _ _ _ (wpAny_newFunctionEnv_cells S.kind ?_ ?_))
  · rintro ⟨n, v⟩ hy
    rcases S.par n (List.of_mem_zip hy).1 with q | q
    · exact Or.inl q
    · exact Or.inr ⟨q, PySem.W.cellsFrom_some _ _ _ (Or.inl q)⟩
  · intro env he s1 x
    subst he
    have I := inv_start (CX := CX) (E := E) (f := f) (cd := cdv) (qual := qual) S hr.hd e0 (len _ _ _ _ hsp) r x
    refine ⟨noL.keeps x.toInCall.keep, codeAny_func (wpAny_mono (ht.run [] s1 (start N vs) H _ I hq) ?_ (fun e s' hs => hs))⟩
    intro fl s' hs
    cases fl with
    | ret u =>
      obtain ⟨v, σ', H', J, rv, q⟩ := hs
      exact ⟨v, H', J.os, J.bare, J.base, J.hok, rv, q⟩
    | next =>
      obtain ⟨σ', H', J, q⟩ := hs
      exact ⟨V.non, H', J.os, J.bare, J.base, J.hok, rfl, q⟩
    | brk => exact hs.elim fun _ z => z.elim fun _ y => y.2.elim
    | cont => exact hs.elim fun _ z => z.elim fun _ y => y.2.elim
end

section
variable {X : Cx} {CX : CXT} {k : Nat} {f : Addr} {fd : FuncData} {ps : List Str} {sp : Sp} {dvs : List V} {ds : List Value} {E : XK} {x : Str} {p pos : Pos} {e : Expr} {es : List Expr} {t : TA}
/-- f(e, ..), f a def of this kind -/
theorem pe_callG (hgu : X.A.guards = some []) (F : FnG X.prog X.w X.K X.mg X.base CX k f fd ps sp) (hr : Room k X.A) (hg : Gl X x) (hm : X.mg x = some (.ref f)) (hk : PySem.W.keepIn X.K (.ref f) = true) (hb : Binds X.K fd ps ds)
    (hd : Vals dvs ds) (hx : Passes CX X E) (ha : PA X (e :: es) t) (hdb : (x == ("__debug__" : Str)) = false := by decide) (he : starEach (e :: es) X.env = (false, eval e X.env) :: starEach es X.env := by rfl)
    (hpl : (backTo pos (starEach es X.env)).any (·.1) = false := by rfl) : PE X (.Call (.Name x p) (e :: es) [] pos) (tCall sp dvs E t) := by
  refine ⟨fun pins s σ H Q I h => wpAny_Call_Name_kw (ld_glob I hg hm ?_ hdb)⟩
  refine PySem.W.callWith_K (h₀ := X.base) I.ok.mod.kin hk (thn (ha.run pos pins s σ H _ I h) ?_) he hpl
  rintro us s1 ⟨vs, H1, I1, r, q⟩
  refine ⟨I1.kIn, ?_⟩
  have r2 : Vals (vs ++ dvs) (us ++ ds) := r.append hd
  have hl : (us ++ ds).length = ps.length := by rw [← r2.length]; exact F.len _ _ _ _ q
  refine wpAny_call (codeAny_mono (F.run X.A X.stack s1 H1 ⟨us, []⟩ (us ++ ds) (vs ++ dvs) Q E hgu hr I1.env0 (hb s1 us I1.kIn hl) r2 q) ?_)
  intro r s' hq
  cases r with
  | error e => exact hx pins σ H1 s1 e s' I1 hq
  | ok fl =>
    cases fl with
    | ret u => exact I1.after hq
    | next => exact hq.elim
    | brk => exact hq.elim
    | cont => exact hq.elim

end
/-! ### data, empty dicts too -/
mutual
inductive Dd (K : PySem.W.Frag) (H : Hp) : V → PyData → Prop
  | non : Dd K H .non .none
  | bl (b : Bool) : Dd K H (.bl b) (.bool b)
  | int (i : Int) : Dd K H (.int i) (.int i)
  | str (x : Str) : Dd K H (.str x) (.str x)
  | lst {a : Addr} {xs : List V} {ds : List PyData} : SqL K H a xs → DdAll K H xs ds → Dd K H (.ref a) (.list ds)
  | tup {a : Addr} {xs : List V} {ds : List PyData} : SqT K H a xs → DdAll K H xs ds → Dd K H (.ref a) (.tuple ds)
  | dct {a : Addr} : H a = some (.dK []) → Dd K H (.ref a) (.dict [])
inductive DdAll (K : PySem.W.Frag) (H : Hp) : List V → List PyData → Prop
  | nil : DdAll K H [] []
  | cons {v : V} {vs : List V} {d : PyData} {ds : List PyData} : Dd K H v d → DdAll K H vs ds → DdAll K H (v :: vs) (d :: ds)
end
mutual
/-- no list within -/
def noLst : PyData → Bool
  | .list _ => false
  | .tuple ds => noLstA ds
  | _ => true
def noLstA : List PyData → Bool
  | [] => true
  | d :: ds => noLst d && noLstA ds
end
section
variable {X : Cx} {pins : List (Addr × Obj)} {σ : L2.St} {H : Hp} {s : Shared}
mutual
theorem Dd.reads (I : Inv X pins σ H s) : ∀ (d : PyData) (v : V) (u : Value), Dd X.K H v d → RelV v u → ∃ as, Reads s.heap u d as ∧ (noLst d = true → sysModules ∉ as)
  | .none, _, _, h, r => by
    cases h; cases r
    exact ⟨_, Reads.none, fun _ => by simp⟩
  | .bool b, _, _, h, r => by
    cases h; cases r
    exact ⟨_, Reads.bool b, fun _ => by simp⟩
  | .int i, _, _, h, r => by
    cases h
    obtain ⟨t, rfl⟩ := r
    exact ⟨_, Reads.int i t, fun _ => by simp⟩
  | .str x, _, _, h, r => by
    cases h
    obtain ⟨t, rfl⟩ := r
    exact ⟨_, Reads.str x t, fun _ => by simp⟩
  | .list ds, _, _, h, r => by
    cases h with
    | lst hs ha =>
      cases r
      obtain ⟨its, rv, ⟨o, n, ho, hc, _, hd⟩, _⟩ := I.list hs
      obtain ⟨as, hr, _⟩ := DdAll.reads I ds _ its ha rv
      exact ⟨_, Reads.list ho hc hd hr, fun z => by simp [noLst] at z⟩
  | .tuple ds, _, _, h, r => by
    cases h with
    | tup hs ha =>
      cases r
      obtain ⟨its, rv, ⟨o, ho, hc, n, hd⟩, _⟩ := I.tuple hs
      obtain ⟨as, hr, hn⟩ := DdAll.reads I ds _ its ha rv
      exact ⟨_, Reads.tuple ho hc hd hr, fun z => hn (by simpa [noLst] using z)⟩
  | .dict kvs, _, _, h, r => by
    cases h with
    | dct hs =>
      cases r
      obtain ⟨_, hne, vs, kv, hd⟩ := I.hok _ _ hs
      cases kv
      obtain ⟨o, es, ep, ho, hx, hda, _, hp, _⟩ := hd
      have e0 : es.toList = [] := by
        generalize es.toList = l at hp
        cases hp
        rfl
      refine ⟨_, Reads.dict (kvs := []) ho hx.1 hda (by rw [e0]; exact ReadsAll.nil) (by rw [e0]; exact ReadsAll.nil), fun _ z => ?_⟩
      simp at z
      rw [← z] at hne
      simp at hne
theorem DdAll.reads (I : Inv X pins σ H s) : ∀ (ds : List PyData) (vs : List V) (us : List Value), DdAll X.K H vs ds → Vals vs us → ∃ as, ReadsAll s.heap us ds as ∧ (noLstA ds = true → sysModules ∉ as)
  | [], _, _, h, r => by
    cases h; cases r
    exact ⟨_, ReadsAll.nil, fun _ => by simp⟩
  | d :: ds, _, _, h, r => by
    cases h with
    | cons h1 h2 =>
      cases r with
      | cons r1 r2 =>
        obtain ⟨as, q1, n1⟩ := Dd.reads I d _ _ h1 r1
        obtain ⟨bs, q2, n2⟩ := DdAll.reads I ds _ _ h2 r2
        refine ⟨_, ReadsAll.cons q1 q2, fun z => ?_⟩
        simp only [noLstA, Bool.and_eq_true] at z
        intro m
        rcases List.mem_append.mp m with m | m
        · exact n1 z.1 m
        · exact n2 z.2 m
end
/-- repr(x) of data -/
theorem call_reprD (hgu : X.A.guards = some []) (hu : X.A.units + 64 < cLine) : CallR X (.builtin "repr") (fun xs H Q => ∃ v d, xs = [v] ∧ Dd X.K H v d ∧ d.showable = true ∧ (d.hasDict = true → noLst d = true) ∧ d.depth < 60 ∧ d.shown.length ≤ sizeLine ∧ Q (.str d.shown) H) := by
  intro pins s σ H xs us Q I r h
  obtain ⟨v, d, rfl, hd, hs, hdd, hdp, hz, q⟩ := h
  obtain ⟨u, rfl, rv⟩ := vals1 r
  have fin : ∀ a as, u = .ref a → Reads s.heap (.ref a) d as → (noLst d = true → sysModules ∉ as) → wpAny (model X.prog X.w) X.A (call (.builtin "repr") [u]) (EP X pins σ Q) X.xe s := by
    rintro a as rfl rd hn
    refine PySem.repr_of_reads' rd hs (fun z => hn (hdd z)) hgu (by omega) (fun _ _ e => e) (fun h' u tk k => ?_) hz
    exact ⟨.str d.shown, H, I.kept k, ⟨_, rfl⟩, q⟩
  cases hd with
  | non => cases rv; exact PySem.P.repr_of_none ⟨.str _, H, I.tok _, ⟨_, rfl⟩, q⟩
  | bl b => cases rv; exact PySem.P.repr_of_bool ⟨.str _, H, I.tok _, ⟨_, rfl⟩, q⟩
  | int i => obtain ⟨t, rfl⟩ := rv; exact PySem.P.repr_of_int (by simpa [PyData.showable] using hs) ⟨.str _, H, I.tok _, ⟨_, rfl⟩, q⟩
  | str y => obtain ⟨t, rfl⟩ := rv; exact PySem.P.repr_of_str ⟨.str _, H, I.tok _, ⟨_, rfl⟩, q⟩ hz
  | lst h1 h2 =>
    obtain ⟨as, rd, hn⟩ := Dd.reads I _ _ _ (Dd.lst h1 h2) rv
    cases rv
    exact fin _ as rfl rd hn
  | tup h1 h2 =>
    obtain ⟨as, rd, hn⟩ := Dd.reads I _ _ _ (Dd.tup h1 h2) rv
    cases rv
    exact fin _ as rfl rd hn
  | dct h1 =>
    obtain ⟨as, rd, hn⟩ := Dd.reads I _ _ _ (Dd.dct h1) rv
    cases rv
    exact fin _ as rfl rd hn
end
end Vf
end
section
set_option Elab.async false
set_option linter.all false
set_option maxRecDepth 100000
set_option maxHeartbeats 4000000
/-! The end of a law's row whose law is such a def. -/
namespace Vf
open PySem PySem.Spec PyProof.Rows L2 GxR
section
variable {P : Program} {w : World} {K : PySem.W.Frag} {mg mb : Str → Option Value} {CX : CXT} {k : Nat} {fa a : Addr} {cs : List (Addr × Addr)} {fd : FuncData} {x : Str} {sp : Sp} {s₁ : Shared} {vs : List Value} {ns : List Int}

/-- the script's own object -/
abbrev lo (vs : List Value) : Obj := { cls := .type "list", data := .seq vs.toArray }
/-- what is tracked where the law is called -/
def H1st (K : PySem.W.Frag) (T : List Addr) (a : Addr) (vs : List Value) (ns : List Int) : Hp := fun b =>
  if b ∈ T then some (.tbl #[]) else if b = a ∧ K.lookup a = none then some (.frz (lo vs) (.lst (ns.map V.int))) else none
theorem H1st_tab {T : List Addr} {b : Addr} (h : b ∈ T) : H1st K T a vs ns b = some (.tbl #[]) := if_pos h
theorem H1st_cases (T : List Addr) (b : Addr) : (b ∈ T ∧ H1st K T a vs ns b = some (.tbl #[])) ∨ (b ∉ T ∧ b = a ∧ K.lookup a = none ∧ H1st K T a vs ns b = some (.frz (lo vs) (.lst (ns.map V.int)))) ∨ (b ∉ T ∧ H1st K T a vs ns b = none) := by
  unfold H1st
  by_cases h1 : b ∈ T
  · exact Or.inl ⟨h1, if_pos h1⟩
  · by_cases h2 : b = a ∧ K.lookup a = none
    · exact Or.inr (Or.inl ⟨h1, h2.1, h2.2, by rw [if_neg h1, if_pos h2]⟩)
    · exact Or.inr (Or.inr ⟨h1, by rw [if_neg h1, if_neg h2]⟩)

theorem law_callG (inK : K.In s₁.heap) (gl : s₁.heap.Ns mainGlobals mg) (bl : s₁.heap.Ns builtinsNs mb) (bb : ∀ x : Str, x ≠ "__name__" → mb x = bootBuiltins x) (nl : s₁.heap.NoLimit) (ge : s₁.gens = #[])
    (tE : ∀ p ∈ cs, s₁.heap.get? p.2 = some { cls := .none, data := .fields #[] }) (tK : ∀ p ∈ cs, K.lookup p.2 = none) (cH : ∀ p ∈ cs, PySem.W.CodeHd s₁.heap p.1 p.2)
    (bM : ∃ (bm : Addr) (ob : Obj), mg "__builtins__" = some (.ref bm) ∧ bm ≠ builtinsNs ∧ s₁.heap.get? bm = some ob ∧ ob.cls = .type "module" ∧ ob.dict = some builtinsNs ∧ ob.data = .plain)
    (aL : s₁.heap.get? a = some (lo vs)) (iA : IntsAre vs ns) (nz : ns.length ≤ sizeLine) (hr : Room k callerA)
    (F : ∀ base : Heap, K.In base → base.Ns mainGlobals mg → (∀ p ∈ cs, TabB base mg p.1 p.2) → FnG P w K mg base CX k fa fd [x] sp) (bnd : ∀ (s : Shared) (u : Value), BindsTo s fd ⟨[u], []⟩ [(x, u)])
    (hsp : ∀ H : Hp, (∀ p ∈ cs, H p.2 = some (.tbl #[])) → (∀ b, H b = none ∨ b ∈ cs.map (·.2) ∨ b = a) → SqL K H a (ns.map V.int) → sp [.ref a] H (fun v _ => v = .bl true) fun _ _ _ => False)
    (nX : ∀ H e s', CX [] H s₁ (fun _ _ _ => False) e s' → False) :
    codeAny (model P w) callerA (.call (.ref fa) ⟨[.ref a], []⟩) (fun r s' => r = .ok (.ret (.bool true)) ∧ OldK s₁.heap s'.heap ∧ s'.os = s₁.os ∧ AllBare s'.gens) s₁ := by
  have vl := vals_ints iA
  have ln := iA.length
  generalize eT : cs.map (·.2) = T at hsp
  have inT : ∀ p ∈ cs, p.2 ∈ T := fun p hp => eT ▸ List.mem_map.mpr ⟨p, hp, rfl⟩
  have ofT : ∀ b ∈ T, ∃ p ∈ cs, p.2 = b := fun b hb => by
    rw [← eT] at hb
    exact List.mem_map.mp hb
  have tO : ∀ b ∈ T, s₁.heap.get? b = some { cls := .none, data := .fields #[] } := fun b hb => by
    obtain ⟨p, hp, rfl⟩ := ofT b hb
    exact tE p hp
  have aT : a ∉ T := fun z => by
    have q := tO a z
    rw [aL] at q
    exact nomatch congrArg Obj.data (Option.some.inj q)
  generalize eH : H1st K T a vs ns = H
  have cas := fun b => eH ▸ H1st_cases (K := K) (a := a) (vs := vs) (ns := ns) T b
  have hT : ∀ b ∈ T, H b = some (.tbl #[]) := fun b hb => eH ▸ H1st_tab hb
  -- an object that is neither a list nor an empty record is not tracked
  have plainO : ∀ {b : Addr} {o : Obj}, s₁.heap.get? b = some o → (∀ ys m, o.data ≠ .seq ys m) → o.data ≠ .fields #[] → H b = none := by
    intro b o e h1 h2
    rcases cas b with ⟨hb, _⟩ | ⟨_, rfl, _, _⟩ | ⟨_, h⟩
    · rw [tO b hb] at e
      exact (h2 (Option.some.inj e ▸ rfl)).elim
    · rw [aL] at e
      cases e
      exact (h1 _ _ rfl).elim
    · exact h
  have nsT : ∀ {b : Addr} {m : Str → Option Value}, s₁.heap.Ns b m → (hidT s₁.heap H).Ns b m := by
    rintro b m ⟨o, es, ep, e, d, r⟩
    exact ⟨o, es, ep, hidT_get e (plainO e (fun ys m z => nomatch d.symm.trans z) fun z => nomatch d.symm.trans z), d, r⟩
  have inB : K.In (hidT s₁.heap H) := fun b o e => by
    refine hidT_get (inK b o e) ?_
    rcases cas b with ⟨hb, _⟩ | ⟨_, rfl, h, _⟩ | ⟨_, h⟩
    · obtain ⟨p, hp, rfl⟩ := ofT b hb
      exact nomatch (tK p hp).symm.trans e
    · exact nomatch h.symm.trans e
    · exact h
  have M : L2.Mod K mg (hidT s₁.heap H) := by
    refine ⟨inB, nsT gl, ⟨mb, nsT bl, bb⟩, ?_⟩
    obtain ⟨mc, h1, h2⟩ := nl
    exact ⟨mc, nsT h1, h2⟩
  have TB : ∀ p ∈ cs, TabB (hidT s₁.heap H) mg p.1 p.2 := by
    intro p hp
    refine ⟨?_, ?_, ?_⟩
    · obtain ⟨o, us, file, tf, flags, tg, inF, text, tt, e1, r1, r2, r3, rest⟩ := cH p hp
      exact ⟨o, us, file, tf, flags, tg, inF, text, tt, hidT_get e1 (plainO e1 (fun ys m z => nomatch r2.symm.trans z) fun z => by
        rw [r2] at z
        injection z with z
        rw [z] at r3
        simp at r3), r1, r2, r3, rest⟩
    · obtain ⟨bm, ob, b1, b2, b3, b4, b5, b6⟩ := bM
      have d1 : ∀ ys m, ob.data ≠ .seq ys m := fun ys m z => nomatch b6.symm.trans z
      have d2 : ob.data ≠ .fields #[] := fun z => nomatch b6.symm.trans z
      refine ⟨bm, ob, b1, b2, ?_, ?_, hidT_get b3 (plainO b3 d1 d2), b4, b5, b6⟩
      · rintro rfl
        obtain ⟨o, es, ep, e, hd, _⟩ := gl
        rw [b3] at e
        rw [Option.some.inj e] at b6
        exact nomatch hd.symm.trans b6
      · rintro rfl
        rw [tE p hp] at b3
        exact d2 (Option.some.inj b3 ▸ rfl)
    · intro z
      obtain ⟨o, es, ep, e, hd, _⟩ := gl
      rw [z, tE p hp] at e
      rw [← Option.some.inj e] at hd
      exact nomatch hd
  have ok : HOk P w H s₁.heap := fun b u e => by
    rcases cas b with ⟨hb, h⟩ | ⟨_, rfl, _, h⟩ | ⟨_, h⟩
    · rw [h] at e
      cases e
      exact tO b hb
    · rw [h] at e
      cases e
      exact ⟨aL, by rw [List.length_map]; exact nz, vs, _, vl, aL⟩
    · rw [h] at e
      cases e
  have SQ : SqL K H a (ns.map V.int) := by
    rcases cas a with ⟨hb, _⟩ | ⟨_, _, _, h⟩ | ⟨_, h⟩
    · exact (aT hb).elim
    · exact Or.inl (Or.inr ⟨_, h⟩)
    · cases q : K.lookup a with
      | none =>
        rw [← eH] at h
        unfold H1st at h
        rw [if_neg aT, if_pos ⟨rfl, q⟩] at h
        cases h
      | some o =>
        have e := inK a o q
        rw [aL] at e
        cases e
        exact Or.inr ⟨_, vs.toArray, _, q, rfl, rfl, rfl, by rw [List.size_toArray, ln]; exact nz, by simpa using vl⟩
  have E0 : Env0 P w K mg (hidT s₁.heap H) callerA [] s₁ H := ⟨rfl, M, fun b o e => of_hidT e, Nat.le_of_eq (hidT_size _ _), trivial, fun b hb => absurd (show b ∈ ([] : List Addr) from hb) (by simp), ok, AllBare.of_eq ge⟩
  have go := (F _ inB (nsT gl) TB).run callerA [] s₁ H ⟨[.ref a], []⟩ [.ref a] [.ref a] _ _ rfl hr E0 (bnd s₁ (.ref a)) (.cons rfl .nil) (hsp H (fun p hp => hT _ (inT p hp)) (fun b => by
    rcases cas b with ⟨hb, _⟩ | ⟨_, h, _, _⟩ | ⟨_, h⟩
    · exact Or.inr (Or.inl hb)
    · exact Or.inr (Or.inr h)
    · exact Or.inl h) SQ)
  refine codeAny_mono go ?_
  intro r s' h
  cases r with
  | error e => exact (nX H e s' h).elim
  | ok fl =>
    cases fl with
    | next => exact h.elim
    | brk => exact h.elim
    | cont => exact h.elim
    | ret u =>
      obtain ⟨v, H', os, bare, un, ok', r', q⟩ := h
      cases (show v = .bl true from q)
      cases (show u = Value.bool true from r')
      have same : ∀ b o, b ∉ T → s₁.heap.get? b = some o → s'.heap.get? b = some o := by
        intro b o nb e
        rcases cas b with ⟨hb, _⟩ | ⟨_, rfl, _, h⟩ | ⟨_, h⟩
        · exact (nb hb).elim
        · rw [aL] at e
          cases e
          exact (ok' b _ (un.frzs b _ _ h)).1
        · exact un.keep b o e h (fun z => absurd (show b ∈ ([] : List Addr) from z) (by simp)) (by simp)
      have grew : ∀ b ∈ T, ∃ more : Array Value, s'.heap.get? b = some { cls := .none, data := .fields more } := fun b hb => by
        obtain ⟨more, z⟩ := un.tbls b #[] (hT b hb)
        exact ⟨_, ok' b _ z⟩
      refine ⟨rfl, ⟨?_, ?_⟩, os, bare⟩
      · intro b o e
        by_cases hb : b ∈ T
        · obtain ⟨more, hm⟩ := grew b hb
          rw [tO b hb] at e
          cases e
          obtain ⟨p, hp, rfl⟩ := ofT b hb
          exact Or.inr (Or.inl ⟨((cH p hp).tab (tE p hp)).isCodeTable, rfl, #[], more, rfl, by rw [Array.empty_append]; exact hm⟩)
        · exact Or.inl (same b o hb e)
      · intro b o e
        by_cases hb : b ∈ T
        · obtain ⟨more, hm⟩ := grew b hb
          exact ⟨_, hm⟩
        · exact ⟨o, same b o hb e⟩
end
/-- what is known of the law at the head's heap -/
def LawAtG (l : PySem.W.OpenLaw) (w : World) (K : PySem.W.Frag) (CX : CXT) (k n : Nat) (x : Str) (mg : Str → Option Value) (fa : Addr) (h : Heap) : Prop :=
  ∃ (fd : FuncData) (cs : List (Addr × Addr)) (sp : Sp), (∀ p ∈ cs, h.get? p.2 = some { cls := .none, data := .fields #[] }) ∧ (∀ p ∈ cs, K.lookup p.2 = none) ∧ (∀ p ∈ cs, PySem.W.CodeHd h p.1 p.2) ∧
    (∀ (s : Shared) (u : Value), BindsTo s fd ⟨[u], []⟩ [(x, u)]) ∧
    (∀ (H : Hp) (a : Addr) (ns : List Int), ns.length ≤ n → (∀ z ∈ ns, Builtin.Int.intBits z ≤ 1048576) → (∀ p ∈ cs, H p.2 = some (.tbl #[])) → (∀ b, H b = none ∨ b ∈ cs.map (·.2) ∨ b = a) → SqL K H a (ns.map V.int) →
      sp [.ref a] H (fun v _ => v = .bl true) fun _ _ _ => False) ∧
    ∀ base : Heap, K.In base → base.Ns mainGlobals mg → (∀ p ∈ cs, TabB base mg p.1 p.2) → FnG l.prog w K mg base CX k fa fd [x] sp
theorem walkG {l : PySem.W.OpenLaw} {n k : Nat} {q : Program} {loose : List Str} {XP : (Str → Option Value) → Heap → Prop} {YP : World → Heap → Prop} {d : DefRec} {CX : World → CXT} {x : Str}
    (hn : l.most = some n) (n2 : n ≤ sizeLine) (nd : d.params.defaults = []) (hr : Room k callerA)
    (F : ∀ (w : World) (mg : Str → Option Value) (fa : Addr) (h : Heap), YP w h → h.Ns mainGlobals mg → mg d.name = some (.ref fa) → ∃ K : PySem.W.Frag, K.In h ∧ LawAtG l w K (CX w) k n x mg fa h)
    (nX : ∀ (w : World) (H : Hp) (s : Shared) (e : Value) (s' : Shared), CX w [] H s (fun _ _ _ => False) e s' → False) :
    PySem.W.WalkO q loose XP YP l.row.toRowW d [] (fun f vs => PySem.call f vs) := by
  refine Att.attach_callB hn nd ?_
  intro w s₀ s₁ mg mb fa o pm cd doc a vs ns G Y ho hd hcd hmg hobj hints hlen hbits hg
  obtain ⟨K, KX, fd, cs, sp, h1, h2, h3, h4, h5, h6⟩ := F w mg fa _ Y G.T.g hmg
  exact law_callG KX G.T.g G.T.b G.T.builtins G.T.nolimit hg h1 h2 h3 G.T.bmain hobj hints (Nat.le_trans hlen n2) hr h6 h4 (fun H hH hO hS => h5 H a ns hlen hbits hH hO hS) fun H e s' => nX w H s₁ e s'
end Vf
end
section
set_option Elab.async false
set_option linter.all false
set_option maxRecDepth 100000
set_option maxHeartbeats 4000000
/-! any, all of a generator expression whose element may call defs. -/
namespace Vf
open PySem PySem.Spec PyProof.Rows L2 GxR

/-- a generator expression's own names, over the names N of the def around (scope sc): own, the slots that it hides -/
structure GOk (N : List Str) (sc scope : Scope) (x : Str) (own : List Nat) : Prop where
  kind : scope.kind = .function
  co : scope.isCoroutine = false
  cell : ∀ y ∈ scope.names, y.2 ≠ .cell
  dot : scope.names.lookup (".0" : Str) = some NameKind.local
  loc : scope.names.lookup x = some .local
  free : ∀ y ∈ scope.names, y.2 = .free → sc.names.lookup y.1 = some .cell ∨ sc.names.lookup y.1 = some .free
  own : ∀ p ∈ N.zipIdx, scope.names.lookup p.1 = some .local → p.2 ∈ own
def gokB (N : List Str) (sc scope : Scope) (x : Str) (own : List Nat) : Bool :=
  (match scope.kind with | .function => true | _ => false) && !scope.isCoroutine && scope.names.all (fun y => decide (y.2 ≠ .cell)) && decide (scope.names.lookup (".0" : Str) = some NameKind.local) && decide (scope.names.lookup x = some .local) &&
  scope.names.all (fun y => decide (y.2 ≠ .free) || decide (sc.names.lookup y.1 = some .cell) || decide (sc.names.lookup y.1 = some .free)) &&
  N.zipIdx.all (fun p => decide (scope.names.lookup p.1 ≠ some .local) || own.contains p.2)
theorem gok_by {N : List Str} {sc scope : Scope} {x : Str} {own : List Nat} (h : gokB N sc scope x own = true) : GOk N sc scope x own := by
  unfold gokB at h
  simp only [Bool.and_eq_true, List.all_eq_true, decide_eq_true_eq, Bool.or_eq_true, Bool.not_eq_true'] at h
  obtain ⟨⟨⟨⟨⟨⟨h1, h2⟩, h3⟩, h4⟩, h5⟩, h6⟩, h7⟩ := h
  refine ⟨?_, h2, h3, h4, h5, fun y hy e => ?_, fun p hp e => ?_⟩
  · split at h1
    · assumption
    · cases h1
  · rcases h6 y hy with (q | q) | q
    · exact absurd e q
    · exact Or.inl q
    · exact Or.inr q
  · rcases h7 p hp with q | q
    · exact absurd e q
    · exact List.contains_iff_mem.mp q

/-- the frame of the generator while it runs: A around it, s and H where it was made, fp its iterator's objects -/
abbrev gcx (X : Cx) (A : Around) (s : Shared) (H : Hp) (genv : Env) (fp : List Addr) : Cx :=
  { X with A := A, s_0 := s, H_0 := H, env := genv, outer := X.stack, stack := genv :: X.stack, ex := fp, fn := fun _ => false, calm := true, pn := [], xe := fun _ _ => False }

theorem over_comp {A : Around} {elt tg iter : Expr} {ifs : List Expr} {scope : Scope} {pos : Pos} {it acc : Value} {env : Env} :
    A.over (.compLoop (.GeneratorExp elt [⟨tg, iter, ifs, 0⟩] scope pos) 0 it acc env) [] = A.deeper env := by
  first
    | rfl
    | (obtain ⟨hd, d, fr, gs, u⟩ := A; simp [Around.over, Around.deeper, marksOver, frameCount, unitsOf, envsOf, guardsOf, pushEnvs, pushGuards, Code.envs, Code.env?, Code.isFrame, Code.guards, Code.isGuard, Code.weight, Code.frames, Code.isCreation, Code.isCaller, Code.cUnits])
theorem over_start {A : Around} {elt tg iter : Expr} {ifs : List Expr} {scope : Scope} {pos : Pos} {it acc : Value} {env : Env} :
    A.over (.compStart (.GeneratorExp elt [⟨tg, iter, ifs, 0⟩] scope pos) 0 it acc env) [] = A.deeper env := by
  first
    | rfl
    | (obtain ⟨hd, d, fr, gs, u⟩ := A; simp [Around.over, Around.deeper, marksOver, frameCount, unitsOf, envsOf, guardsOf, pushEnvs, pushGuards, Code.envs, Code.env?, Code.isFrame, Code.guards, Code.isGuard, Code.weight, Code.frames, Code.isCreation, Code.isCaller, Code.cUnits])

section
variable {X : Cx} {pins : List (Addr × Obj)} {σ : L2.St} {H : Hp} {s : Shared}

/-- the generator's frame as it is made -/
theorem gen_start {A : Around} {scope : Scope} {x : Str} {own : List Nat} {fp : List Addr} {it : Value} {code : Value} {h' h5 : Heap} {g5 : Array GenState} {t5 : Nat} {go : Obj} {a : Addr}
    (hA : A.handled = none) (hAf : A.frames = some (genEnv scope (cloFrom X.env.cells scope.names []) s.heap.objs.size code builtinsNs X.env :: X.stack))
    (I : Inv X pins σ H s) (ok : GOk X.N X.env.scope scope x own) (hfp : ∀ b ∈ fp, FpOk X pins H b ∧ b < s.heap.objs.size)
    (k5 : ∀ b o, s.heap.get? b = some o → h5.get? b = some o) (n5 : h5.Ns s.heap.objs.size (fun y => if y = (".0" : Str) then some it else none)) (b5 : AllBare g5)
    (ha : s.heap.objs.size < a) (ga : h5.get? a = some go) (gd : ∀ v, go.data ≠ .cell v) :
    Inv (gcx X A s H (genEnv scope (cloFrom X.env.cells scope.names []) s.heap.objs.size code builtinsNs X.env) fp) [(a, go)] (wipe σ own) H { s with heap := h5, gens := g5, toks := t5 } := by
  have hfree : ∀ y, (y, NameKind.free) ∈ scope.names → ∃ c, X.env.cells.lookup y = some c := fun y hy => by
    rcases ok.free _ hy rfl with k | k
    · exact I.ok.has _ (.inl k)
    · exact I.ok.has _ (.inr k)
  have cm : ∀ {y c}, (y, c) ∈ cloFrom X.env.cells scope.names [] → X.env.cells.lookup y = some c := fun {y c} hm => by
    rcases cloFrom_mem hm with hm | ⟨h1, rfl⟩
    · cases hm
    · obtain ⟨c, hc⟩ := hfree _ h1
      rw [hc]; rfl
  have cl : ∀ {y c}, (cloFrom X.env.cells scope.names []).lookup y = some c → X.env.cells.lookup y = some c := fun {y c} e => cm (PySem.mem_of_lookup e)
  have lk : ∀ {y}, scope.names.lookup y = some .free → ∃ c, (cloFrom X.env.cells scope.names []).lookup y = some c ∧ X.env.cells.lookup y = some c := fun {y} hl => by
    obtain ⟨c', e'⟩ := mem_lookup (cloFrom_has (cells := X.env.cells) (acc := []) (PySem.mem_of_lookup hl))
    exact ⟨c', e', cl e'⟩
  have nC : ∀ b, b ∈ fp → b ≠ s.heap.objs.size := fun b hb => Nat.ne_of_lt (hfp b hb).2
  refine ⟨⟨I.ok.mod, ok.kind, I.ok.glob, rfl, Nat.le_refl _, fun y z c e1 e2 => I.ok.inj y z c (cl e1) (cl e2), fun y hy => ?_, fun y c e => Bool.noConfusion (show false = true from e), fun _ => hA, hAf, .inr ⟨rfl, rfl⟩, fun b hb => ⟨nC b hb, fun y c e z => ?_⟩, I.bs,
      Nat.le_trans I.ok.bsz I.sz, fun b o e hb => ?_, fun b hb z => ?_, I.stack, I.stkFree⟩, rfl, b5, Un.kept k5, ⟨_, n5, fun i y v e1 e2 e3 => ?_⟩, fun y c e => ?_, I.hok.fresh (Nat.le_refl _), fun y c e => I.freeC y c (cl e), fun p hp => ?_, I.hok.kept k5, by rw [wipe_length]; exact I.len⟩
  · have hy : scope.names.lookup y = some .cell ∨ scope.names.lookup y = some .free := hy
    rcases hy with hy | hy
    · exact absurd rfl (ok.cell _ (PySem.mem_of_lookup hy))
    · obtain ⟨c, h1, _⟩ := lk hy
      exact ⟨c, h1⟩
  · exact (hfp b hb).1.2.2.2.2.1 y c (cl e) z
  · rcases (hfp b hb).1.2.2.2.1 with z | z
    · exact I.ok.noex b o e z
    · exact absurd (Nat.lt_of_lt_of_le (Heap.lt_size e) (Nat.le_trans I.ok.bsz z)) (Nat.lt_irrefl _)
  · rcases List.mem_cons.mp (I.stkSub b z) with z | z
    · exact (hfp b hb).1.2.1 z
    · exact (hfp b hb).1.2.2.1 z
  · obtain ⟨e2, hne⟩ := wipe_some e2
    have e3 : scope.names.lookup y = some .local ∨ scope.names.lookup y = some .cell ∨ scope.names.lookup y = some .free := e3
    have e1' : X.N[i]? = some y := e1
    rcases e3 with e3 | e3 | e3
    · have hm : (y, i) ∈ X.N.zipIdx := by
        rw [List.mem_zipIdx_iff_getElem?]
        exact e1'
      exact absurd (ok.own _ hm e3) hne
    · exact absurd rfl (ok.cell _ (PySem.mem_of_lookup e3))
    · obtain ⟨m, hn, hl⟩ := I.loc
      have hsc := ok.free _ (PySem.mem_of_lookup e3) rfl
      obtain ⟨u, r, q⟩ := hl i y v e1' e2 (hsc.elim (fun k => .inr (.inl k)) fun k => .inr (.inr k))
      obtain ⟨c, h1, h2⟩ := lk e3
      refine ⟨u, r, .inr ⟨.inr e3, c, h1, ?_⟩⟩
      rcases q with ⟨k, _⟩ | ⟨_, c', e', z⟩
      · have k : X.env.scope.names.lookup y = some .local := k
        rcases hsc with k' | k' <;> (have k' : X.env.scope.names.lookup y = _ := k'; rw [k] at k'; cases k')
      · rw [h2] at e'; cases e'
        exact z.keeps k5
  · obtain ⟨v, z⟩ := I.cell y c (cl e)
    exact ⟨v, z.keeps k5⟩
  · have hp : p ∈ ([] : List (Addr × Obj)) ++ [(a, go)] := hp
    simp only [List.nil_append, List.mem_singleton] at hp
    subst hp
    refine ⟨ga, I.hok.fresh (Nat.le_of_lt ha), Nat.ne_of_gt ha, fun z => ?_, gd⟩
    have z : a ∈ frs X.stack := z
    rcases List.mem_cons.mp (I.stkSub a z) with z | z
    · have := I.lt
      rw [← z] at this
      exact absurd (Nat.lt_trans this ha) (Nat.lt_irrefl _)
    · exact I.nofs (Nat.le_of_lt ha) z
end
end Vf
end
section
set_option Elab.async false
set_option linter.all false
set_option maxRecDepth 100000
set_option maxHeartbeats 4000000
namespace Vf
open PySem PySem.Spec PyProof.Rows L2 GxR

/-- while the generator sleeps nothing happens to the heap -/
structure Slp (s s' : Shared) : Prop where
  os : s'.os = s.os
  bare : AllBare s'.gens
  heap : s'.heap = s.heap
theorem Inv.slp {X : Cx} {pins : List (Addr × Obj)} {σ : L2.St} {H : Hp} {s s' : Shared} (I : Inv X pins σ H s) (z : Slp s s') : Inv X pins σ H s' := by
  obtain ⟨h1, h2, h3⟩ := z
  exact I.call' (ch := []) h1 (by rw [h3]; exact Un.refl) (by rw [h3]; exact I.hok) h2 (fun b hb => absurd hb (by simp))

/-- what the turns of an any (cont false), an all (cont true) are to reach -/
def Turns (cont : Bool) (j : Nat) (σ0 : L2.St) (tt : TT) (te : TE) (J : It) (Q : VK) (W : Nat → Nat → Hp → Prop) : Prop :=
  ∀ i m H, W i m H → (J.stop i H ∧ Q (.bl cont) H) ∨ (J.go i H ∧ ∃ Nx : Hp → Prop, (∀ H', Nx H' → ∃ m', m' < m ∧ W (i + 1) m' H') ∧ ∀ y H', J.yld i H y H' →
    tt (σ0.set j (some y)) H' fun b H3 => if b = true then te (σ0.set j (some y)) H3 fun z H4 => ∃ c, z = .bl c ∧ (if c = cont then Nx H4 else Q (.bl (!cont)) H4) else Nx H3)
def GPr (Xg : Cx) (pin : List (Addr × Obj)) (σ0 : L2.St) (Q : VK) (cont : Bool) : Protocol := fun n s₀ v s kap =>
  ∃ c H, v = .bool c ∧ Inv Xg pin σ0 H s ∧ (if c = cont then ∀ s', Slp s s' → kap (.send .none) s' else Q (.bl (!cont)) H)
def GRe (Xg : Cx) (pin : List (Addr × Obj)) (σ0 : L2.St) (Q : VK) (cont : Bool) : GenEnd := fun n s₀ r s => r = .ok .next ∧ ∃ H, Inv Xg pin σ0 H s ∧ Q (.bl cont) H

section
variable {Xg : Cx} {A : Around} {elt iter : Expr} {ifs : List Expr} {x : Str} {px : Pos} {scope : Scope} {pos : Pos} {it : Addr} {fp : List Addr} {tn : Nat → Heap → Prop} {J : It} {pin : List (Addr × Obj)} {j : Nat} {tt : TT} {te : TE} {σ0 : L2.St}
  {Q : VK} {W : Nat → Nat → Hp → Prop} {cont : Bool}
theorem seg_gl (hc : Xg.calm = true) (hov : A.deeper Xg.env = Xg.A) (T : Turn Xg.prog Xg.w Xg.K (.Name x px) J fp it tn) (hpn : Xg.pn = []) (hex : Xg.ex = fp) (hpin : ∀ p ∈ pin, p.1 ∉ fp)
    (pg : PG Xg (.Name x px) (gName j)) (pt : PTs Xg ifs tt) (pe : PE Xg elt te) (h0 : ∀ v, σ0[j]? ≠ some (some v)) (hco : Xg.env.scope.isCoroutine = false) (hxe : Xg.xe = fun _ _ => False) (tu : Turns cont j σ0 tt te J Q W) :
    ∀ (m n i : Nat) (s₀ s : Shared) (H : Hp), m < n → Inv Xg pin σ0 H s → tn i s.heap → (∀ b ∈ fp, H b = none) → W i m H →
      Seg (model Xg.prog Xg.w) A (GRe Xg pin σ0 Q cont) (GPr Xg pin σ0 Q cont) n s₀ (.compLoop (.GeneratorExp elt [⟨.Name x px, iter, ifs, 0⟩] scope pos) 0 (.ref it) .none Xg.env)
        ((model Xg.prog Xg.w).den (.compLoop (.GeneratorExp elt [⟨.Name x px, iter, ifs, 0⟩] scope pos) 0 (.ref it) .none Xg.env)) [] s := by
  have stat : ∀ {σ' : L2.St} {H' : Hp} {s' : Shared}, Inv Xg pin σ' H' s' → (∀ b ∈ fp, H' b = none) → ∀ b ∈ fp, FpOk Xg pin H' b := fun {σ' H' s'} I' hn b hb => by
    have hb' : b ∈ Xg.ex := hex ▸ hb
    refine ⟨hn b hb, (I'.ok.exf b hb').1, I'.ok.exfs b hb', .inl hb', fun x c e => (I'.ok.exf b hb').2 x c e, fun p hp z => ?_⟩
    rw [hpn, List.nil_append] at hp
    exact hpin p hp (z ▸ hb)
  have oA : A.over (.compLoop (.GeneratorExp elt [⟨.Name x px, iter, ifs, 0⟩] scope pos) 0 (.ref it) .none Xg.env) [] = Xg.A := over_comp.trans hov
  intro m
  induction m using Nat.strongRecOn with
  | _ m ih =>
  intro n i s₀ s H hmn I st nf w
  show Seg _ A _ _ _ s₀ _ ((compTurn (.GeneratorExp elt [⟨.Name x px, iter, ifs, 0⟩] scope pos) 0 (.ref it) .none Xg.env).onRaise (leaving Xg.env)) [] s
  rw [compTurn_gen, Sem.onRaise_eq_wrap]
  refine seg_bind_wrap (wpAny_standAt ?_)
  rcases tu i m H w with ⟨stop, qq⟩ | ⟨go, Nx, hNx, step⟩
  · refine seg_bind_wrap ?_
    rw [oA]
    refine thnF (T.done Xg rfl rfl rfl hc i pin s _ H (fun _ _ => False) I (stat I nf) st stop) fun r s1 ⟨hr, I1⟩ => ?_
    subst hr
    exact seg_end (.ok .next) ⟨rfl, H, I1, qq⟩
  · refine seg_bind_wrap ?_
    rw [oA]
    refine thnF (T.item Xg rfl rfl rfl hc i pin s _ H (fun _ _ => False) I (stat I nf) st go) fun r s1 ⟨u, hr, h1⟩ => ?_
    subst hr
    refine seg_bind_wrap ?_
    rw [oA]
    refine thnF h1 fun _ s2 ⟨y, H2, I2, r2, y2, st2, n2⟩ => ?_
    have I2' := I2.pinned (stat I2 n2) (T.obj _ _ st2)
    refine seg_bind_wrap ?_
    rw [oA]
    refine wpAny_mono (pg.run _ s2 _ H2 y u (fun σ' H' => σ' = σ0.set j (some y) ∧ H' = H2) I2' r2 ⟨rfl, rfl⟩) (fun _ s3 ⟨σ3, H3, I3, e3, e4⟩ => ?_) (fun e s' z => by rw [hxe] at z; exact z.elim)
    subst e3
    subst e4
    -- the turn's end
    have fin : ∀ {s' : Shared} {H' : Hp}, Inv Xg (pin ++ pinsAt fp s2.heap) (σ0.set j (some y)) H' s' → Inv Xg pin σ0 H' s' ∧ tn (i + 1) s'.heap ∧ ∀ b ∈ fp, H' b = none := fun {s' H'} I' => by
      have pin' : ∀ b ∈ fp, ∀ o, s2.heap.get? b = some o → s'.heap.get? b = some o ∧ H' b = none := fun b hb o e =>
        let z := I'.pin (b, o) (List.mem_append_right _ (List.mem_append_right _ (mem_pinsAt hb e)))
        ⟨z.1, z.2.1⟩
      refine ⟨I'.unpinned.weak (by rw [List.length_set]) (fun k v e => ?_), T.keep _ _ _ st2 fun b hb o e => (pin' b hb o e).1, fun b hb => ?_⟩
      · by_cases hk : j = k
        · subst hk
          exact absurd e (h0 v)
        · rw [List.getElem?_set_ne hk]
          exact e
      · obtain ⟨o, e, _⟩ := T.obj _ _ st2 b hb
        exact (pin' b hb o e).2
    refine seg_bind_wrap ?_
    rw [oA]
    refine wpAny_mono (pt.run _ s3 _ H3 _ I3 (step y H3 y2)) (fun b s4 ⟨H4, I4, q4⟩ => ?_) (fun e s' z => by rw [hxe] at z; exact z.elim)
    cases b with
    | false =>
      simp only [Bool.false_eq_true, if_false] at q4 ⊢
      obtain ⟨m', hm, w'⟩ := hNx _ q4
      obtain ⟨I5, st5, n5⟩ := fin I4
      exact seg_again rfl (ih m' hm n (i + 1) s₀ s4 H4 (by omega) I5 st5 n5 w')
    | true =>
      simp only [if_true] at q4 ⊢
      have hy : ∀ v, yieldOut Xg.env v = yieldValue v := fun v => by simp only [yieldOut, hco, Bool.false_eq_true, if_false]
      simp only [hy]
      rw [Sem.bind_eq_wrap', Sem.bind_eq_wrap', Sem.wrap_wrap, Sem.wrap_wrap]
      refine seg_wrap ?_
      rw [oA]
      refine wpAny_mono (pe.run _ s4 _ H4 _ I4 q4) (fun v s5 ⟨z, H5, I5, r5, c, hz, q5⟩ => ?_) (fun e s' z => by rw [hxe] at z; exact z.elim)
      subst hz
      cases r5
      obtain ⟨I6, st6, n6⟩ := fin I5
      obtain ⟨n', rfl⟩ : ∃ n', n = n' + 1 := ⟨n - 1, by omega⟩
      refine seg_at (seg_yield rfl rfl rfl ⟨c, H5, rfl, I6, ?_⟩)
      by_cases hcc : c = cont
      · rw [if_pos hcc] at q5 ⊢
        intro s6 z6
        obtain ⟨m', hm, w'⟩ := hNx _ q5
        exact seg_again rfl (ih m' hm n' (i + 1) s6 s6 H5 (by omega) (Inv.slp I6 z6) (by rw [z6.heap]; exact st6) n6 w')
      · rw [if_neg hcc] at q5 ⊢
        exact q5
end
end Vf
end
section
set_option Elab.async false
set_option linter.all false
set_option maxRecDepth 100000
set_option maxHeartbeats 4000000
namespace Vf
open PySem PySem.Spec PyProof.Rows L2 GxR GenW
section
variable {Xg : Cx} {A : Around} {elt iter : Expr} {ifs : List Expr} {x : Str} {px : Pos} {scope : Scope} {pos : Pos} {it : Addr} {fp : List Addr} {tn : Nat → Heap → Prop} {J : It} {pin : List (Addr × Obj)} {j : Nat} {tt : TT} {te : TE} {σ0 : L2.St}
  {Q : VK} {W : Nat → Nat → Hp → Prop} {cont : Bool}
theorem seg_gst (hov : A.deeper Xg.env = Xg.A) (T : Turn Xg.prog Xg.w Xg.K (.Name x px) J fp it tn) {n : Nat} {s₀ s : Shared} (st : tn 0 s.heap)
    (loop : Seg (model Xg.prog Xg.w) A (GRe Xg pin σ0 Q cont) (GPr Xg pin σ0 Q cont) n s₀ (.compLoop (.GeneratorExp elt [⟨.Name x px, iter, ifs, 0⟩] scope pos) 0 (.ref it) .none Xg.env)
        ((model Xg.prog Xg.w).den (.compLoop (.GeneratorExp elt [⟨.Name x px, iter, ifs, 0⟩] scope pos) 0 (.ref it) .none Xg.env)) [] s) :
      Seg (model Xg.prog Xg.w) A (GRe Xg pin σ0 Q cont) (GPr Xg pin σ0 Q cont) n s₀ (.compStart (.GeneratorExp elt [⟨.Name x px, iter, ifs, 0⟩] scope pos) 0 (.ref it) .none Xg.env)
        ((model Xg.prog Xg.w).den (.compStart (.GeneratorExp elt [⟨.Name x px, iter, ifs, 0⟩] scope pos) 0 (.ref it) .none Xg.env)) [] s := by
  show Seg _ A _ _ _ s₀ _ ((compStart (.GeneratorExp elt [⟨.Name x px, iter, ifs, 0⟩] scope pos) 0 (.ref it) .none Xg.env).onRaise (leaving Xg.env)) [] s
  unfold compStart
  rw [Sem.onRaise_eq_wrap]
  show Seg _ A _ _ _ s₀ _ ((ask >>= _).wrap _ _ _ _) [] s
  refine seg_bind_wrap (wpAny_askSetting ?_)
  split
  · exact seg_again rfl loop
  · first
      | exact seg_bind_wrap (wpAny_rule (seg_bind_wrap (wpAny_standAt (seg_bind_wrap (T.self _ 0 s _ _ st (seg_again rfl loop))))))
      | (refine seg_bind_wrap (wpAny_rule ?_); show Seg _ A _ _ _ s₀ _ ((standAt iter.pos >>= _).wrap _ _ _ _) [] s; exact seg_bind_wrap (wpAny_standAt (seg_bind_wrap (T.self _ 0 s _ _ st (seg_again rfl loop)))))

/-- all over such a generator -/
theorem all_loop {R : Result → Shared → Prop} {a : Addr} {g : Nat} {go : Obj} (hh : A.handled = none) (hd : A.depth < recursionLimit) (hgo : ∀ h : Heap, h.get? a = some go → h.IsGen a g)
    (hR : ∀ b H' s', Inv Xg [(a, go)] σ0 H' s' → Q (.bl b) H' → R (.ok (.ret (.bool b))) s') :
    ∀ (n : Nat) (s : Shared) (H : Hp), Inv Xg [(a, go)] σ0 H s →
      (∃ gs, s.gens[g]? = some gs ∧ gs.Goes (model Xg.prog Xg.w) A.in1.in1 (GRe Xg [(a, go)] σ0 Q true) (GPr Xg [(a, go)] σ0 Q true) n (.send .none) (s.setGen g .running)) →
      codeAny (model Xg.prog Xg.w) A (.builtin "all.loop" ⟨[.ref a], []⟩) R s := by
  intro n
  induction n with
  | zero =>
    intro s H I ⟨gs, hgs, go1⟩
    have pa : s.heap.get? a = some go := (I.pin (a, go) (List.mem_append_right _ (List.mem_singleton.mpr rfl))).1
    refine codeAny_builtin F.entry_all_loop ?_
    rw [Around.under_plainId F.plain_all_loop _]
    show wpAny _ A.in1 (pyNext (.ref a) >>= _) _ _ s
    refine wpAny_bind (wpAny_pyNext_genexpQ (A := A.in1) (P := fun n s₀ s₁ => ∃ H', Inv Xg [(a, go)] σ0 H' s₁ ∧ Q (.bl true) H') hh I.nolimit hd (hgo _ pa) hgs go1 (fun v s1 gs' hb hv => ?_) (fun s1 hp h' hk => ?_))
    · obtain ⟨c, H1, rfl, I1, q1⟩ := hv
      by_cases hc : c = true
      · rw [if_pos hc] at q1
        exact (q1 s1 ⟨rfl, I1.bare, rfl⟩).elim
      · rw [if_neg hc] at q1
        have hc' : c = false := by simpa using hc
        subst hc'
        refine wpAny_bind (wpAny_holding (wpAny_truthy_bool ?_))
        refine wpAny_bind (wpAny_letGo ?_)
        simp only [Bool.false_eq_true, if_false]
        exact wpAny_bind (wpAny_rule (wpAny_pure (hR false H1 _ (Inv.slp I1 ⟨rfl, allBare_setGen I1.bare hb, rfl⟩) q1)))
    · obtain ⟨H1, I1, q1⟩ := hp
      refine wpAny_bind (wpAny_rule (wpAny_pure (hR true H1 _ ?_ q1)))
      exact I1.call' (ch := []) rfl (Un.kept hk) (I1.hok.kept hk) (allBare_setGen I1.bare rfl) (fun b hb => absurd hb (by simp))
  | succ m ih =>
    intro s H I ⟨gs, hgs, go1⟩
    have pa : s.heap.get? a = some go := (I.pin (a, go) (List.mem_append_right _ (List.mem_singleton.mpr rfl))).1
    have hgl : g < s.gens.size := (Array.getElem?_eq_some_iff.mp hgs).1
    refine codeAny_builtin F.entry_all_loop ?_
    rw [Around.under_plainId F.plain_all_loop _]
    show wpAny _ A.in1 (pyNext (.ref a) >>= _) _ _ s
    refine wpAny_bind (wpAny_gsz (n := g + 1) hgl (wpAny_pyNext_genexpQ (A := A.in1) (P := fun n s₀ s₁ => ∃ H', Inv Xg [(a, go)] σ0 H' s₁ ∧ Q (.bl true) H') hh I.nolimit hd (hgo _ pa) hgs go1 (fun v s1 gs' hb hv => ?_) (fun s1 hp h' hk => ?_)))
    · intro hsz
      obtain ⟨c, H1, rfl, I1, q1⟩ := hv
      have I2 := Inv.slp I1 (s' := s1.setGen g gs') ⟨rfl, allBare_setGen I1.bare hb, rfl⟩
      by_cases hc : c = true
      · rw [if_pos hc] at q1
        subst hc
        refine wpAny_bind (wpAny_holding (wpAny_truthy_bool ?_))
        refine wpAny_bind (wpAny_letGo ?_)
        simp only [if_true]
        have hsz1 : g < s1.gens.size := by
          have q : (s1.setGen g gs').gens.size = s1.gens.size := setGen_size _ _ _
          have hsz' : g + 1 ≤ (s1.setGen g gs').gens.size := hsz
          omega
        refine wpAny_pure ⟨plainId_quiet F.plain_all_loop _, ih _ H1 I2 ⟨gs', setGen_at hsz1, ?_⟩⟩
        exact q1 _ ⟨rfl, allBare_setGen (s := s1.setGen g gs') (allBare_setGen I1.bare hb) rfl, rfl⟩
      · rw [if_neg hc] at q1
        have hc' : c = false := by simpa using hc
        subst hc'
        refine wpAny_bind (wpAny_holding (wpAny_truthy_bool ?_))
        refine wpAny_bind (wpAny_letGo ?_)
        simp only [Bool.false_eq_true, if_false]
        exact wpAny_bind (wpAny_rule (wpAny_pure (hR false H1 _ I2 q1)))
    · intro _
      obtain ⟨H1, I1, q1⟩ := hp
      refine wpAny_bind (wpAny_rule (wpAny_pure (hR true H1 _ ?_ q1)))
      exact I1.call' (ch := []) rfl (Un.kept hk) (I1.hok.kept hk) (allBare_setGen I1.bare rfl) (fun b hb => absurd hb (by simp))
/-- any over such a generator -/
theorem any_loop {R : Result → Shared → Prop} {a : Addr} {g : Nat} {go : Obj} (hh : A.handled = none) (hd : A.depth < recursionLimit) (hgo : ∀ h : Heap, h.get? a = some go → h.IsGen a g)
    (hR : ∀ b H' s', Inv Xg [(a, go)] σ0 H' s' → Q (.bl b) H' → R (.ok (.ret (.bool b))) s') :
    ∀ (n : Nat) (s : Shared) (H : Hp), Inv Xg [(a, go)] σ0 H s →
      (∃ gs, s.gens[g]? = some gs ∧ gs.Goes (model Xg.prog Xg.w) A.in1.in1 (GRe Xg [(a, go)] σ0 Q false) (GPr Xg [(a, go)] σ0 Q false) n (.send .none) (s.setGen g .running)) →
      codeAny (model Xg.prog Xg.w) A (.builtin "any.loop" ⟨[.ref a], []⟩) R s := by
  intro n
  induction n with
  | zero =>
    intro s H I ⟨gs, hgs, go1⟩
    have pa : s.heap.get? a = some go := (I.pin (a, go) (List.mem_append_right _ (List.mem_singleton.mpr rfl))).1
    refine codeAny_builtin F.entry_any_loop ?_
    rw [Around.under_plainId F.plain_any_loop _]
    show wpAny _ A.in1 (pyNext (.ref a) >>= _) _ _ s
    refine wpAny_bind (wpAny_pyNext_genexpQ (A := A.in1) (P := fun n s₀ s₁ => ∃ H', Inv Xg [(a, go)] σ0 H' s₁ ∧ Q (.bl false) H') hh I.nolimit hd (hgo _ pa) hgs go1 (fun v s1 gs' hb hv => ?_) (fun s1 hp h' hk => ?_))
    · obtain ⟨c, H1, rfl, I1, q1⟩ := hv
      by_cases hc : c = false
      · rw [if_pos hc] at q1
        exact (q1 s1 ⟨rfl, I1.bare, rfl⟩).elim
      · rw [if_neg hc] at q1
        have hc' : c = true := by simpa using hc
        subst hc'
        refine wpAny_bind (wpAny_holding (wpAny_truthy_bool ?_))
        refine wpAny_bind (wpAny_letGo ?_)
        simp only [if_true]
        exact wpAny_bind (wpAny_rule (wpAny_pure (hR true H1 _ (Inv.slp I1 ⟨rfl, allBare_setGen I1.bare hb, rfl⟩) q1)))
    · obtain ⟨H1, I1, q1⟩ := hp
      refine wpAny_bind (wpAny_rule (wpAny_pure (hR false H1 _ ?_ q1)))
      exact I1.call' (ch := []) rfl (Un.kept hk) (I1.hok.kept hk) (allBare_setGen I1.bare rfl) (fun b hb => absurd hb (by simp))
  | succ m ih =>
    intro s H I ⟨gs, hgs, go1⟩
    have pa : s.heap.get? a = some go := (I.pin (a, go) (List.mem_append_right _ (List.mem_singleton.mpr rfl))).1
    have hgl : g < s.gens.size := (Array.getElem?_eq_some_iff.mp hgs).1
    refine codeAny_builtin F.entry_any_loop ?_
    rw [Around.under_plainId F.plain_any_loop _]
    show wpAny _ A.in1 (pyNext (.ref a) >>= _) _ _ s
    refine wpAny_bind (wpAny_gsz (n := g + 1) hgl (wpAny_pyNext_genexpQ (A := A.in1) (P := fun n s₀ s₁ => ∃ H', Inv Xg [(a, go)] σ0 H' s₁ ∧ Q (.bl false) H') hh I.nolimit hd (hgo _ pa) hgs go1 (fun v s1 gs' hb hv => ?_) (fun s1 hp h' hk => ?_)))
    · intro hsz
      obtain ⟨c, H1, rfl, I1, q1⟩ := hv
      have I2 := Inv.slp I1 (s' := s1.setGen g gs') ⟨rfl, allBare_setGen I1.bare hb, rfl⟩
      by_cases hc : c = false
      · rw [if_pos hc] at q1
        subst hc
        refine wpAny_bind (wpAny_holding (wpAny_truthy_bool ?_))
        refine wpAny_bind (wpAny_letGo ?_)
        simp only [Bool.false_eq_true, if_false]
        have hsz1 : g < s1.gens.size := by
          have q : (s1.setGen g gs').gens.size = s1.gens.size := setGen_size _ _ _
          have hsz' : g + 1 ≤ (s1.setGen g gs').gens.size := hsz
          omega
        refine wpAny_pure ⟨plainId_quiet F.plain_any_loop _, ih _ H1 I2 ⟨gs', setGen_at hsz1, ?_⟩⟩
        exact q1 _ ⟨rfl, allBare_setGen (s := s1.setGen g gs') (allBare_setGen I1.bare hb) rfl, rfl⟩
      · rw [if_neg hc] at q1
        have hc' : c = true := by simpa using hc
        subst hc'
        refine wpAny_bind (wpAny_holding (wpAny_truthy_bool ?_))
        refine wpAny_bind (wpAny_letGo ?_)
        simp only [if_true]
        exact wpAny_bind (wpAny_rule (wpAny_pure (hR true H1 _ I2 q1)))
    · intro _
      obtain ⟨H1, I1, q1⟩ := hp
      refine wpAny_bind (wpAny_rule (wpAny_pure (hR false H1 _ ?_ q1)))
      exact I1.call' (ch := []) rfl (Un.kept hk) (I1.hok.kept hk) (allBare_setGen I1.bare rfl) (fun b hb => absurd hb (by simp))
end
end Vf
end
section
set_option Elab.async false
set_option linter.all false
set_option maxRecDepth 100000
set_option maxHeartbeats 4000000
namespace Vf
open PySem PySem.Spec PyProof.Rows L2 GxR GenW
/-- H' is H but for the table at P, which has grown -/
def Tabb (P : Addr) (H H' : Hp) : Prop := ∃ ps more : Array Value, H P = some (.tbl ps) ∧ TriplesOk ps.toList ∧ TriplesOk (ps ++ more).toList ∧ H' = upd H P (.tbl (ps ++ more))
section
variable {X : Cx} {pins : List (Addr × Obj)} {σ : L2.St} {H : Hp} {s : Shared}
/-- a generator that has been made -/
structure GM (X : Cx) (pins : List (Addr × Obj)) (σ : L2.St) (own : List Nat) (elt iter : Expr) (ifs : List Expr) (x : Str) (px gpos : Pos) (scope : Scope) (J : It) (H4 : Hp) (a : Addr) (s5 : Shared) (s4 : Shared) (genv : Env) (fp : List Addr) (tn : Nat → Heap → Prop) (it : Addr) (go : Obj) (g : Nat) : Prop where
  outer : Inv X pins σ H4 s4
  inner : ∀ A : Around, A.handled = none → A.frames = some (genv :: X.stack) → Inv (gcx X A s4 H4 genv fp) [(a, go)] (wipe σ own) H4 s5
  turn : Turn X.prog X.w X.K (.Name x px) J fp it tn
  at0 : tn 0 s5.heap
  fpo : ∀ b ∈ fp, FpOk X pins H4 b
  gen : ∀ h : Heap, h.get? a = some go → h.IsGen a g
  fresh : s5.gens[g]? = some (.fresh (.compStart (.GeneratorExp elt [⟨.Name x px, iter, ifs, 0⟩] scope gpos) 0 (.ref it) .none genv))
  env : ∃ C code, genv = genEnv scope (cloFrom X.env.cells scope.names []) C code builtinsNs X.env
  nfp : a ∉ fp
theorem gen_mk {c P : Addr} {elt iter : Expr} {ifs : List Expr} {x : Str} {px gpos : Pos} {scope : Scope} {own : List Nat} {wi : TI} {k : Nat} {R : It → Hp → Prop}
    (hr : Room k X.A) (TB : TabB X.base X.mg c P) (hcode : X.env.code = .ref c) (ok : GOk X.N X.env.scope scope x own) (hi : PI X (.Name x px) iter wi)
    (hs : ∀ v, genFold iter X.env v = pure v) (I : Inv X pins σ H s) (h : wi σ H fun J H1 => TabG H1 P ∧ ∀ H2, Tabb P H1 H2 → R J H2) :
    wpAny (model X.prog X.w) X.A (eval (.GeneratorExp elt [⟨.Name x px, iter, ifs, 0⟩] scope gpos) X.env)
      (fun gv s5 => ∃ J H4 a s4 genv fp tn it go g, gv = .ref a ∧ R J H4 ∧ GM X pins σ own elt iter ifs x px gpos scope J H4 a s5 s4 genv fp tn it go g) X.xe s := by
  have hfree : ∀ y ∈ scope.names, y.2 = .free → ∃ c, X.env.cells.lookup y.1 = some c := fun y hy e => by
    rcases ok.free y hy e with k | k
    · exact I.ok.has _ (.inl k)
    · exact I.ok.has _ (.inr k)
  refine wpAny_GeneratorExp_make ok.co (closure_ok hfree) ok.cell ok.dot ok.kind (by have := hr.dp; omega) ?_ hs
  refine thn (hi.run pins s σ H _ I h) fun xv s1 hx => thn hx fun itv s2 h2 => ?_
  obtain ⟨it, fp, tn, J, H2, e, I2, T, st2, f2, ⟨ps, hP, ht⟩, hR⟩ := h2
  subst e
  refine ⟨I2.nolimit, ?_⟩
  have oP : s2.heap.get? P = some { cls := .none, data := .fields ps } := I2.hok P _ hP
  have nPfp : ∀ b ∈ fp, b ≠ P := fun b hb z => by
    have q := (f2 b hb).1
    rw [z, hP] at q
    cases q
  have cd : PySem.W.CodeHd s2.heap c P := TB.code.keeps I2.bk
  have fin : ∀ (code : Value) (h3 : Heap) (tk : Nat) (ps' : Array Value), Heap.ExtBut P s2.heap h3 → h3.get? P = some { cls := .none, data := .fields ps' } → (∃ more, ps' = ps ++ more) → TriplesOk ps'.toList →
      wpAny (model X.prog X.w) X.A (builtinsFor X.env.globals X.env.builtins) (fun bi s4 => ∀ h' : Heap, h'.Ns s4.heap.objs.size (fun y => if y = (".0" : Str) then some (.ref it) else none) →
        Heap.SameBut s4.heap.objs.size (s4.heap.push { cls := .type "frame", data := .dict #[] }) h' →
        ∃ J H4 a s4' genv fp tn it' go g, (Value.ref h'.objs.size) = .ref a ∧ R J H4 ∧ GM X pins σ own elt iter ifs x px gpos scope J H4 a { s4 with
            gens := s4.gens.push (.fresh (.compStart (.GeneratorExp elt [⟨.Name x px, iter, ifs, 0⟩] scope gpos) 0 (.ref it) .none (genEnv scope (cloFrom X.env.cells scope.names []) s4.heap.objs.size code bi X.env))), toks := s4.toks + 1 + 1 + 1,
            heap := h'.push { cls := .type "generator", data := .fields #[.int s4.gens.size 0, .str "<genexpr>" (s4.toks + 1), .str (X.env.qual ++ "<genexpr>") (s4.toks + 1 + 1)] } } s4' genv fp tn it' go g) X.xe { s2 with heap := h3, toks := tk } := by
    intro code h3 tk ps' hx hP3 ⟨more, em⟩ ht3
    obtain ⟨bm, ob, e1, e2, e3, e4, e5, e6, e7, e8⟩ := TB.bm
    have kp3 : ∀ b u, b ≠ P → s2.heap.get? b = some u → h3.get? b = some u := fun b u hb q => hx b u hb q
    refine wpAny_builtinsFor (m := X.mg) (by rw [I2.ok.glob]; exact (I2.mod.glob.keeps I2.bk).extBut hx TB.gP) e1 e2 (kp3 _ _ e4 (I2.bk _ _ e5)) e6 e7 e8 ?_
    have I3 : Inv X pins σ (upd H2 P (.tbl ps')) { s2 with heap := h3, toks := tk } := by
      subst em
      exact inv_tab (g' := s2.gens) (d' := s2.drawn) I2 hP kp3 hP3 I2.bare
    generalize hs3 : ({ s2 with heap := h3, toks := tk } : Shared) = s3 at I3
    have eh3 : s3.heap = h3 := by rw [← hs3]
    have st3 : tn 0 s3.heap := by
      rw [eh3]
      exact T.keep _ _ _ st2 fun b hb o e => kp3 b o (nPfp b hb) e
    have f3 : ∀ b ∈ fp, FpOk X pins (upd H2 P (.tbl ps')) b := fun b hb => ⟨by rw [upd_ne (nPfp b hb)]; exact (f2 b hb).1, (f2 b hb).2⟩
    have sz3 : ∀ b ∈ fp, b < s3.heap.objs.size := fun b hb => by
      obtain ⟨o, e, _⟩ := T.obj _ _ st3 b hb
      exact Heap.lt_size e
    intro h' hn' hs'
    have hsz : h'.objs.size = s3.heap.objs.size + 1 := by rw [hs'.1, Heap.size_push]
    have k' : ∀ b o, s3.heap.get? b = some o → h'.get? b = some o := fun b o e => hs'.extBut b o (Nat.ne_of_lt (Heap.lt_size e)) (Heap.get?_push_of_some _ e)
    have gp : ∀ h : Heap, (h.push ({ cls := .type "generator", data := .fields #[.int s3.gens.size 0, .str "<genexpr>" (s3.toks + 1), .str (X.env.qual ++ "<genexpr>") (s3.toks + 1 + 1)] } : Obj)).get? h.objs.size = some ({ cls := .type "generator", data := .fields #[.int s3.gens.size 0, .str "<genexpr>" (s3.toks + 1), .str (X.env.qual ++ "<genexpr>") (s3.toks + 1 + 1)] } : Obj) := fun h => Heap.get?_push_size _ rfl
    have gfd : ∃ nm qn, ({ cls := .type "generator", data := .fields #[.int s3.gens.size 0, .str "<genexpr>" (s3.toks + 1), .str (X.env.qual ++ "<genexpr>") (s3.toks + 1 + 1)] } : Obj).cls = .type "generator" ∧ ({ cls := .type "generator", data := .fields #[.int s3.gens.size 0, .str "<genexpr>" (s3.toks + 1), .str (X.env.qual ++ "<genexpr>") (s3.toks + 1 + 1)] } : Obj).data = .fields #[.int s3.gens.size 0, nm, qn] ∧ ({ cls := .type "generator", data := .fields #[.int s3.gens.size 0, .str "<genexpr>" (s3.toks + 1), .str (X.env.qual ++ "<genexpr>") (s3.toks + 1 + 1)] } : Obj).slots = #[] := ⟨_, _, rfl, rfl, rfl⟩
    generalize ({ cls := .type "generator", data := .fields #[.int s3.gens.size 0, .str "<genexpr>" (s3.toks + 1), .str (X.env.qual ++ "<genexpr>") (s3.toks + 1 + 1)] } : Obj) = go at gp gfd ⊢
    obtain ⟨nm, qn, g1, g2, g3⟩ := gfd
    have ga : (h'.push go).get? h'.objs.size = some go := gp h'
    have k5 : ∀ b o, s3.heap.get? b = some o → (h'.push go).get? b = some o := fun b o e => Heap.get?_push_of_some _ (k' b o e)
    have bare5 : AllBare (s3.gens.push (.fresh (.compStart (.GeneratorExp elt [⟨.Name x px, iter, ifs, 0⟩] scope gpos) 0 (.ref it) .none (genEnv scope (cloFrom X.env.cells scope.names []) s3.heap.objs.size code builtinsNs X.env)))) := I3.bare.push rfl
    refine ⟨J, upd H2 P (.tbl ps'), h'.objs.size, s3, genEnv scope (cloFrom X.env.cells scope.names []) s3.heap.objs.size code builtinsNs X.env, fp, tn, it, go, s3.gens.size, rfl, hR _ (by subst em; exact ⟨ps, more, hP, ht, ht3, rfl⟩), I3, ?_, T, ?_, f3, ?_, ?_, ⟨s3.heap.objs.size, code, rfl⟩, ?_⟩
    · intro A hA hAf
      exact gen_start (h' := h') hA hAf I3 ok (fun b hb => ⟨f3 b hb, sz3 b hb⟩) k5 (hn'.push _) bare5 (by rw [hsz]; exact Nat.lt_succ_self _) ga (fun v q => by rw [g2] at q; cases q)
    · exact T.keep _ _ _ st3 fun b _ o e => k5 b o e
    · intro h e
      exact ⟨go, nm, qn, e, g1, g2, g3⟩
    · exact Array.getElem?_push_size ..
    · intro z
      have q : h'.objs.size < s3.heap.objs.size := sz3 h'.objs.size z
      rw [hsz] at q
      exact absurd q (Nat.not_lt.mpr (Nat.le_succ _))
  cases hf : codeAmong gpos ps.toList with
  | none =>
    refine wpAny_genexprCodeX hcode (cd.code oP ht) (cd.tab oP) hf fun c' h' tk hx hge hlt hco' _ htab' _ => ?_
    obtain ⟨o1, vs, f1, tf, fl, tg, inF, tx, tt, op, _, _, _, _, _, _, _, _, _, htr, _⟩ := hco'
    exact fin _ h' tk _ hx htab'.2 ⟨_, rfl⟩ htr
  | some cv =>
    refine wpAny_genexprCode_hit hcode (cd.code oP ht) hf ?_
    exact fin cv s2.heap s2.toks ps (Heap.ExtBut.refl _ _) oP ⟨#[], by simp⟩ ht

/-- any (cont false), all (cont true) of (elt for x in iter if ..) -/
def tGen (cont : Bool) (P : Addr) (wi : TI) (j : Nat) (own : List Nat) (tt : TT) (te : TE) : TE := fun σ H Q =>
  wi σ H fun J H1 => TabG H1 P ∧ ∀ H2, Tabb P H1 H2 → ∃ W : Nat → Nat → Hp → Prop, (∃ m, W 0 m H2) ∧ Turns cont j (wipe σ own) tt te J Q W
theorem wipe_own {σ : L2.St} {own : List Nat} {j : Nat} (hj : j ∈ own) : ∀ v, (wipe σ own)[j]? ≠ some (some v) := fun v e => (wipe_some e).2 hj
section
variable {c P : Addr} {elt iter : Expr} {ifs : List Expr} {x : Str} {px p pos gpos : Pos} {scope : Scope} {own : List Nat} {wi : TI} {tt : TT} {te : TE} {k j : Nat}
theorem gen_room {A : Around} {genv : Env} (hr : Room (k + 1) A) : Room k (A.in1.in1.deeper genv) :=
  ⟨hr.hd, by have := hr.dp; show A.depth + 1 + 3 * k + 5 < _; omega, by have := hr.un; show A.units + 1 + 1 + 3 + 16 * k + 200 < _; omega⟩
theorem pe_allL (hr : Room (k + 1) X.A) (hg : Gl X "all") (hm : X.mg "all" = none) (hb : bootBuiltins "all" = some (.builtin "all")) (TB : TabB X.base X.mg c P) (hcode : X.env.code = .ref c) (ok : GOk X.N X.env.scope scope x own) (hN : X.N.Nodup) (hj : X.N[j]? = some x) (hjo : j ∈ own) (hi : PI X (.Name x px) iter wi)
    (ht : ∀ (A : Around) (s : Shared) (H : Hp) (C : Addr) (code : Value) (fp : List Addr), Room k A → PTs (gcx X A s H (genEnv scope (cloFrom X.env.cells scope.names []) C code builtinsNs X.env) fp) ifs tt)
    (hel : ∀ (A : Around) (s : Shared) (H : Hp) (C : Addr) (code : Value) (fp : List Addr), Room k A → PE (gcx X A s H (genEnv scope (cloFrom X.env.cells scope.names []) C code builtinsNs X.env) fp) elt te)
    (hs : ∀ v, genFold iter X.env v = pure v := by intro _; rfl)
    (he : starEach [.GeneratorExp elt [⟨.Name x px, iter, ifs, 0⟩] scope gpos] X.env = (false, eval (.GeneratorExp elt [⟨.Name x px, iter, ifs, 0⟩] scope gpos) X.env) :: starEach [] X.env := by rfl) :
    PE X (.Call (.Name "all" p) [.GeneratorExp elt [⟨.Name x px, iter, ifs, 0⟩] scope gpos] [] pos) (tGen true P wi j own tt te) := by
  refine ⟨fun pins s σ H Q I h => ?_⟩
  refine wpAny_Call_Name_kw (ld_blt I hg hm hb ?_)
  refine PyProof.Rows.callWith_builtin1 ?_ he (by rfl)
  rw [he]
  show wpAny _ _ (spliced ((false, eval (.GeneratorExp elt [⟨.Name x px, iter, ifs, 0⟩] scope gpos) X.env) :: backTo pos (starEach [] X.env))) _ _ s
  refine Calls.spliced_cons (thn (gen_mk (R := fun J H2 => ∃ W : Nat → Nat → Hp → Prop, (∃ m, W 0 m H2) ∧ Turns true j (wipe σ own) tt te J Q W) hr TB hcode ok hi hs I h) fun gv s5 ⟨J, H4, a, s4, genv, fp, tn, it, go, g, e, ⟨W, ⟨m, w0⟩, tu⟩, G⟩ => ?_)
  subst e
  refine Calls.spliced_nil ?_
  obtain ⟨C, code, eg⟩ := G.env
  have hAh : (X.A.in1.in1.deeper genv).handled = none := hr.hd
  have hAf : (X.A.in1.in1.deeper genv).frames = some (genv :: X.stack) := Around.frames_deeper (A := X.A.in1.in1) I.ok.frames
  have Ig := G.inner _ hAh hAf
  have room : Room k (X.A.in1.in1.deeper genv) := gen_room hr
  have pgx : PG (gcx X (X.A.in1.in1.deeper genv) s4 H4 genv fp) (.Name x px) (gName j) := pg_name (X := gcx X (X.A.in1.in1.deeper genv) s4 H4 genv fp) hN hj (.inl (by subst eg; exact ok.loc)) (.inr (by subst eg; exact ok.loc))
  have pa : s5.heap.get? a = some go := (Ig.pin (a, go) (List.mem_append_right _ (List.mem_singleton.mpr rfl))).1
  refine call_function_tree F.kind_all F.plain_all F.entry_all (F.args_all1 _) ?_
  unfold Builtin.«all»
  refine wpAny_bind (m := oneArg "all" _) (wpAny_pure ?_)
  refine wpAny_bind (wpAny_pyIter_gen (G.gen _ pa) ?_)
  refine wpAny_pure ⟨plainId_quiet F.plain_all_loop _, ?_⟩
  refine all_loop (Xg := gcx X (X.A.in1.in1.deeper genv) s4 H4 genv fp) (A := X.A) (σ0 := wipe σ own) (Q := Q) hr.hd (by have := hr.dp; omega) G.gen (fun b H' s' Ig' q => ?_) (m + 1) s5 H4 Ig ⟨_, G.fresh, rfl, ?_⟩
  · exact ⟨.bl b, H', G.outer.call' (ch := fp) Ig'.os Ig'.base Ig'.hok Ig'.bare fun b hb => ⟨(G.fpo b hb).2.2.2.1, (G.fpo b hb).2.1, (G.fpo b hb).2.2.2.2.1, (G.fpo b hb).2.2.2.2.2⟩, rfl, q⟩
  · have Ig2 := Inv.slp Ig (s' := s5.setGen g .running) ⟨rfl, allBare_setGen Ig.bare rfl, rfl⟩
    refine seg_gst (Xg := gcx X (X.A.in1.in1.deeper genv) s4 H4 genv fp) (A := X.A.in1.in1) rfl G.turn G.at0 ?_
    refine seg_gl (Xg := gcx X (X.A.in1.in1.deeper genv) s4 H4 genv fp) (A := X.A.in1.in1) rfl rfl G.turn rfl rfl (fun p hp => by rw [List.mem_singleton.mp hp]; exact G.nfp) pgx (by subst eg; exact ht _ s4 H4 C code fp room) (by subst eg; exact hel _ s4 H4 C code fp room) (wipe_own hjo) (by subst eg; exact ok.co) rfl tu m (m + 1) 0 _ _ H4 (Nat.lt_succ_self _) Ig2 G.at0 (fun b hb => (G.fpo b hb).1) w0
theorem pe_anyL (hr : Room (k + 1) X.A) (hg : Gl X "any") (hm : X.mg "any" = none) (TB : TabB X.base X.mg c P) (hcode : X.env.code = .ref c) (ok : GOk X.N X.env.scope scope x own) (hN : X.N.Nodup) (hj : X.N[j]? = some x) (hjo : j ∈ own) (hi : PI X (.Name x px) iter wi)
    (ht : ∀ (A : Around) (s : Shared) (H : Hp) (C : Addr) (code : Value) (fp : List Addr), Room k A → PTs (gcx X A s H (genEnv scope (cloFrom X.env.cells scope.names []) C code builtinsNs X.env) fp) ifs tt)
    (hel : ∀ (A : Around) (s : Shared) (H : Hp) (C : Addr) (code : Value) (fp : List Addr), Room k A → PE (gcx X A s H (genEnv scope (cloFrom X.env.cells scope.names []) C code builtinsNs X.env) fp) elt te)
    (hs : ∀ v, genFold iter X.env v = pure v := by intro _; rfl)
    (he : starEach [.GeneratorExp elt [⟨.Name x px, iter, ifs, 0⟩] scope gpos] X.env = (false, eval (.GeneratorExp elt [⟨.Name x px, iter, ifs, 0⟩] scope gpos) X.env) :: starEach [] X.env := by rfl) :
    PE X (.Call (.Name "any" p) [.GeneratorExp elt [⟨.Name x px, iter, ifs, 0⟩] scope gpos] [] pos) (tGen false P wi j own tt te) := by
  refine ⟨fun pins s σ H Q I h => ?_⟩
  refine wpAny_Call_Name_kw (ld_blt I hg hm boot_any ?_)
  refine PyProof.Rows.callWith_builtin1 ?_ he (by rfl)
  rw [he]
  show wpAny _ _ (spliced ((false, eval (.GeneratorExp elt [⟨.Name x px, iter, ifs, 0⟩] scope gpos) X.env) :: backTo pos (starEach [] X.env))) _ _ s
  refine Calls.spliced_cons (thn (gen_mk (R := fun J H2 => ∃ W : Nat → Nat → Hp → Prop, (∃ m, W 0 m H2) ∧ Turns false j (wipe σ own) tt te J Q W) hr TB hcode ok hi hs I h) fun gv s5 ⟨J, H4, a, s4, genv, fp, tn, it, go, g, e, ⟨W, ⟨m, w0⟩, tu⟩, G⟩ => ?_)
  subst e
  refine Calls.spliced_nil ?_
  obtain ⟨C, code, eg⟩ := G.env
  have hAh : (X.A.in1.in1.deeper genv).handled = none := hr.hd
  have hAf : (X.A.in1.in1.deeper genv).frames = some (genv :: X.stack) := Around.frames_deeper (A := X.A.in1.in1) I.ok.frames
  have Ig := G.inner _ hAh hAf
  have room : Room k (X.A.in1.in1.deeper genv) := gen_room hr
  have pgx : PG (gcx X (X.A.in1.in1.deeper genv) s4 H4 genv fp) (.Name x px) (gName j) := pg_name (X := gcx X (X.A.in1.in1.deeper genv) s4 H4 genv fp) hN hj (.inl (by subst eg; exact ok.loc)) (.inr (by subst eg; exact ok.loc))
  have pa : s5.heap.get? a = some go := (Ig.pin (a, go) (List.mem_append_right _ (List.mem_singleton.mpr rfl))).1
  refine call_function_tree F.kind_any F.plain_any F.entry_any (F.args_any1 _) ?_
  unfold Builtin.«any»
  refine wpAny_bind (m := oneArg "any" _) (wpAny_pure ?_)
  refine wpAny_bind (wpAny_pyIter_gen (G.gen _ pa) ?_)
  refine wpAny_pure ⟨plainId_quiet F.plain_any_loop _, ?_⟩
  refine any_loop (Xg := gcx X (X.A.in1.in1.deeper genv) s4 H4 genv fp) (A := X.A) (σ0 := wipe σ own) (Q := Q) hr.hd (by have := hr.dp; omega) G.gen (fun b H' s' Ig' q => ?_) (m + 1) s5 H4 Ig ⟨_, G.fresh, rfl, ?_⟩
  · exact ⟨.bl b, H', G.outer.call' (ch := fp) Ig'.os Ig'.base Ig'.hok Ig'.bare fun b hb => ⟨(G.fpo b hb).2.2.2.1, (G.fpo b hb).2.1, (G.fpo b hb).2.2.2.2.1, (G.fpo b hb).2.2.2.2.2⟩, rfl, q⟩
  · have Ig2 := Inv.slp Ig (s' := s5.setGen g .running) ⟨rfl, allBare_setGen Ig.bare rfl, rfl⟩
    refine seg_gst (Xg := gcx X (X.A.in1.in1.deeper genv) s4 H4 genv fp) (A := X.A.in1.in1) rfl G.turn G.at0 ?_
    refine seg_gl (Xg := gcx X (X.A.in1.in1.deeper genv) s4 H4 genv fp) (A := X.A.in1.in1) rfl rfl G.turn rfl rfl (fun p hp => by rw [List.mem_singleton.mp hp]; exact G.nfp) pgx (by subst eg; exact ht _ s4 H4 C code fp room) (by subst eg; exact hel _ s4 H4 C code fp room) (wipe_own hjo) (by subst eg; exact ok.co) rfl tu m (m + 1) 0 _ _ H4 (Nat.lt_succ_self _) Ig2 G.at0 (fun b hb => (G.fpo b hb).1) w0
end
end
end Vf
end
section
set_option Elab.async false
set_option linter.all false
set_option maxRecDepth 100000
set_option maxHeartbeats 4000000
/-! Operators that take what kind they meet; defs by their names; heaps that have only grown. -/
namespace Vf
open PySem PySem.Spec PyProof.Rows L2 GxR GenW

/-! ### one rule an operator -/
section
variable {X : Cx}
structure rAdd (K : PySem.W.Frag) (x y : V) (H : Hp) (Q : VK) : Prop where
  h : (∃ i j, x = .int i ∧ y = .int j ∧ Q (.int (i + j)) H) ∨ (∃ i j, x = .str i ∧ y = .str j ∧ i.length + j.length ≤ sizeLine ∧ Q (.str (i ++ j)) H) ∨ rCat x y H Q ∨ rCatA K x y H Q
theorem u_add {K : PySem.W.Frag} (hK : X.K = K) : OpR X (binaryOp .Add) (rAdd K) := by
  subst hK
  exact fun pins s σ H x y v u Q I rx ry h => (OpR.or op_add (OpR.or op_add_str (OpR.or op_cat op_catA))) pins s σ H x y v u Q I rx ry h.h
structure rMd (x y : V) (H : Hp) (Q : VK) : Prop where
  h : ∃ i j, x = .int i ∧ y = .int j ∧ j ≠ 0 ∧ Q (.int (i.fmod j)) H
theorem u_mod : OpR X (binaryOp .Mod) rMd := fun pins s σ H x y v u Q I rx ry h => op_modN pins s σ H x y v u Q I rx ry h.h
structure rPw (x y : V) (H : Hp) (Q : VK) : Prop where
  h : ∃ i j, x = .int i ∧ y = .int j ∧ CPow i j ∧ Q (.int (i ^ j.toNat)) H
theorem u_pow : OpR X (binaryOp .Pow) rPw := fun pins s σ H x y v u Q I rx ry h => op_pow pins s σ H x y v u Q I rx ry h.h
structure rGe (x y : V) (H : Hp) (Q : VK) : Prop where
  h : ∃ i j, x = .int i ∧ y = .int j ∧ Q (.bl (decide (j ≤ i))) H
theorem u_ge : OpR X (compareOp .GtE) rGe := fun pins s σ H x y v u Q I rx ry h => op_ge pins s σ H x y v u Q I rx ry h.h
structure rGt (x y : V) (H : Hp) (Q : VK) : Prop where
  h : ∃ i j, x = .int i ∧ y = .int j ∧ Q (.bl (decide (j < i))) H
theorem u_gt : OpR X (compareOp .Gt) rGt := fun pins s σ H x y v u Q I rx ry h => op_gt pins s σ H x y v u Q I rx ry h.h
structure rSb (x y : V) (H : Hp) (Q : VK) : Prop where
  h : ∃ i j, x = .int i ∧ y = .int j ∧ Q (.int (i - j)) H
theorem u_sub : OpR X (binaryOp .Sub) rSb := fun pins s σ H x y v u Q I rx ry h => op_sub pins s σ H x y v u Q I rx ry h.h
structure rFd (x y : V) (H : Hp) (Q : VK) : Prop where
  h : (∃ i j, x = .int i ∧ y = .int j ∧ CDivN i j ∧ Q (.int (i.fdiv j)) H) ∨ (∃ i j, x = .int i ∧ y = .int j ∧ CDivW i j ∧ Q (.int (i / j)) H)
theorem u_fdiv : OpR X (binaryOp .FloorDiv) rFd := fun pins s σ H x y v u Q I rx ry h => (OpR.or op_fdivN op_fdivW) pins s σ H x y v u Q I rx ry h.h
structure rMu (K : PySem.W.Frag) (x y : V) (H : Hp) (Q : VK) : Prop where
  h : (∃ i j, x = .int i ∧ y = .int j ∧ CMul i j ∧ Q (.int (i * j)) H) ∨ (∃ i j, x = .int i ∧ y = .int j ∧ CMulW i j ∧ Q (.int (i * j)) H) ∨ rRep x y H Q ∨ rRepT K x y H Q
theorem u_mul {K : PySem.W.Frag} (hK : X.K = K) : OpR X (binaryOp .Mult) (rMu K) := by
  subst hK
  exact fun pins s σ H x y v u Q I rx ry h => (OpR.or op_mul (OpR.or op_mulW (OpR.or op_rep op_repT))) pins s σ H x y v u Q I rx ry h.h
structure rEqU (K : PySem.W.Frag) (x y : V) (H : Hp) (Q : VK) : Prop where
  h : rEq x y H Q ∨ rEqD K x y H Q
theorem u_eq {K : PySem.W.Frag} (hK : X.K = K) (hu : X.A.units + 64 < cLine) : OpR X (compareOp .Eq) (rEqU K) := by
  subst hK
  exact fun pins s σ H x y v u Q I rx ry h => (OpR.or op_eq (op_eqD hu)) pins s σ H x y v u Q I rx ry h.h
structure rNeU (K : PySem.W.Frag) (x y : V) (H : Hp) (Q : VK) : Prop where
  h : rNe x y H Q ∨ rNeD K x y H Q
theorem u_ne {K : PySem.W.Frag} (hK : X.K = K) (hu : X.A.units + 64 < cLine) : OpR X (compareOp .NotEq) (rNeU K) := by
  subst hK
  exact fun pins s σ H x y v u Q I rx ry h => (OpR.or op_ne (op_neD hu)) pins s σ H x y v u Q I rx ry h.h
structure rLtU (x y : V) (H : Hp) (Q : VK) : Prop where
  h : (∃ i j, x = .int i ∧ y = .int j ∧ Q (.bl (decide (i < j))) H) ∨ (∃ i j, x = .str i ∧ y = .str j ∧ Q (.bl (decide (i.cps.toList < j.cps.toList))) H)
theorem u_lt : OpR X (compareOp .Lt) rLtU := fun pins s σ H x y v u Q I rx ry h => (OpR.or op_lt op_lt_str) pins s σ H x y v u Q I rx ry h.h
structure rLeU (x y : V) (H : Hp) (Q : VK) : Prop where
  h : (∃ i j, x = .int i ∧ y = .int j ∧ Q (.bl (decide (i ≤ j))) H) ∨ (∃ i j, x = .str i ∧ y = .str j ∧ Q (.bl (!decide (j.cps.toList < i.cps.toList))) H)
theorem u_le : OpR X (compareOp .LtE) rLeU := fun pins s σ H x y v u Q I rx ry h => (OpR.or op_le op_le_str) pins s σ H x y v u Q I rx ry h.h
structure rInU (K : PySem.W.Frag) (x y : V) (H : Hp) (Q : VK) : Prop where
  h : (∃ i j, x = .str i ∧ y = .str j ∧ Q (.bl (!(Builtin.Str.occurrences j i 0 j.length 1).isEmpty)) H) ∨ (∃ (c : Nat) (z : Str), x = .str ⟨#[c]⟩ ∧ y = .str z ∧ Q (.bl (decide (c ∈ z.cps.toList))) H) ∨ rIn K false x y H Q
theorem u_in {K : PySem.W.Frag} (hK : X.K = K) : OpR X (compareOp .In) (rInU K) := by
  subst hK
  exact fun pins s σ H x y v u Q I rx ry h => (OpR.or op_in_str (OpR.or op_in_sign op_in_seq)) pins s σ H x y v u Q I rx ry h.h
structure rNiU (K : PySem.W.Frag) (x y : V) (H : Hp) (Q : VK) : Prop where
  h : (∃ i j, x = .str i ∧ y = .str j ∧ Q (.bl (!(!(Builtin.Str.occurrences j i 0 j.length 1).isEmpty))) H) ∨ (∃ (c : Nat) (z : Str), x = .str ⟨#[c]⟩ ∧ y = .str z ∧ Q (.bl (!decide (c ∈ z.cps.toList))) H) ∨ rIn K true x y H Q
theorem u_ni {K : PySem.W.Frag} (hK : X.K = K) : OpR X (compareOp .NotIn) (rNiU K) := by
  subst hK
  exact fun pins s σ H x y v u Q I rx ry h => (OpR.or op_notin_str (OpR.or op_notIn_sign op_notIn_seq)) pins s σ H x y v u Q I rx ry h.h
structure rSlU (K : PySem.W.Frag) (x : V) (lo hi : Option Int) (H : Hp) (Q : VK) : Prop where
  h : rSlL K x lo hi H Q ∨ rSlA K x lo hi H Q ∨ rSlS x lo hi H Q
theorem u_sl {K : PySem.W.Frag} (hK : X.K = K) : SlR X (rSlU K) := by
  subst hK
  exact fun pins s σ H x v vl vu lo hi sl Q I rx hs pl pu h => (SlR.or sl_list (SlR.or sl_tupA sl_str)) pins s σ H x v vl vu lo hi sl Q I rx hs pl pu h.h
structure rIxU (K : PySem.W.Frag) (x y : V) (H : Hp) (Q : VK) : Prop where
  h : rIx K x y H Q
theorem u_ix {K : PySem.W.Frag} (hK : X.K = K) : IxR X (rIxU K) := by
  subst hK
  exact fun a b pins s σ H x y v u Q I rx ry h hs => ix_seq a b pins s σ H x y v u Q I rx ry h.h hs
end

/-! ### their answers -/
section
variable {K : PySem.W.Frag} {H : Hp} {Q : VK}
theorem a_ii {i j : Int} (q : Q (.int (i + j)) H) : rAdd K (.int i) (.int j) H Q := ⟨.inl ⟨_, _, rfl, rfl, q⟩⟩
theorem a_ss {i j : Str} (h : i.length + j.length ≤ sizeLine) (q : Q (.str (i ++ j)) H) : rAdd K (.str i) (.str j) H Q := ⟨.inr (.inl ⟨_, _, rfl, rfl, h, q⟩)⟩
theorem a_ll {l b : Addr} {xs zs : List V} (h1 : H l = some (.lst xs)) (h2 : H b = some (.lst zs)) (h : xs.length + zs.length ≤ sizeLine) (q : ∀ p, H p = none → Q (.ref p) (upd H p (.lst (xs ++ zs)))) : rAdd K (.ref l) (.ref b) H Q := ⟨.inr (.inr (.inl ⟨_, _, _, _, rfl, rfl, h1, h2, h, q⟩))⟩
theorem a_tt {a b : Addr} {xs ys : List V} (h1 : SqT K H a xs) (h2 : SqT K H b ys) (h : xs.length + ys.length ≤ sizeLine) (q1 : xs = [] → Q (.ref b) H) (q2 : xs ≠ [] → ys = [] → Q (.ref a) H) (q3 : xs ≠ [] → ys ≠ [] → ∀ p, H p = none → Q (.ref p) (upd H p (.tup (xs ++ ys)))) : rAdd K (.ref a) (.ref b) H Q := ⟨.inr (.inr (.inr ⟨_, _, _, _, rfl, rfl, h1, h2, h, q1, q2, q3⟩))⟩
theorem m_ii {i j : Int} (h : CMul i j) (q : Q (.int (i * j)) H) : rMu K (.int i) (.int j) H Q := ⟨.inl ⟨_, _, rfl, rfl, h, q⟩⟩
theorem m_tt {l : Addr} {k : Int} {xs : List V} (h1 : SqT K H l xs) (h2 : xs ≠ []) (h3 : 2 ≤ k) (h4 : k ≤ 1000) (h5 : xs.length ≤ 1000) (q : ∀ p, H p = none → Q (.ref p) (upd H p (.tup (List.replicate k.toNat xs).flatten))) : rMu K (.ref l) (.int k) H Q := ⟨.inr (.inr (.inr ⟨_, _, _, rfl, rfl, h1, h2, h3, h4, h5, q⟩))⟩
theorem md_ii {i j : Int} (h : j ≠ 0) (q : Q (.int (i.fmod j)) H) : rMd (.int i) (.int j) H Q := ⟨_, _, rfl, rfl, h, q⟩
theorem pw_ii {i j : Int} (h : CPow i j) (q : Q (.int (i ^ j.toNat)) H) : rPw (.int i) (.int j) H Q := ⟨_, _, rfl, rfl, h, q⟩
theorem ge_ii {i j : Int} (q : Q (.bl (decide (j ≤ i))) H) : rGe (.int i) (.int j) H Q := ⟨_, _, rfl, rfl, q⟩
theorem gt_ii {i j : Int} (q : Q (.bl (decide (j < i))) H) : rGt (.int i) (.int j) H Q := ⟨_, _, rfl, rfl, q⟩
theorem sb_ii {i j : Int} (q : Q (.int (i - j)) H) : rSb (.int i) (.int j) H Q := ⟨_, _, rfl, rfl, q⟩
theorem f_ii {i j : Int} (h : CDivN i j) (q : Q (.int (i.fdiv j)) H) : rFd (.int i) (.int j) H Q := ⟨.inl ⟨_, _, rfl, rfl, h, q⟩⟩
theorem e_flat {x y : V} (h : scal x y = true) (q : Q (.bl (decide (x = y))) H) : rEqU K x y H Q := ⟨.inl ⟨h, q⟩⟩
theorem e_data {x y : V} {d e : PyData} (h1 : Dp K H x d) (h2 : Dp K H y e) (h3 : SeqAt.shaped d = true) (h4 : SeqAt.shaped e = true) (q : Q (.bl (PyData.eqv d e)) H) : rEqU K x y H Q := ⟨.inr ⟨_, _, h1, h2, h3, h4, q⟩⟩
theorem n_flat {x y : V} (h : scal x y = true) (q : Q (.bl (!decide (x = y))) H) : rNeU K x y H Q := ⟨.inl ⟨h, q⟩⟩
theorem n_data {x y : V} {d e : PyData} (h1 : Dp K H x d) (h2 : Dp K H y e) (h3 : SeqAt.shaped d = true) (h4 : SeqAt.shaped e = true) (q : Q (.bl (!PyData.eqv d e)) H) : rNeU K x y H Q := ⟨.inr ⟨_, _, h1, h2, h3, h4, q⟩⟩
theorem l_ii {i j : Int} (q : Q (.bl (decide (i < j))) H) : rLtU (.int i) (.int j) H Q := ⟨.inl ⟨_, _, rfl, rfl, q⟩⟩
theorem l_ss {i j : Str} (q : Q (.bl (decide (i.cps.toList < j.cps.toList))) H) : rLtU (.str i) (.str j) H Q := ⟨.inr ⟨_, _, rfl, rfl, q⟩⟩
theorem le_ii {i j : Int} (q : Q (.bl (decide (i ≤ j))) H) : rLeU (.int i) (.int j) H Q := ⟨.inl ⟨_, _, rfl, rfl, q⟩⟩
theorem le_ss {i j : Str} (q : Q (.bl (!decide (j.cps.toList < i.cps.toList))) H) : rLeU (.str i) (.str j) H Q := ⟨.inr ⟨_, _, rfl, rfl, q⟩⟩
theorem in_sign {c : Nat} {z : Str} (q : Q (.bl (decide (c ∈ z.cps.toList))) H) : rInU K (.str ⟨#[c]⟩) (.str z) H Q := ⟨.inr (.inl ⟨_, _, rfl, rfl, q⟩)⟩
theorem ni_sign {c : Nat} {z : Str} (q : Q (.bl (!decide (c ∈ z.cps.toList))) H) : rNiU K (.str ⟨#[c]⟩) (.str z) H Q := ⟨.inr (.inl ⟨_, _, rfl, rfl, q⟩)⟩
theorem in_ss {i j : Str} (q : Q (.bl (!(Builtin.Str.occurrences j i 0 j.length 1).isEmpty)) H) : rInU K (.str i) (.str j) H Q := ⟨.inl ⟨_, _, rfl, rfl, q⟩⟩
theorem ni_ss {i j : Str} (q : Q (.bl (!(!(Builtin.Str.occurrences j i 0 j.length 1).isEmpty))) H) : rNiU K (.str i) (.str j) H Q := ⟨.inl ⟨_, _, rfl, rfl, q⟩⟩
theorem in_seq {x : V} {p : Addr} {xs : List V} (h : SqL K H p xs ∨ SqT K H p xs) (h1 : flatV x = true) (h2 : xs.all flatV = true) (q : Q (.bl (inV x xs)) H) : rInU K x (.ref p) H Q := ⟨.inr (.inr ⟨_, _, rfl, h, h1, h2, q⟩)⟩
theorem ni_seq {x : V} {p : Addr} {xs : List V} (h : SqL K H p xs ∨ SqT K H p xs) (h1 : flatV x = true) (h2 : xs.all flatV = true) (q : Q (.bl (!inV x xs)) H) : rNiU K x (.ref p) H Q := ⟨.inr (.inr ⟨_, _, rfl, h, h1, h2, q⟩)⟩
theorem x_l {p : Addr} {xs : List V} {i : Int} {v : V} (h : SqL K H p xs) (e : atI xs i = some v) (q : Q v H) : rIxU K (.ref p) (.int i) H Q := ⟨.inl ⟨_, _, _, _, rfl, rfl, h, e, q⟩⟩
theorem x_t {p : Addr} {xs : List V} {i : Int} {v : V} (h : SqT K H p xs) (e : atI xs i = some v) (q : Q v H) : rIxU K (.ref p) (.int i) H Q := ⟨.inr (.inl ⟨_, _, _, _, rfl, rfl, h, e, q⟩)⟩
theorem x_s {z : Str} {i : Int} {c : Nat} (h : z.length ≤ sizeLine) (e : atI z.cps.toList i = some c) (q : Q (.str ⟨#[c]⟩) H) : rIxU K (.str z) (.int i) H Q := ⟨.inr (.inr ⟨_, _, _, rfl, rfl, h, e, q⟩)⟩
theorem sl_l {a : Addr} {xs : List V} {lo hi : Option Int} (h : SqL K H a xs) (q : ∀ p, H p = none → Q (.ref p) (upd H p (.lst (cutV xs lo hi)))) : rSlU K (.ref a) lo hi H Q := ⟨.inl ⟨_, _, rfl, h, q⟩⟩
theorem sl_t {a : Addr} {xs : List V} {lo hi : Option Int} (h : SqT K H a xs) (q1 : HT.sIx xs.length 0 lo = 0 ∧ HT.sIx xs.length xs.length hi = xs.length → Q (.ref a) H)
    (q2 : ¬ (HT.sIx xs.length 0 lo = 0 ∧ HT.sIx xs.length xs.length hi = xs.length) → ∀ p, H p = none → Q (.ref p) (upd H p (.tup (cutV xs lo hi)))) : rSlU K (.ref a) lo hi H Q := ⟨.inr (.inl ⟨_, _, rfl, h, q1, q2⟩)⟩
end

/-! ### rules with K told apart -/
section
variable {X : Cx} {K : PySem.W.Frag} {tg : Expr}
theorem k_len (hK : X.K = K) : CallR X (.builtin "len") (fun xs H Q => ∃ x n, xs = [x] ∧ LenV K x H n ∧ Q (.int n) H) := by
  subst hK
  exact call_len
theorem k_list {l : Expr} {tl : TE} (hK : X.K = K) (hl : PE X l tl) : PI X tg l (iList K tl) := by
  subst hK
  exact pi_list hl
theorem k_tup {l : Expr} {tl : TE} (hK : X.K = K) (hl : PE X l tl) : PI X tg l (iTup K tl) := by
  subst hK
  exact pi_tup hl
structure rTupU (K : PySem.W.Frag) (x : V) (H : Hp) (Q : VK) : Prop where
  h : kTup K x H Q
theorem k_tuple {a : Expr} {ta : TE} {p pos : Pos} (hK : X.K = K) (hg : Gl X "tuple") (hm : X.mg "tuple" = none) (ha : PE X a ta) (na : starEach [a] X.env = (false, eval a X.env) :: starEach [] X.env := by rfl) :
    PE X (.Call (.Name "tuple" p) [a] [] pos) (fun σ H Q => ta σ H fun x H1 => rTupU K x H1 Q) := by
  subst hK
  refine ⟨fun pins s σ H Q I h => Call_ (ld_blt I hg hm boot_tuple (PyProof.Rows.callWith_type1 ?_ na))⟩
  exact one_arg ha I h (fun v s2 x H2 I2 r q => rl_tuple pins s2 σ H2 x v Q I2 r q.h) na
theorem k_join {o e : Expr} {to te : TE} {apos pos : Pos} (hK : X.K = K) (ho : PE X o to) (he : PE X e te) (hs : starEach [e] X.env = [(false, eval e X.env)] := by rfl) (hbase : attributeBase o "join" X.env (eval o X.env) = eval o X.env := by rfl) (hline : (apos.endLine == pos.line) = true := by rfl) :
    PE X (.Call (.Attribute o "join" apos) [e] [] pos) (tM1 (fun x xs H Q => ∃ a p, ∃ ys : List Str, x = .str a ∧ xs = [.ref p] ∧ (SqL K H p (ys.map V.str) ∨ SqT K H p (ys.map V.str)) ∧
      (ys.map (·.length)).sum + ys.length * a.length ≤ 16777216 ∧ Q (.str (Txt.join a ys)) H) to te) := by
  subst hK
  exact pe_join ho he hs hbase hline
theorem k_any (hK : X.K = K) (hc : X.calm = true) : CallR X (.builtin "any") (rAny K) := by
  subst hK
  exact cr_any hc
theorem k_all (hK : X.K = K) (hc : X.calm = true) : CallR X (.builtin "all") (rAll K) := by
  subst hK
  exact cr_all hc
theorem k_sum (hK : X.K = K) (hc : X.calm = true) : CallR X (.builtin "sum") (rSum K) := by
  subst hK
  exact cr_sum hc
theorem kg_tup {es : List Expr} {k : Nat} {t : TGs} {pos : Pos} (n : Nat) (hK : X.K = K) (hc : X.calm = true) (h : PGs X es t)
    (hn : (assignEach es X.env).length = n := by rfl) (hst : (assignEach es X.env).findIdx? (·.1) = none := by rfl) : PG X (.Tuple es k pos) (gTup K n t) := by
  subst hK
  exact pg_tup hc h hn hst
theorem k_enum {e : Expr} {ta : TA} {p pos tpos : Pos} {elts : List Expr} {kk : Nat} (hK : X.K = K) (hg : Gl X "enumerate") (hm : X.mg "enumerate" = none) (ha : PA X [e] ta) (hs : starEach [e] X.env = [(false, eval e X.env)] := by rfl) :
    PI X (.Tuple elts kk tpos) (.Call (.Name "enumerate" p) [e] [] pos) (iEnum K ta) := by
  subst hK
  exact pi_enum hg hm ha hs
theorem k_zip {e e2 : Expr} {ta : TA} {p pos tpos : Pos} {elts : List Expr} {kk : Nat} (hK : X.K = K) (hg : Gl X "zip") (hm : X.mg "zip" = none) (ha : PA X [e, e2] ta) (hs : starEach [e, e2] X.env = (false, eval e X.env) :: starEach [e2] X.env := by rfl) (hpl : (backTo pos (starEach [e2] X.env)).any (·.1) = false := by rfl) :
    PI X (.Tuple elts kk tpos) (.Call (.Name "zip" p) [e, e2] [] pos) (RZ.iZipA K ta) := by
  subst hK
  exact RZ.pi_zipA hg hm ha hs hpl
end

/-! ### defs by their names -/
/-- the def x of the module keeps the promise sp -/
structure Df (P : Program) (w : World) (K : PySem.W.Frag) (mg : Str → Option Value) (base : Heap) (x : Str) (k : Nat) (ps : List Str) (sp : Sp) : Prop where
  ex : ∃ (f : Addr) (fd : FuncData), FnOk P w K mg base CX0 k f fd ps sp ∧ mg x = some (.ref f) ∧ PySem.W.keepIn K (.ref f) = true ∧ Binds K fd ps []
structure DfG (P : Program) (w : World) (K : PySem.W.Frag) (mg : Str → Option Value) (base : Heap) (x : Str) (k : Nat) (ps : List Str) (sp : Sp) : Prop where
  ex : ∃ (f : Addr) (fd : FuncData), FnG P w K mg base CX0 k f fd ps sp ∧ mg x = some (.ref f) ∧ PySem.W.keepIn K (.ref f) = true ∧ Binds K fd ps []
section
variable {X : Cx} {k j : Nat} {x : Str} {ps : List Str} {sp : Sp} {p pos : Pos} {e : Expr} {es : List Expr} {t : TA}
theorem pe_fn (D : Df X.prog X.w X.K X.mg X.base x k ps sp) (hr : Room j X.A) (hk : k ≤ j) (hg : Gl X x) (ha : PA X (e :: es) t) (hdb : (x == ("__debug__" : Str)) = false := by decide)
    (he : starEach (e :: es) X.env = (false, eval e X.env) :: starEach es X.env := by rfl) (hpl : (backTo pos (starEach es X.env)).any (·.1) = false := by rfl) : PE X (.Call (.Name x p) (e :: es) [] pos) (tCall sp [] E0 t) := by
  obtain ⟨f, fd, F, hm, hkp, hb⟩ := D.ex
  exact pe_call F (hr.mono hk) hg hm hkp hb .nil pass0 ha hdb he hpl
theorem pe_fn0 (D : Df X.prog X.w X.K X.mg X.base x k ps sp) (hr : Room j X.A) (hk : k ≤ j) (hg : Gl X x) (hdb : (x == ("__debug__" : Str)) = false := by decide) : PE X (.Call (.Name x p) [] [] pos) (tCall sp [] E0 tNil) := by
  obtain ⟨f, fd, F, hm, hkp, hb⟩ := D.ex
  exact pe_call0 F (hr.mono hk) hg hm hkp hb .nil pass0 hdb
theorem pe_fnG (hgu : X.A.guards = some []) (D : DfG X.prog X.w X.K X.mg X.base x k ps sp) (hr : Room j X.A) (hk : k ≤ j) (hg : Gl X x) (ha : PA X (e :: es) t) (hdb : (x == ("__debug__" : Str)) = false := by decide)
    (he : starEach (e :: es) X.env = (false, eval e X.env) :: starEach es X.env := by rfl) (hpl : (backTo pos (starEach es X.env)).any (·.1) = false := by rfl) : PE X (.Call (.Name x p) (e :: es) [] pos) (tCall sp [] E0 t) := by
  obtain ⟨f, fd, F, hm, hkp, hb⟩ := D.ex
  exact pe_callG hgu F (hr.mono hk) hg hm hkp hb .nil pass0 ha hdb he hpl
/-- a module's plain constant -/
theorem pe_gl {v : V} {pos : Pos} (h : ∃ u, X.mg x = some u ∧ RelV v u) (hg : Gl X x) (hd : (x == ("__debug__" : Str)) = false := by decide) : PE X (.Name x pos) (tC v) := by
  obtain ⟨u, hm, r⟩ := h
  exact pe_glob hg hm r hd
/-- a module's object -/
theorem pe_ref {a : Addr} {pos : Pos} (hg : Gl X x) (hm : X.mg x = some (.ref a)) (hd : (x == ("__debug__" : Str)) = false := by decide) : PE X (.Name x pos) (tC (.ref a)) := pe_glob hg hm rfl hd
/-- a built-in class's name as a value -/
theorem pe_ty {T : String} {pos : Pos} (hg : Gl X x) (hm : X.mg x = none) (hv : bootBuiltins x = some (.type T)) (hn : x ≠ "__name__" := by decide) (hd : (x == ("__debug__" : Str)) = false := by decide) : PE X (.Name x pos) (tC (.ty T)) :=
  pe_bltn hg hm hv rfl hn hd
end

section
variable {P : Program} {w : World} {K : PySem.W.Frag} {mg : Str → Option Value} {base : Heap} {CX : CXT} {k : Nat} {fd : FuncData} {ps : List Str} {sp : Sp}
  {x qual : Str} {params : Arguments} {body : List Stmt} {scope : Scope} {dvs : List V} {kws : List (Str × V)} {N : List Str} {p : He.Defn}
/-- a def's body, its own code object told -/
theorem okP (F : FunD K x qual params body scope dvs kws (He.fAd K p) fd) (S : FnScope N ps scope) (len : ∀ vs H Q E, sp vs H Q E → vs.length = ps.length)
    (hbody : ∀ (A : Around) (outer : List Env) (s : Shared) (H : Hp) (vs : List V) (Q : VK) (E : XK), Room k (A.deeper (envOfC qual scope s.heap.objs.size (He.fAd K p) (.ref (He.codeOf K p)))) → sp vs H Q E →
      ∃ t, PSs (cxOf CX P w K mg base N qual scope (He.fAd K p) (.ref (He.codeOf K p)) A outer s H E).nox body t ∧ t { nx := fun _ H' => Q .non H', rt := Q } (start N vs) H) : FnOk P w K mg base CX (k + 1) (He.fAd K p) fd ps sp := by
  obtain ⟨oc, od, dV, kV, doc, pm, an, cdv, ct, osl, rfl, lk, hcd, _, _⟩ := F.ex
  obtain ⟨c, rfl⟩ := He.codeIn_ref hcd
  have e : He.codeOf K p = c := He.codeOf_eq lk rfl
  subst e
  refine fn_of lk hcd S len fun A outer s H vs Q E hr hsp => ?_
  obtain ⟨t, h, q⟩ := hbody A outer s H vs Q E hr hsp
  exact ⟨t, h.nox, q⟩
theorem okQ (F : FunD K x qual params body scope dvs kws (He.fAd K p) fd) (S : FnScope N ps scope) (len : ∀ vs H Q E, sp vs H Q E → vs.length = ps.length)
    (hbody : ∀ (A : Around) (outer : List Env) (s : Shared) (H : Hp) (vs : List V) (Q : VK) (E : XK), A.guards = some [] → Room k (A.deeper (envOfC qual scope s.heap.objs.size (He.fAd K p) (.ref (He.codeOf K p)))) → sp vs H Q E →
      ∃ t, PSs (cxOf CX P w K mg base N qual scope (He.fAd K p) (.ref (He.codeOf K p)) A outer s H E).nox body t ∧ t { nx := fun _ H' => Q .non H', rt := Q } (start N vs) H) : FnG P w K mg base CX (k + 1) (He.fAd K p) fd ps sp := by
  obtain ⟨oc, od, dV, kV, doc, pm, an, cdv, ct, osl, rfl, lk, hcd, _, _⟩ := id F.ex
  obtain ⟨c, rfl⟩ := He.codeIn_ref hcd
  have e : He.codeOf K p = c := He.codeOf_eq lk rfl
  subst e
  refine okG F S len fun cdv hcv A outer s H vs Q E hg hr hsp => ?_
  have hcv : cdv = .ref (He.codeOf K p) := hcv.symm
  subst hcv
  obtain ⟨t, h, q⟩ := hbody A outer s H vs Q E hg hr hsp
  exact ⟨t, h.nox, q⟩
end

theorem dvi (a b : Int) : decide (V.int a = V.int b) = decide (a = b) := by
  rw [decide_eq_decide]
  exact ⟨fun h => by injection h, fun h => by rw [h]⟩
theorem dvs (a b : Str) : decide (V.str a = V.str b) = decide (a = b) := by
  rw [decide_eq_decide]
  exact ⟨fun h => by injection h, fun h => by rw [h]⟩
theorem not_true_iff {b : Bool} : (!b) = true ↔ b = false := by cases b <;> simp

/-! ### a heap that has only grown -/
/-- all that was tracked stands, tables perhaps longer -/
def Gr (H H' : Hp) : Prop := ∀ b o, H b = some o → (H' b = some o ∨ ∃ ps more, o = .tbl ps ∧ H' b = some (.tbl (ps ++ more)) ∧ (TriplesOk ps.toList → TriplesOk (ps ++ more).toList))
theorem Gr.refl (H : Hp) : Gr H H := fun _ _ h => .inl h
theorem Gr.trans {H H1 H2 : Hp} (a : Gr H H1) (b : Gr H1 H2) : Gr H H2 := by
  intro c o h
  rcases a c o h with h1 | ⟨ps, m1, rfl, h1, t1⟩
  · exact b c o h1
  · rcases b c _ h1 with h2 | ⟨qs, m2, e, h2, t2⟩
    · exact .inr ⟨ps, m1, rfl, h2, t1⟩
    · cases e
      exact .inr ⟨ps, m1 ++ m2, rfl, by rw [← Array.append_assoc]; exact h2, fun z => by rw [← Array.append_assoc]; exact t2 (t1 z)⟩
theorem Gr.keep {H H' : Hp} (g : Gr H H') {b : Addr} {o : HO} (h : H b = some o) (n : ∀ ps, o ≠ .tbl ps) : H' b = some o := by
  rcases g b o h with h1 | ⟨ps, _, rfl, _⟩
  · exact h1
  · exact absurd rfl (n ps)
theorem Gr.new {H : Hp} {p : Addr} {o : HO} (h : H p = none) : Gr H (upd H p o) := fun b u e => .inl (by rw [upd_ne (ne_of_none e h)]; exact e)
theorem Gr.upd' {H H' : Hp} {p : Addr} {o : HO} (g : Gr H H') (h : H p = none) : Gr H (upd H' p o) := fun b u e => by
  rw [upd_ne (ne_of_none e h)]
  exact g b u e
theorem Gr.free {H H' : Hp} (g : Gr H H') {b : Addr} (h : H' b = none) : H b = none := by
  cases q : H b with
  | none => rfl
  | some o =>
    rcases g b o q with h1 | ⟨_, _, _, h1, _⟩
    · rw [h] at h1; cases h1
    · rw [h] at h1; cases h1
theorem Gr.tabb {P : Addr} {H H' : Hp} (h : Tabb P H H') : Gr H H' := by
  obtain ⟨ps, more, h1, t1, t2, rfl⟩ := h
  intro b o e
  by_cases hb : b = P
  · subst hb
    rw [h1] at e
    cases e
    exact .inr ⟨ps, more, rfl, upd_same, fun _ => t2⟩
  · exact .inl (by rw [upd_ne hb]; exact e)
theorem Gr.tabG {P : Addr} {H H' : Hp} (g : Gr H H') (h : TabG H P) : TabG H' P := by
  obtain ⟨ps, h1, t1⟩ := h
  rcases g P _ h1 with q | ⟨qs, more, e, q, t⟩
  · exact ⟨ps, q, t1⟩
  · cases e
    exact ⟨_, q, t t1⟩
theorem Gr.seqT {K : PySem.W.Frag} {H H' : Hp} (g : Gr H H') {a : Addr} {xs : List V} (h : SqT K H a xs) : SqT K H' a xs := by
  rcases h with (h | ⟨o, h⟩) | h
  · exact .inl (.inl (g.keep h (fun _ z => by cases z)))
  · exact .inl (.inr ⟨o, g.keep h (fun _ z => by cases z)⟩)
  · exact .inr h
theorem Gr.seqL {K : PySem.W.Frag} {H H' : Hp} (g : Gr H H') {a : Addr} {xs : List V} (h : SqL K H a xs) : SqL K H' a xs := by
  rcases h with (h | ⟨o, h⟩) | h
  · exact .inl (.inl (g.keep h (fun _ z => by cases z)))
  · exact .inl (.inr ⟨o, g.keep h (fun _ z => by cases z)⟩)
  · exact .inr h
mutual
theorem Gr.dd {K : PySem.W.Frag} {H H' : Hp} (g : Gr H H') : ∀ (d : PyData) (v : V), Dd K H v d → Dd K H' v d
  | .none, _, h => by cases h; exact .non
  | .bool _, _, h => by cases h; exact .bl _
  | .int _, _, h => by cases h; exact .int _
  | .str _, _, h => by cases h; exact .str _
  | .list ds, _, h => by
    cases h with
    | lst a b => exact .lst (g.seqL a) (Gr.ddA g ds _ b)
  | .tuple ds, _, h => by
    cases h with
    | tup a b => exact .tup (g.seqT a) (Gr.ddA g ds _ b)
  | .dict _, _, h => by
    cases h with
    | dct a => exact .dct (g.keep a (fun _ z => by cases z))
theorem Gr.ddA {K : PySem.W.Frag} {H H' : Hp} (g : Gr H H') : ∀ (ds : List PyData) (vs : List V), DdAll K H vs ds → DdAll K H' vs ds
  | [], _, h => by cases h; exact .nil
  | d :: ds, _, h => by
    cases h with
    | cons a b => exact .cons (Gr.dd g d _ a) (Gr.ddA g ds _ b)
end

/-! ### a walk of enumerate over a list that stays -/
theorem for_enum {K : PySem.W.Frag} {a : Addr} {xs : List V} {g : TG} {tb : TS} {D : Ends} {σ : L2.St} {H : Hp} (Pv : Nat → L2.St → Hp → Prop) (h0 : Pv 0 σ H) (hl : ∀ i σ H, i ≤ xs.length → Pv i σ H → SqL K H a xs)
    (hs : ∀ i x T σ H, xs[i]? = some x → Pv i σ H → H T = none → g (.ref T) σ (upd H T (.tup [.int (i : Nat), x])) fun σ2 H2 => tb { D with nx := Pv (i + 1), ct := Pv (i + 1), bk := D.nx } σ2 H2) (hd : ∀ σ H, Pv xs.length σ H → D.nx σ H) :
    ∃ W : Nat → Nat → L2.St → Hp → Prop, (∃ m, W 0 m σ H) ∧ ∀ i m σ H, W i m σ H →
      ((Ite K a).stop i H ∧ D.nx σ H) ∨ ((Ite K a).go i H ∧ ∃ N : L2.St → Hp → Prop, (∀ σ' H', N σ' H' → ∃ m', m' < m ∧ W (i + 1) m' σ' H') ∧ ∀ x H', (Ite K a).yld i H x H' → g x σ H' fun σ2 H2 => tb { D with nx := N, ct := N, bk := D.nx } σ2 H2) := by
  refine ⟨fun i m σ H => i + m = xs.length ∧ Pv i σ H, ⟨xs.length, Nat.zero_add _, h0⟩, fun i m σ H ⟨hm, p⟩ => ?_⟩
  have hq := hl i σ H (by omega) p
  cases m with
  | zero =>
    have e : i = xs.length := by omega
    subst e
    exact Or.inl ⟨⟨xs, hq, Nat.le_refl _⟩, hd σ H p⟩
  | succ m =>
    have hi : i < xs.length := by omega
    refine Or.inr ⟨⟨xs, xs[i], hq, List.getElem?_eq_getElem hi⟩, Pv (i + 1), fun σ' H' p' => ⟨m, Nat.lt_succ_self _, by omega, p'⟩, ?_⟩
    rintro x H' ⟨T, y, rfl, hT, rfl, hy⟩
    exact hs i y T σ H (hy xs hq) p hT
end Vf
end
section
set_option Elab.async false
set_option linter.all false
set_option maxRecDepth 100000
set_option maxHeartbeats 8000000
/-! How many different texts a list has: len(set(texts)). -/
namespace Vf
open PySem PySem.Spec PyProof.Rows L2 GxR GenW
/-- one more, if it is new -/
def ins1 (acc : List Str) (x : Str) : List Str := if acc.any (· == x) = true then acc else acc ++ [x]
/-- the different ones, in the order they come -/
def mets (xs : List Str) : List Str := xs.foldl ins1 []
theorem mets_snoc (xs : List Str) (x : Str) : mets (xs ++ [x]) = ins1 (mets xs) x := by unfold mets; rw [List.foldl_append]; rfl
theorem ins1_any (acc : List Str) (x k : Str) : (ins1 acc x).any (· == k) = (acc.any (· == k) || decide (k = x)) := by
  unfold ins1
  by_cases h : acc.any (· == x) = true
  · rw [if_pos h]
    by_cases e : k = x
    · subst e; rw [h]; rfl
    · rw [decide_eq_false e, Bool.or_false]
  · rw [if_neg h, List.any_append]
    congr 1
    by_cases e : k = x
    · subst e; simp
    · have hb : (x == k) = false := by rw [beq_eq_false_iff_ne]; exact fun z => e z.symm
      simp [hb, e]
theorem ins1_len (acc : List Str) (x : Str) : (ins1 acc x).length = if acc.any (· == x) = true then acc.length else acc.length + 1 := by
  unfold ins1
  split
  · rfl
  · rw [List.length_append, List.length_singleton]
theorem mets_len_le (xs : List Str) : (mets xs).length ≤ xs.length := by
  have key : ∀ (l acc : List Str), (l.foldl ins1 acc).length ≤ acc.length + l.length := by
    intro l
    induction l with
    | nil => intro acc; exact Nat.le_refl _
    | cons y r ih =>
      intro acc
      have h1 := ih (ins1 acc y)
      have h2 := ins1_len acc y
      rw [List.foldl_cons, List.length_cons]
      split at h2 <;> omega
  have q := key xs []
  rw [List.length_nil, Nat.zero_add] at q
  exact q
section
variable {prog : Program} {w : World} {A : Around} {R : Result → Shared → Prop} {I : Addr} {fp wr : List Addr} {G : Array GenState → Array GenState → Prop} {n : Nat} {P : Nat → Value → Prop} {St : Nat → Shared → Prop}
theorem upd_loop (W : WalksS prog w A.in1 I fp wr G n P St) (S : Addr) (hSf : S ∉ fp) (xs : List Str) (hn : xs.length = n) (hv : ∀ i v, P i v → ∃ t, v = .str (xs.getD i Str.empty) t) (hb : n + 1 < scanBound) :
    ∀ (k i : Nat) (s : Shared), n - i = k → i ≤ n → St i s → s.heap.SetOf (PySem.strKind prog w) S (fun z => (mets (xs.take i)).any (· == z)) (mets (xs.take i)).length →
      (∀ s', Moved (S :: wr) G s s' → s'.heap.SetOf (PySem.strKind prog w) S (fun z => (mets xs).any (· == z)) (mets xs).length → R (.ok (.ret .none)) s') →
      codeAny (model prog w) A (.builtin "set.update.loop" ⟨[.ref S, .ref I], []⟩) R s := by
  have nS : S ∉ wr := fun z => hSf (W.sub _ z)
  have more : ∀ b ∈ wr, b ∈ S :: wr := fun b z => List.mem_cons_of_mem _ z
  have stay : ∀ {s s' : Shared} {f : Str → Bool} {m : Nat}, Moved wr G s s' → s.heap.SetOf (PySem.strKind prog w) S f m → s'.heap.SetOf (PySem.strKind prog w) S f m := by
    rintro s s' f m hm ⟨o, es, ep, t, ho, rest⟩
    exact ⟨o, es, ep, t, hm.heap S _ nS ho, rest⟩
  intro k
  induction k with
  | zero =>
    intro i s hk hi st hS hR
    have e : i = n := by omega
    subst e
    refine codeAny_builtin PyProof.Rows.F.entry_set_update_loop ?_
    rw [Around.under_plainId PyProof.Rows.F.plain_set_update_loop _]
    show wpAny _ A.in1 (pyNext (.ref I) >>= _) _ _ s
    refine wpAny_bind (W.done s _ _ st fun s' hm => ?_)
    show wpAny _ A.in1 (ret Value.none) _ _ s'
    have q := stay hm hS
    rw [← hn, List.take_length] at q
    exact wpAny_pure (hR s' (hm.mono more) q)
  | succ k ih =>
    intro i s hk hi st hS hR
    have lt : i < n := by omega
    refine codeAny_builtin PyProof.Rows.F.entry_set_update_loop ?_
    rw [Around.under_plainId PyProof.Rows.F.plain_set_update_loop _]
    show wpAny _ A.in1 (pyNext (.ref I) >>= _) _ _ s
    refine wpAny_bind (W.item i s _ _ lt st fun v s' hP st' hm => ?_)
    obtain ⟨t, rfl⟩ := hv i v hP
    have lx : i < xs.length := by omega
    have eg : xs.getD i Str.empty = xs[i] := by simp [List.getD, List.getElem?_eq_getElem lx]
    rw [eg]
    show wpAny _ A.in1 (holding [Value.str xs[i] t] (setAdd S (.str xs[i] t)) >>= _) _ _ s'
    refine wpAny_bind (wpAny_holding ?_)
    unfold setAdd
    refine wpAny_holding (wpAny_bind ((PySem.strKind prog w).pyHash (k := xs[i]) (strKind_is _ _ _ _) ?_))
    have hS' := stay hm hS
    have room : (mets (xs.take i)).length + 1 < scanBound := by
      have h1 := mets_len_le (xs.take i)
      rw [List.length_take] at h1
      omega
    refine wpAny_setAddHashed_of (knd := PySem.strKind prog w) (s := { s' with toks := s'.toks + 1 }) (strKind_is _ _ _ _) rfl hS' room fun h' hsb hS2 => ?_
    have et : xs.take (i + 1) = xs.take i ++ [xs[i]] := by rw [List.take_succ, List.getElem?_eq_getElem lx]; rfl
    have hSi : h'.SetOf (PySem.strKind prog w) S (fun z => (mets (xs.take (i + 1))).any (· == z)) (mets (xs.take (i + 1))).length :=
      PyProof.Rows.SetOf_congr hS2 (fun z => by rw [et, mets_snoc, ins1_any]) (by rw [et, mets_snoc, ins1_len])
    have other : ∀ b, b ≠ S → ∀ o, s'.heap.get? b = some o → h'.get? b = some o := fun b hb o e => (hsb.2 b hb).trans e
    refine wpAny_pure ⟨plainId_quiet PyProof.Rows.F.plain_set_update_loop _, ih (i + 1) _ (by omega) lt (W.frame _ s' _ _ st' (Nat.le_succ _) fun b hb o e => other b (fun z => hSf (z ▸ hb)) o e) hSi fun s'' hm2 hS3 => ?_⟩
    exact hR s'' (Moved.trans W.gtrans ((hm.mono more).then_heap (Nat.le_succ _) fun b o hb e => other b (fun z => hb (z ▸ List.mem_cons_self)) o e) hm2) hS3
end
section
variable {prog : Program} {w : World} {A : Around} {E : Value → Shared → Prop} {s : Shared}
theorem set_of_strs {l : Addr} {its : Array Value} {xs : List Str} {Q : Value → Shared → Prop} (hh : A.handled = none) (hl : s.heap.IsList l its) (hi : PyProof.Rows.StrsAre its.toList xs) (hb : its.size + 1 < scanBound)
    (h : ∀ (h' : Heap) (tk : Nat), h'.SetOf (PySem.strKind prog w) s.heap.objs.size (fun z => (mets xs).any (· == z)) (mets xs).length → (∀ b o, b < s.heap.objs.size → s.heap.get? b = some o → h'.get? b = some o) →
      Q (.ref s.heap.objs.size) { s with heap := h', toks := tk }) : wpAny (model prog w) A (call (.type "set") [.ref l]) Q E s := by
  obtain ⟨c, tl, m1⟩ := PySem.F.called_set.mro
  have m2 := PySem.F.called_set.made
  have m3 := PySem.F.called_set.sub
  refine wpAny_call (codeAny_of_tree ?_)
  show wpAny _ _ (callAny (.type "set") _) _ _ _
  refine wpAny_pure ⟨Code.quiet_builtin _ (by decide +kernel), codeAny_builtin PySem.F.entry_type_call ?_⟩
  rw [Around.under_plain (weight_type_call_type "set" [.ref l] []) rfl]
  have m4 := PySem.F.called_set.notType
  have m5 := PySem.F.called_set.canCreate
  have m6 := PySem.F.typeCall_set_1 (.ref l)
  repeat (any_goals (first | assumption | wp_step))
  refine codeAny_mono (code_set_new_1 (.ref l) (E := E) (Q₁ := fun obj s₁ => ∃ led : Bool, obj = .ref s.heap.objs.size ∧ s₁ = { s with heap := s.heap.push { cls := .type "set", dict := none, data := .set #[] 0 (.fresh 0 0 led) } }) fun led => ⟨led, rfl, rfl⟩) fun r s₁ hr => ?_
  cases r with
  | error e => exact hr
  | ok fl =>
    cases fl with
    | ret obj =>
      obtain ⟨led, rfl, rfl⟩ := hr
      have gS : (s.heap.push ({ cls := .type "set", dict := none, data := .set #[] 0 (.fresh 0 0 led) } : Obj)).get? s.heap.objs.size = some ({ cls := .type "set", dict := none, data := .set #[] 0 (.fresh 0 0 led) } : Obj) := Heap.get?_push_size _ rfl
      have tS : Shared.TypeIs { s with heap := s.heap.push ({ cls := .type "set", dict := none, data := .set #[] 0 (.fresh 0 0 led) } : Obj) } (.ref s.heap.objs.size) "set" := ⟨_, gS, rfl⟩
      have m7 := PySem.F.called_set.init.lookup
      have m8 := PySem.F.called_set.init.bind (.ref s.heap.objs.size)
      repeat (any_goals (first | assumption | wp_step))
      refine codeAny_mono (codeAny_call_builtin (R := wants (fun r s₂ => r = .none ∧ ∃ h' tk, s₂ = { s with heap := h', toks := tk } ∧ h'.SetOf (PySem.strKind prog w) s.heap.objs.size (fun z => (mets xs).any (· == z)) (mets xs).length ∧
          (∀ b o, b < s.heap.objs.size → s.heap.get? b = some o → h'.get? b = some o)) E) PySem.F.called_set.init.plain PySem.F.entry_set_init (check_set_init_1 tS ?_)) fun r₂ s₂ hr₂ => ?_
      · obtain ⟨ol, hol, hcl, nl, hdl⟩ := hl
        obtain ⟨ocls, odict, odata, oslots⟩ := ol
        simp only at hcl hdl
        subst hcl; subst hdl
        have k1 : (s.heap.push ({ cls := .type "set", dict := none, data := .set #[] 0 (.fresh 0 0 led) } : Obj)).get? l = some { cls := .type "list", dict := odict, data := .seq its nl, slots := oslots } := Heap.get?_push_of_some _ hol
        have m9 := PySem.F.sub_list_set
        have m10 := PySem.F.sub_list_frozenset
        have m11 : (Value.type "list" == Value.type "dict") = false := by decide
        have k2 : (s.heap.push ({ cls := .type "set", dict := none, data := .set #[] 0 (.fresh 0 0 led) } : Obj)).IsList l its := ⟨_, k1, rfl, nl, rfl⟩
        unfold Builtin.«set.__init__» noKeywords Builtin.Frozenset.updateFrom
        generalize hPI : pyIter = PI
        wp_walk
        subst hPI
        refine wpAny_pyIter_list k2 (wpAny_bind (wpAny_runValue ?_))
        have lS : l < s.heap.objs.size := Heap.lt_size hol
        have size1 : (s.heap.push ({ cls := .type "set", dict := none, data := .set #[] 0 (.fresh 0 0 led) } : Obj)).objs.size = s.heap.objs.size + 1 := Heap.size_push ..
        have h3 : A.in1.in1.in1.handled = none := hh
        have nI : l ≠ (s.heap.push ({ cls := .type "set", dict := none, data := .set #[] 0 (.fresh 0 0 led) } : Obj)).objs.size := by rw [size1]; exact Nat.ne_of_lt (Nat.lt_succ_of_lt lS)
        have nS : s.heap.objs.size ∉ [(s.heap.push ({ cls := .type "set", dict := none, data := .set #[] 0 (.fresh 0 0 led) } : Obj)).objs.size, l] := by
          rw [size1]
          intro z
          rcases List.mem_cons.mp z with z | z
          · exact absurd z (Nat.ne_of_lt (Nat.lt_succ_self _))
          · exact absurd (List.mem_singleton.mp z) (Nat.ne_of_gt lS)
        have len : xs.length = its.size := by rw [← StrsAre.len_eq hi, Array.length_toList]
        refine upd_loop ((Walks.list h3 _ l nI its).toS) s.heap.objs.size nS xs len (fun i v hv => SS.strs_at hi i v (by rw [Array.getElem?_toList]; exact hv)) hb (its.size - 0) 0 _ (by omega) (Nat.zero_le _) ⟨⟨_, Heap.get?_push_size _ rfl, rfl, rfl⟩, (k2.push _)⟩ ?hS0 ?hR
        case hS0 =>
          have g2 : ((s.heap.push ({ cls := .type "set", dict := none, data := .set #[] 0 (.fresh 0 0 led) } : Obj)).push { cls := .type "list_iterator", data := .fields #[.ref l, .int 0 0] }).get? s.heap.objs.size = some ({ cls := .type "set", dict := none, data := .set #[] 0 (.fresh 0 0 led) } : Obj) := Heap.get?_push_of_some _ gS
          exact PyProof.Rows.SetOf_congr ((PyProof.Rows.setObjOf_fresh (knd := PySem.strKind prog w) led).setOf g2 (by unfold scanBound; omega)) (fun _ => rfl) rfl
        case hR =>
          rintro ⟨h', g', d', tk', os'⟩ hm hS'
          obtain rfl : g' = s.gens := hm.gens
          obtain rfl : d' = s.drawn := hm.drawn
          obtain rfl : os' = s.os := hm.os
          show wpAny _ _ _ _ _ _
          refine wpAny_pure ?_
          show wpAny _ _ (ret Value.none) _ _ _
          refine wpAny_pure ⟨rfl, h', tk', rfl, hS', fun b o hb e => ?_⟩
          refine hm.heap b o ?_ (Heap.get?_push_of_some _ (Heap.get?_push_of_some _ e))
          intro z
          rcases List.mem_cons.mp z with z | z
          · exact absurd z (Nat.ne_of_lt hb)
          · rw [List.mem_singleton.mp z, size1] at hb
            exact absurd (Nat.lt_of_succ_lt hb) (Nat.lt_irrefl _)
      · cases r₂ with
        | error e => exact hr₂
        | ok f2 =>
          cases f2 with
          | ret r =>
            obtain ⟨rfl, h', tk, rfl, q1, q2⟩ := hr₂
            repeat (any_goals (first | assumption | wp_step))
            exact h _ _ q1 q2
          | _ => exact hr₂.elim
    | _ => exact hr.elim
end
end Vf
end
section
set_option Elab.async false
set_option linter.all false
set_option maxRecDepth 100000
set_option maxHeartbeats 8000000
namespace Vf
open PySem PySem.Spec PyProof.Rows L2 GxR GenW
section
variable {X : Cx}
/-- len(set(texts)), texts a list -/
def tLenSetS (K : PySem.W.Frag) (ta : TE) : TE := fun σ H Q => ta σ H fun x H1 => ∃ (l : Addr) (xs : List Str), x = .ref l ∧ SqL K H1 l (xs.map V.str) ∧ xs.length ≤ 4000 ∧ Q (.int ((mets xs).length : Nat)) H1
theorem strs_vals : ∀ {xs : List Str} {us : List Value}, Vals (xs.map V.str) us → StrsAre us xs
  | [], us, r => by cases r; exact StrsAre.nil
  | x :: xs, us, r => by
    cases r with
    | cons a b =>
      obtain ⟨t, rfl⟩ := a
      exact StrsAre.cons _ _ (strs_vals b)
theorem pe_lenSetS {K : PySem.W.Frag} {a : Expr} {ta : TE} {p p2 q pos : Pos} (hK : X.K = K) (hg : Gl X "len") (hm : X.mg "len" = none) (hg2 : Gl X "set") (hm2 : X.mg "set" = none) (ha : PE X a ta) (hc : X.calm = true := by rfl)
    (na : starEach [a] X.env = (false, eval a X.env) :: starEach [] X.env := by rfl) : PE X (.Call (.Name "len" p) [.Call (.Name "set" p2) [a] [] q] [] pos) (tLenSetS K ta) := by
  subst hK
  refine ⟨fun pins s σ H Q I h => Call_ (ld_blt I hg hm boot_len ?_)⟩
  refine PyProof.Rows.callWith_builtin1 (PyProof.Rows.args_cons ?_ rfl) rfl rfl
  refine Call_ (ld_blt I hg2 hm2 boot_set ?_)
  refine PyProof.Rows.callWith_type1 (PyProof.Rows.args_cons (thn (ha.run pins s σ H _ I h) ?_) na) na rfl
  rintro v s1 ⟨x, H1, I1, r1, l, xs, rfl, hq, hl, q1⟩
  refine PyProof.Rows.args_nil ?_
  cases r1
  obtain ⟨its, r, pl, hz⟩ := I1.list hq
  have hlen : its.toArray.size = xs.length := by rw [List.size_toArray, ← r.length, List.length_map]
  have hml := mets_len_le xs
  refine set_of_strs (I1.ok.hd hc) pl.isList (xs := xs) (by simpa using strs_vals r) (by rw [hlen]; unfold scanBound; omega) fun h' tk hS hk => ?_
  refine PyProof.Rows.args_nil ?_
  obtain ⟨o, es, ep, t, ho, hex, hd, _, _, _, hf, hn⟩ := hS
  have I2 : Inv X pins σ H1 { s1 with heap := h', toks := tk } := I1.kept fun b o e => hk b o (Heap.lt_size e) e
  exact call_len_set ho hex hd hf (by rw [hn] <;> omega) ⟨.int (mets xs).length, H1, I2.tok _, ⟨_, by rw [hn]⟩, q1⟩
end
end Vf
end
section
set_option Elab.async false
set_option linter.all false
set_option maxRecDepth 100000
set_option maxHeartbeats 4000000
namespace Vf
open PySem PySem.Spec PyProof.Rows L2 GxR GenW RZ
/-! ### isinstance of data -/
def clsOf : PyData → String
  | .none => "NoneType"
  | .bool _ => "bool"
  | .int _ => "int"
  | .str _ => "str"
  | .list _ => "list"
  | .tuple _ => "tuple"
  | .dict _ => "dict"
def isaD (T : String) : PyData → Bool
  | .none => T == "NoneType"
  | .bool _ => T == "bool" || T == "int"
  | .int _ => T == "int"
  | .str _ => T == "str"
  | .list _ => T == "list"
  | .tuple _ => T == "tuple"
  | .dict _ => T == "dict"
theorem kitD (T : String) (h : T = "tuple" ∨ T = "str" ∨ T = "int" ∨ T = "bool" ∨ T = "list") (d : PyData) : kitB (clsOf d) T = some (isaD T d) := by
  rcases h with rfl | rfl | rfl | rfl | rfl <;> cases d <;> (simp only [clsOf, isaD]; decide +kernel)
section
variable {X : Cx}
theorem tyD {K : PySem.W.Frag} {H : Hp} {v : V} {d : PyData} (h : Dd K H v d) : TyX K H v (.type (clsOf d)) := by
  cases h with
  | non => exact .base .non
  | bl b => exact .base (.bl b)
  | int i => exact .base (.int i)
  | str x => exact .base (.str x)
  | lst h1 _ =>
    rcases h1 with (h1 | ⟨o, h1⟩) | ⟨o, its, n, h1, h2, _⟩
    · exact .base (.lst h1)
    · exact .base (.frz h1)
    · exact .kList h1 h2
  | tup h1 _ =>
    rcases h1 with (h1 | ⟨o, h1⟩) | ⟨o, its, n, h1, h2, _⟩
    · exact .base (.tup h1)
    · exact .fTuple h1
    · exact .kTuple h1 h2
  | dct h1 => exact .base (.dK h1)
/-- isinstance(x, T), x data, T a built-in class's name -/
theorem call_isD {K : PySem.W.Frag} (hK : X.K = K) : CallR X (.builtin "isinstance") (fun xs H Q => ∃ (x : V) (d : PyData) (T : String), xs = [x, .ty T] ∧ Dd K H x d ∧ (T = "tuple" ∨ T = "str" ∨ T = "int" ∨ T = "bool" ∨ T = "list") ∧ Q (.bl (isaD T d)) H) := by
  subst hK
  intro pins s σ H xs us Q I r h
  obtain ⟨x, d, T, rfl, hd, hT, q⟩ := h
  exact call_isi pins s σ H _ us Q I r ⟨x, .ty T, _, _, _, rfl, .ty T, tyD hd, kit_ty (kitD T hT d), q⟩
theorem vals_at : ∀ {xs : List V} {us : List Value}, xs.length = us.length → (∀ (i : Nat) (x : V) (u : Value), xs[i]? = some x → us[i]? = some u → RelV x u) → Vals xs us
  | [], [], _, _ => .nil
  | [], _ :: _, h, _ => by simp at h
  | _ :: _, [], h, _ => by simp at h
  | x :: xs, u :: us, h, k => .cons (k 0 x u rfl rfl) (vals_at (by simpa using h) fun i y v h1 h2 => k (i + 1) y v (by simpa using h1) (by simpa using h2))
/-- a text's signs as values -/
abbrev sgn (x : Str) : List V := x.cps.toList.map fun c => V.str ⟨#[c]⟩
theorem sgn_vals {x : Str} {acc : Array Value} (h : ItemsOf (SignAt x) acc x.cps.size) : Vals (sgn x) acc.toList := by
  obtain ⟨h1, h2⟩ := h
  refine vals_at (by rw [List.length_map, Array.length_toList, Array.length_toList]; exact h1.symm) fun i y u hy hu => ?_
  rw [Array.getElem?_toList] at hu
  obtain ⟨c, t, hc, rfl⟩ := h2 i u hu
  rw [List.getElem?_map, Array.getElem?_toList, hc] at hy
  cases hy
  exact ⟨t, rfl⟩
structure rLstU (K : PySem.W.Frag) (xs : List V) (H : Hp) (Q : VK) : Prop where
  h : (∃ p ys, xs = [.ref p] ∧ (SqL K H p ys ∨ SqT K H p ys) ∧ ∀ l, H l = none → Q (.ref l) (upd H l (.lst ys))) ∨ (∃ x : Str, xs = [.str x] ∧ x.length ≤ sizeLine ∧ ∀ l, H l = none → Q (.ref l) (upd H l (.lst (sgn x))))
/-- list(x), x a list, a tuple, a text -/
theorem call_listU {K : PySem.W.Frag} (hK : X.K = K) (hc : X.calm = true) : CallR X (.type "list") (rLstU K) := by
  subst hK
  intro pins s σ H xs us Q I r h
  rcases h.h with h | ⟨x, rfl, hz, q⟩
  · exact call_list_of pins s σ H xs us Q I r h
  · obtain ⟨u, rfl, t, rfl⟩ := vals1 r
    refine call_list_str (I.ok.hd hc) x t (fun h' tk acc c hk hS ha => ?_) hz
    have hn : H s.heap.objs.size = none := I.hok.fresh (Nat.le_refl _)
    exact ⟨.ref s.heap.objs.size, upd H s.heap.objs.size (.lst (sgn x)), I.laid hk (Nat.le_refl _) ⟨by rw [List.length_map, Array.length_toList]; exact hz, acc.toList, c, sgn_vals ha, hS⟩, rfl, q _ hn⟩
theorem lsU_s {K : PySem.W.Frag} {H : Hp} {Q : VK} {x : Str} (hz : x.length ≤ sizeLine) (q : ∀ l, H l = none → Q (.ref l) (upd H l (.lst (sgn x)))) : rLstU K [.str x] H Q := ⟨.inr ⟨x, rfl, hz, q⟩⟩
theorem lsU_q {K : PySem.W.Frag} {H : Hp} {Q : VK} {p : Addr} {ys : List V} (h : SqL K H p ys ∨ SqT K H p ys) (q : ∀ l, H l = none → Q (.ref l) (upd H l (.lst ys))) : rLstU K [.ref p] H Q := ⟨.inl ⟨p, ys, rfl, h, q⟩⟩
end

/-! ### the turns of an any, an all -/
section
variable {cont : Bool} {j : Nat} {σ0 : L2.St} {te : TE} {K : PySem.W.Frag} {a : Addr} {xs : List V} {Q : VK} {H2 : Hp}
theorem turns_T (Pv : Nat → Hp → Prop) (h0 : Pv 0 H2) (hl : ∀ i H, i ≤ xs.length → Pv i H → SqT K H a xs)
    (hs : ∀ i x H, xs[i]? = some x → Pv i H → te (σ0.set j (some x)) H fun z H4 => ∃ c, z = .bl c ∧ (if c = cont then Pv (i + 1) H4 else Q (.bl (!cont)) H4)) (hd : ∀ H, Pv xs.length H → Q (.bl cont) H) :
    ∃ W : Nat → Nat → Hp → Prop, (∃ m, W 0 m H2) ∧ Turns cont j σ0 tYes te (Itt K a) Q W := by
  refine ⟨fun i m H => i + m = xs.length ∧ Pv i H, ⟨xs.length, Nat.zero_add _, h0⟩, fun i m H ⟨hm, p⟩ => ?_⟩
  have q := hl i H (by omega) p
  cases m with
  | zero =>
    have e : i = xs.length := by omega
    subst e
    exact .inl ⟨⟨xs, q, Nat.le_refl _⟩, hd H p⟩
  | succ m =>
    have hi : i < xs.length := by omega
    refine .inr ⟨⟨xs, xs[i], q, List.getElem?_eq_getElem hi⟩, Pv (i + 1), fun H' p' => ⟨m, Nat.lt_succ_self _, by omega, p'⟩, ?_⟩
    rintro y H' ⟨rfl, hy⟩
    exact hs i y _ (hy xs q) p
theorem turns_L (Pv : Nat → Hp → Prop) (h0 : Pv 0 H2) (hl : ∀ i H, i ≤ xs.length → Pv i H → SqL K H a xs)
    (hs : ∀ i x H, xs[i]? = some x → Pv i H → te (σ0.set j (some x)) H fun z H4 => ∃ c, z = .bl c ∧ (if c = cont then Pv (i + 1) H4 else Q (.bl (!cont)) H4)) (hd : ∀ H, Pv xs.length H → Q (.bl cont) H) :
    ∃ W : Nat → Nat → Hp → Prop, (∃ m, W 0 m H2) ∧ Turns cont j σ0 tYes te (Itl K a) Q W := by
  refine ⟨fun i m H => i + m = xs.length ∧ Pv i H, ⟨xs.length, Nat.zero_add _, h0⟩, fun i m H ⟨hm, p⟩ => ?_⟩
  have q := hl i H (by omega) p
  cases m with
  | zero =>
    have e : i = xs.length := by omega
    subst e
    exact .inl ⟨⟨xs, q, Nat.le_refl _⟩, hd H p⟩
  | succ m =>
    have hi : i < xs.length := by omega
    refine .inr ⟨⟨xs, xs[i], q, List.getElem?_eq_getElem hi⟩, Pv (i + 1), fun H' p' => ⟨m, Nat.lt_succ_self _, by omega, p'⟩, ?_⟩
    rintro y H' ⟨rfl, hy⟩
    exact hs i y _ (hy xs q) p
theorem turns_S {x : Str} (Pv : Nat → Hp → Prop) (h0 : Pv 0 H2)
    (hs : ∀ i c H, x.cps.toList[i]? = some c → Pv i H → te (σ0.set j (some (.str ⟨#[c]⟩))) H fun z H4 => ∃ c, z = .bl c ∧ (if c = cont then Pv (i + 1) H4 else Q (.bl (!cont)) H4)) (hd : ∀ H, Pv x.cps.toList.length H → Q (.bl cont) H) :
    ∃ W : Nat → Nat → Hp → Prop, (∃ m, W 0 m H2) ∧ Turns cont j σ0 tYes te (Its x) Q W := by
  refine ⟨fun i m H => i + m = x.cps.toList.length ∧ Pv i H, ⟨_, Nat.zero_add _, h0⟩, fun i m H ⟨hm, p⟩ => ?_⟩
  have e2 : x.cps.toList.length = x.cps.size := Array.length_toList
  cases m with
  | zero =>
    have e : i = x.cps.toList.length := by omega
    subst e
    exact .inl ⟨by show x.cps.size ≤ _; omega, hd H p⟩
  | succ m =>
    refine .inr ⟨by show i < x.cps.size; omega, Pv (i + 1), fun H' p' => ⟨m, Nat.lt_succ_self _, by omega, p'⟩, ?_⟩
    rintro y H' ⟨rfl, c, hc, rfl⟩
    exact hs i c _ (by rw [Array.getElem?_toList]; exact hc) p
end

/-! ### comprehensions over a text, over zip -/
section
variable {K : PySem.W.Frag} {g : TG} {tt : TT} {te : TE} {vs : List Nat} {σ : L2.St} {H1 : Hp} {D : Addr} {Qd : Hp → Prop}
theorem lc_S {x : Str} (Pv : Nat → Hp → Prop) (h0 : Pv 0 (upd H1 D (.lst [])))
    (hs : ∀ i c H, x.cps.toList[i]? = some c → Pv i H → g (.str ⟨#[c]⟩) (wipe σ vs) H fun σ2 H2 => wipe σ2 vs = wipe σ vs ∧ tt σ2 H2 fun b H3 =>
      if b = true then te σ2 H3 fun y H4 => ∃ acc, H4 D = some (.lst acc) ∧ acc.length < sizeLine ∧ Pv (i + 1) (upd H4 D (.lst (acc ++ [y]))) else Pv (i + 1) H3) (hd : ∀ H, Pv x.cps.toList.length H → Qd H) :
    ∃ W : Nat → Nat → Hp → Prop, (∃ m, W 0 m (upd H1 D (.lst []))) ∧ ∀ i m H, W i m H →
      ((Its x).stop i H ∧ Qd H) ∨ ((Its x).go i H ∧ ∃ Nx : Hp → Prop, (∀ H', Nx H' → ∃ m', m' < m ∧ W (i + 1) m' H') ∧ ∀ y H', (Its x).yld i H y H' → g y (wipe σ vs) H' fun σ2 H2 => wipe σ2 vs = wipe σ vs ∧ tt σ2 H2 fun b H3 =>
        if b = true then te σ2 H3 fun y H4 => ∃ acc, H4 D = some (.lst acc) ∧ acc.length < sizeLine ∧ Nx (upd H4 D (.lst (acc ++ [y]))) else Nx H3) := by
  refine ⟨fun i m H => i + m = x.cps.toList.length ∧ Pv i H, ⟨_, Nat.zero_add _, h0⟩, fun i m H ⟨hm, p⟩ => ?_⟩
  have e2 : x.cps.toList.length = x.cps.size := Array.length_toList
  cases m with
  | zero =>
    have e : i = x.cps.toList.length := by omega
    subst e
    exact .inl ⟨by show x.cps.size ≤ _; omega, hd H p⟩
  | succ m =>
    refine .inr ⟨by show i < x.cps.size; omega, Pv (i + 1), fun H' p' => ⟨m, Nat.lt_succ_self _, by omega, p'⟩, ?_⟩
    rintro y H' ⟨rfl, c, hc, rfl⟩
    exact hs i c _ (by rw [Array.getElem?_toList]; exact hc) p
theorem lc_zT {a b : Addr} {xs ys : List V} (hl : xs.length = ys.length) (Pv : Nat → Hp → Prop) (h0 : Pv 0 (upd H1 D (.lst []))) (hq : ∀ i H, Pv i H → SqT K H a xs ∧ SqT K H b ys)
    (hs : ∀ i x y T H, xs[i]? = some x → ys[i]? = some y → Pv i H → H T = none → g (.ref T) (wipe σ vs) (upd H T (.tup [x, y])) fun σ2 H2 => wipe σ2 vs = wipe σ vs ∧ tt σ2 H2 fun b H3 =>
      if b = true then te σ2 H3 fun y H4 => ∃ acc, H4 D = some (.lst acc) ∧ acc.length < sizeLine ∧ Pv (i + 1) (upd H4 D (.lst (acc ++ [y]))) else Pv (i + 1) H3) (hd : ∀ H, Pv xs.length H → Qd H) :
    ∃ W : Nat → Nat → Hp → Prop, (∃ m, W 0 m (upd H1 D (.lst []))) ∧ ∀ i m H, W i m H →
      ((ItzT K a b).stop i H ∧ Qd H) ∨ ((ItzT K a b).go i H ∧ ∃ Nx : Hp → Prop, (∀ H', Nx H' → ∃ m', m' < m ∧ W (i + 1) m' H') ∧ ∀ y H', (ItzT K a b).yld i H y H' → g y (wipe σ vs) H' fun σ2 H2 => wipe σ2 vs = wipe σ vs ∧ tt σ2 H2 fun b H3 =>
        if b = true then te σ2 H3 fun y H4 => ∃ acc, H4 D = some (.lst acc) ∧ acc.length < sizeLine ∧ Nx (upd H4 D (.lst (acc ++ [y]))) else Nx H3) := by
  refine ⟨fun i m H => i + m = xs.length ∧ Pv i H, ⟨_, Nat.zero_add _, h0⟩, fun i m H ⟨hm, p⟩ => ?_⟩
  obtain ⟨q1, q2⟩ := hq i H p
  cases m with
  | zero =>
    have e : i = xs.length := by omega
    subst e
    exact .inl ⟨⟨xs, ys, q1, q2, .inl (Nat.le_refl _)⟩, hd H p⟩
  | succ m =>
    have h1 : i < xs.length := by omega
    have h2 : i < ys.length := by omega
    refine .inr ⟨⟨xs, ys, xs[i], ys[i], q1, q2, List.getElem?_eq_getElem h1, List.getElem?_eq_getElem h2⟩, Pv (i + 1), fun H' p' => ⟨m, Nat.lt_succ_self _, by omega, p'⟩, ?_⟩
    rintro z H' ⟨T, x, y, rfl, hT, rfl, hx, hy⟩
    exact hs i x y T H (hx xs q1) (hy ys q2) p hT
theorem lc_zL {a b : Addr} {xs ys : List V} (hl : xs.length = ys.length) (Pv : Nat → Hp → Prop) (h0 : Pv 0 (upd H1 D (.lst []))) (hq : ∀ i H, Pv i H → SqL K H a xs ∧ SqL K H b ys)
    (hs : ∀ i x y T H, xs[i]? = some x → ys[i]? = some y → Pv i H → H T = none → g (.ref T) (wipe σ vs) (upd H T (.tup [x, y])) fun σ2 H2 => wipe σ2 vs = wipe σ vs ∧ tt σ2 H2 fun b H3 =>
      if b = true then te σ2 H3 fun y H4 => ∃ acc, H4 D = some (.lst acc) ∧ acc.length < sizeLine ∧ Pv (i + 1) (upd H4 D (.lst (acc ++ [y]))) else Pv (i + 1) H3) (hd : ∀ H, Pv xs.length H → Qd H) :
    ∃ W : Nat → Nat → Hp → Prop, (∃ m, W 0 m (upd H1 D (.lst []))) ∧ ∀ i m H, W i m H →
      ((Itz K a b).stop i H ∧ Qd H) ∨ ((Itz K a b).go i H ∧ ∃ Nx : Hp → Prop, (∀ H', Nx H' → ∃ m', m' < m ∧ W (i + 1) m' H') ∧ ∀ y H', (Itz K a b).yld i H y H' → g y (wipe σ vs) H' fun σ2 H2 => wipe σ2 vs = wipe σ vs ∧ tt σ2 H2 fun b H3 =>
        if b = true then te σ2 H3 fun y H4 => ∃ acc, H4 D = some (.lst acc) ∧ acc.length < sizeLine ∧ Nx (upd H4 D (.lst (acc ++ [y]))) else Nx H3) := by
  refine ⟨fun i m H => i + m = xs.length ∧ Pv i H, ⟨_, Nat.zero_add _, h0⟩, fun i m H ⟨hm, p⟩ => ?_⟩
  obtain ⟨q1, q2⟩ := hq i H p
  cases m with
  | zero =>
    have e : i = xs.length := by omega
    subst e
    exact .inl ⟨⟨xs, ys, q1, q2, .inl (Nat.le_refl _)⟩, hd H p⟩
  | succ m =>
    have h1 : i < xs.length := by omega
    have h2 : i < ys.length := by omega
    refine .inr ⟨⟨xs, ys, xs[i], ys[i], q1, q2, List.getElem?_eq_getElem h1, List.getElem?_eq_getElem h2⟩, Pv (i + 1), fun H' p' => ⟨m, Nat.lt_succ_self _, by omega, p'⟩, ?_⟩
    rintro z H' ⟨T, x, y, rfl, hT, rfl, hx, hy⟩
    exact hs i x y T H (hx xs q1) (hy ys q2) p hT
end
end Vf
end
section
set_option Elab.async false
set_option linter.all false
set_option maxRecDepth 100000
set_option maxHeartbeats 4000000
/-! sum(elt for a, b in a tuple of pairs), elt quiet. -/
namespace Vf
open PySem PySem.Spec PyProof.Rows L2 GxR GenW RZ
theorem walkPairsT {prog : Program} {w : World} {A : Around} (hh : A.handled = none) (I ax : Addr) (hne : ax ≠ I) (items : Array Value) (Ts : Nat → Addr) (vals : Nat → Array Value)
    (hit : ∀ j, j < items.size → items[j]? = some (.ref (Ts j))) (hTI : ∀ j, j < items.size → Ts j ≠ I) :
    WalksU prog w A I (I :: ax :: (List.range items.size).map Ts) [I] items.size (fun j v => v = vals j ∧ j < items.size)
      (fun j h => h.IsTupleIter I ax j ∧ h.IsTuple ax items ∧ ∀ k, k < items.size → h.IsTuple (Ts k) (vals k))
      (fun j T h => (j < items.size ∧ T = Ts j) ∧ h.IsTupleIter I ax (j + 1) ∧ h.IsTuple ax items ∧ ∀ k, k < items.size → h.IsTuple (Ts k) (vals k)) where
  sub := fun b hb => by simp at hb; simp [hb]
  frame := fun _ _ _ st hk => ⟨st.1.at fun o e => hk I (by simp) o e, st.2.1.at fun o e => hk ax (by simp) o e,
    fun k hk' => (st.2.2 k hk').at fun o e => hk (Ts k) (List.mem_cons_of_mem _ (List.mem_cons_of_mem _ (List.mem_map.mpr ⟨k, List.mem_range.mpr hk', rfl⟩))) o e⟩
  item := fun i s Q E hi st hQ => by
    refine wpAny_pyNext_tuple_item st.1 st.2.1 (x := .ref (Ts i)) (hit i hi) fun h' hit' hs' => ?_
    have tup : ∀ k, k < items.size → h'.IsTuple (Ts k) (vals k) := fun k hk' => (st.2.2 k hk').extBut hs'.extBut (hTI k hk')
    exact hQ (Ts i) (vals i) h' s.toks ⟨rfl, hi⟩ (tup i hi) ⟨⟨hi, rfl⟩, hit', st.2.1.extBut hs'.extBut hne, tup⟩ fun b o hb e => hs'.extBut b o (fun h => hb (by simp [h])) e
  go := fun _ _ _ _ _ s Q _ hm hQ => letGo_tupleiter hm.2.1 (hQ s.heap hm.2 fun _ _ _ e => e)
  apart := fun j T _ hm hmem => by
    rcases List.mem_cons.mp hmem with e | e
    · exact hTI j hm.1.1 (hm.1.2 ▸ e)
    · cases e
  done := fun s Q E st hQ => wpAny_pyNext_tuple_end hh st.1 st.2.1 (by simp) fun h' he' => hQ h' s.toks fun b o hb e => he' b o (fun h => hb (by simp [h])) e
  self := fun _ _ _ _ st hQ => wpAny_pyIter_tupleiter st.1 hQ

/-- a generator expression's own scope, of two names -/
structure GenS2 (env : Env) (scope : Scope) (xa xb : Str) : Prop where
  kind : scope.kind = .function
  co : scope.isCoroutine = false
  cell : ∀ y ∈ scope.names, y.2 ≠ .cell
  dot : scope.names.lookup (".0" : Str) = some NameKind.local
  locA : scope.names.lookup xa = some .local
  locB : scope.names.lookup xb = some .local
  ne : xa ≠ xb
  free : ∀ y ∈ scope.names, y.2 = .free → ∃ c, env.cells.lookup y.1 = some c
/-- the element: of a pair of which the first is v with Pz the int f v -/
def EltI (prog : Program) (w : World) (mg : Str → Option Value) (scope : Scope) (xa xb : Str) (elt : Expr) (Pz : V → Prop) (f : V → Int) : Prop :=
  ∀ (cenv : Env) (A' : Around) (E' : Value → Shared → Prop) (v : V) (ua ub : Value) (s₂ : Shared) (m₂ mb : Str → Option Value), cenv.scope = scope → cenv.globals = mainGlobals → cenv.builtins = builtinsNs → s₂.heap.Ns mainGlobals mg → s₂.heap.Ns builtinsNs mb → (∀ x : Str, x ≠ "__name__" → mb x = bootBuiltins x) →
    Pz v → RelV v ua → s₂.heap.Ns cenv.locals m₂ → m₂ xa = some ua → m₂ xb = some ub → wpAny (model prog w) A' (eval elt cenv) (fun y s₃ => (∃ t', y = .int (f v) t') ∧ Keeps s₂ s₃) E' s₂
/-- the pairs at the places ps -/
def Prs (K : PySem.W.Frag) (H : Hp) : List V → List (V × V) → Prop
  | [], [] => True
  | x :: xs, p :: ps => (∃ b, x = .ref b ∧ SqT K H b [p.1, p.2]) ∧ Prs K H xs ps
  | _, _ => False
theorem Prs.at {K : PySem.W.Frag} {H : Hp} : ∀ {xs : List V} {ps : List (V × V)}, Prs K H xs ps → ∀ {j : Nat} {x : V}, xs[j]? = some x → ∃ b p, x = .ref b ∧ ps[j]? = some p ∧ SqT K H b [p.1, p.2]
  | [], [], _, j, x, h => by simp at h
  | x :: xs, p :: ps, ⟨⟨b, e, s⟩, _⟩, 0, y, h => ⟨b, p, (Option.some.inj h).symm.trans e, rfl, s⟩
  | x :: xs, p :: ps, ⟨_, r⟩, j + 1, y, h => Prs.at r (show xs[j]? = some y from h)
theorem Prs.len {K : PySem.W.Frag} {H : Hp} : ∀ {xs : List V} {ps : List (V × V)}, Prs K H xs ps → xs.length = ps.length
  | [], [], _ => rfl
  | x :: xs, p :: ps, ⟨_, r⟩ => by
    show xs.length + 1 = ps.length + 1
    rw [Prs.len r]
section
variable {X : Cx} {pins : List (Addr × Obj)} {σ : L2.St} {H : Hp} {s : Shared}
def ReadyI (X : Cx) (pins : List (Addr × Obj)) (σ : L2.St) (H1 : Hp) (P : Addr) (ps : List (V × V)) (f : V → Int) (g : Addr) (s5 : Shared) : Prop :=
  ∃ (fp wr : List Addr) (G : Array GenState → Array GenState → Prop) (F : Nat → Value → Prop) (St : Nat → Shared → Prop),
    WalksS X.prog X.w X.A.in1 g fp wr G ps.length F St ∧ St 0 s5 ∧ (∀ b ∈ fp, b < s5.heap.objs.size) ∧ g ∈ fp ∧ (∀ i s9, St i s9 → s9.TypeIs (.ref g) "generator") ∧
    (∀ j v, F j v → ∃ (p : V × V) (t : Tok), ps[j]? = some p ∧ v = .int (f p.1) t) ∧
    ∀ s', Moved wr G s5 s' → ∃ H2, Tabb P H1 H2 ∧ Inv X pins σ H2 s'
theorem gen_prs {c P : Addr} {elt iter : Expr} {xa xb : Str} {pa pb pt : Pos} {kt : Nat} {gpos : Pos} {scope : Scope} {Pz : V → Prop} {f : V → Int} {te : TE} {k : Nat} {Q' : Value → Shared → Prop} {R : List (V × V) → Hp → Prop}
    (hr : Room k X.A) (TB : GxR.TabB X.base X.mg c P) (hcode : X.env.code = .ref c) (S : GenS2 X.env scope xa xb) (hi : PE X iter te) (hel : EltI X.prog X.w X.mg scope xa xb elt Pz f)
    (hs : ∀ v, genFold iter X.env v = pure v) (I : Inv X pins σ H s) (h : te σ H fun v H1 => ∃ (yl : Addr) (xs : List V) (ps : List (V × V)), v = .ref yl ∧ SqT X.K H1 yl xs ∧ Prs X.K H1 xs ps ∧ (∀ p ∈ ps, Pz p.1) ∧ GxR.TabG H1 P ∧ R ps H1)
    (hQ : ∀ ps H1 g s5, R ps H1 → ReadyI X pins σ H1 P ps f g s5 → Q' (.ref g) s5) :
    wpAny (model X.prog X.w) X.A (eval (.GeneratorExp elt [⟨.Tuple [.Name xa pa, .Name xb pb] kt pt, iter, [], 0⟩] scope gpos) X.env) Q' X.xe s := by
  refine wpAny_GeneratorExp_walksQT hr.hd S.co (closure_ok S.free) S.cell S.dot S.locA S.locB S.ne S.kind (by have := hr.dp; omega) ?_ hs
  refine thn (hi.run pins s σ H _ I h) fun xv s1 ⟨v, H1, I1, r1, q1⟩ => ?_
  obtain ⟨yl, xs, prs, rfl, hyl, hpr, hPz, ⟨ps, hP, ht⟩, q1⟩ := q1
  obtain rfl : xv = Value.ref yl := r1
  obtain ⟨its, rv, hIL, hz⟩ := I1.tuple hyl
  have hlen : its.length = prs.length := by rw [← rv.length, hpr.len]
  have hat : ∀ j, j < its.toArray.size → ∃ (b : Addr) (ua ub : Value) (p : V × V), its.toArray[j]? = some (.ref b) ∧ s1.heap.IsTuple b #[ua, ub] ∧ prs[j]? = some p ∧ RelV p.1 ua := fun j hj => by
    have hj2 : j < xs.length := by
      rw [rv.length]
      simpa using hj
    obtain ⟨b, p, ex, hp, sb⟩ := hpr.at (List.getElem?_eq_getElem hj2)
    obtain ⟨u, hu, ru⟩ := rv.get (List.getElem?_eq_getElem hj2)
    rw [ex] at ru
    cases ru
    obtain ⟨it2, rv2, tb, _⟩ := I1.tuple sb
    cases rv2 with
    | cons ra r2 =>
      cases r2 with
      | cons rb r3 =>
        cases r3
        exact ⟨b, _, _, p, by simpa using hu, tb, hp, ra⟩
  refine wpAny_pyIter_tuple hIL ?_
  generalize ho : ({ cls := .type "tuple_iterator", data := .fields #[.ref yl, .int 0 0] } : Obj) = o
  have hitr : (s1.heap.push o).IsTupleIter s1.heap.objs.size yl 0 := by
    subst ho
    exact ⟨_, Heap.get?_push_size _ rfl, rfl, rfl⟩
  have hylt : yl < s1.heap.objs.size := by
    obtain ⟨_, e, _⟩ := _root_.id hIL
    exact Heap.lt_size e
  have hPs : s1.heap.get? P = some { cls := .none, data := .fields ps } := I1.hok P _ hP
  have hPlt : P < s1.heap.objs.size := Heap.lt_size hPs
  have hP2 : (s1.heap.push o).get? P = some { cls := .none, data := .fields ps } := Heap.get?_push_of_some _ hPs
  have cd : PySem.W.CodeHd (s1.heap.push o) c P := TB.code.keeps fun b u e => Heap.get?_push_of_some _ (I1.bk b u e)
  have lim2 : (s1.heap.push o).NoLimit := I1.nolimit.push o
  -- the pairs' objects
  obtain ⟨Ts, vals, hTs⟩ : ∃ (Ts : Nat → Addr) (vals : Nat → Array Value), ∀ j, j < its.toArray.size → ∃ (ua ub : Value) (p : V × V), its.toArray[j]? = some (.ref (Ts j)) ∧ s1.heap.IsTuple (Ts j) (vals j) ∧ vals j = #[ua, ub] ∧ prs[j]? = some p ∧ RelV p.1 ua := by
    have key : ∀ j, ∃ q : Addr × Array Value, j < its.toArray.size → ∃ (ua ub : Value) (p : V × V), its.toArray[j]? = some (.ref q.1) ∧ s1.heap.IsTuple q.1 q.2 ∧ q.2 = #[ua, ub] ∧ prs[j]? = some p ∧ RelV p.1 ua := fun j => by
      by_cases hj : j < its.toArray.size
      · obtain ⟨b, ua, ub, p, e1, e2, e3, e4⟩ := hat j hj
        exact ⟨(b, #[ua, ub]), fun _ => ⟨ua, ub, p, e1, e2, rfl, e3, e4⟩⟩
      · exact ⟨(0, #[]), fun h => absurd h hj⟩
    exact ⟨fun j => (Classical.choose (key j)).1, fun j => (Classical.choose (key j)).2, fun j hj => Classical.choose_spec (key j) hj⟩
  obtain ⟨mb, bl1, bl2⟩ := I1.mod.blt
  have nsP : ∀ {b : Addr} {m : Str → Option Value}, s1.heap.Ns b m → b ≠ P := fun {b m} hn z => by
    obtain ⟨o', es, ep, e1, e2, _⟩ := hn
    rw [z, hPs] at e1
    cases e1
    cases e2
  have tupP : ∀ {b : Addr} {vs : Array Value}, s1.heap.IsTuple b vs → b ≠ P := fun {b vs} hn z => by
    obtain ⟨o', e1, _, n, e2⟩ := hn
    rw [z, hPs] at e1
    cases e1
    cases e2
  have cont : ∀ (code : Value) (h3 : Heap) (tk : Nat) (ps' : Array Value), Heap.ExtBut P (s1.heap.push o) h3 → (s1.heap.push o).objs.size ≤ h3.objs.size → h3.get? P = some { cls := .none, data := .fields ps' } → (∃ more, ps' = ps ++ more) → TriplesOk ps'.toList →
      wpAny (model X.prog X.w) X.A (builtinsFor X.env.globals X.env.builtins) (fun bi s₄ =>
        ∃ Ia fp wr n₀ Pt St₀ Mid pz F, Value.ref s1.heap.objs.size = .ref Ia ∧ (∀ A' : Around, A'.handled = none → WalksU X.prog X.w A' Ia fp wr n₀ Pt St₀ Mid) ∧ (∀ i vals, Pt i vals → ∃ va vb, vals = #[va, vb]) ∧ St₀ 0 s₄.heap ∧ (∀ b ∈ fp, b < s₄.heap.objs.size) ∧ s₄.heap.NoLimit ∧ cStatics ∉ wr ∧
          (∀ href : Heap, (∀ b o, s₄.heap.get? b = some o → href.get? b = some o) →
            QuietGenT X.prog X.w (genEnv scope (cloFrom X.env.cells scope.names []) s₄.heap.objs.size code bi X.env) xa xb [] elt (List.range s₄.heap.objs.size) wr Pt pz F href) ∧
          (∀ a h₅ tk gs, gs.bare = true → s₄.heap.objs.size < a → h₅.objs.size = a + 1 → (∀ b o, s₄.heap.get? b = some o → h₅.get? b = some o) →
            WalksS X.prog X.w X.A.in4 a (a :: s₄.heap.objs.size :: List.range s₄.heap.objs.size) (s₄.heap.objs.size :: wr) (GenOnlyQ s₄.gens.size) (passing pz n₀ 0).length
              (fun j y => ∃ i, (passing pz n₀ 0)[j]? = some i ∧ F i y) (GenAt X.prog X.w X.A.in4 a s₄.gens.size s₄.heap.objs.size (List.range s₄.heap.objs.size) wr pz n₀ F) →
            GenAt X.prog X.w X.A.in4 a s₄.gens.size s₄.heap.objs.size (List.range s₄.heap.objs.size) wr pz n₀ F 0 { s₄ with gens := s₄.gens.push gs, toks := tk, heap := h₅ } →
            Q' (.ref a) { s₄ with gens := s₄.gens.push gs, toks := tk, heap := h₅ })) X.xe { s1 with heap := h3, toks := tk } := by
    intro code h3 tk ps' hx hsz hP3 hmore ht3
    obtain ⟨bm, ob, e1, e2, e3, e4, e5, e6, e7, e8⟩ := TB.bm
    have hcP : cStatics ≠ P := fun e => by
      obtain ⟨_, hns, _⟩ := I1.nolimit
      obtain ⟨o', es, ep, ho, hd, _⟩ := hns
      rw [e, hPs] at ho
      cases ho
      cases hd
    have hcl : cStatics < s1.heap.objs.size := let ⟨_, hns, _⟩ := I1.nolimit; hns.lt
    have sz2 : (s1.heap.push o).objs.size = s1.heap.objs.size + 1 := Heap.size_push ..
    have keep3 : ∀ b u, b ≠ P → s1.heap.get? b = some u → h3.get? b = some u := fun b u hb e => hx b u hb (Heap.get?_push_of_some _ e)
    refine wpAny_builtinsFor (m := X.mg) (by rw [I1.ok.glob]; exact ((I1.mod.glob.keeps I1.bk).push o).extBut hx TB.gP) e1 e2 (keep3 _ _ e4 (I1.bk _ _ e5)) e6 e7 e8 ?_
    have hIL3 : h3.IsTuple yl its.toArray := by
      obtain ⟨ob, e, r⟩ := _root_.id hIL
      exact ⟨ob, keep3 _ _ (tupP hIL) e, r⟩
    have hTup3 : ∀ j, j < its.toArray.size → h3.IsTuple (Ts j) (vals j) := fun j hj => by
      obtain ⟨_, _, _, _, t2, _⟩ := hTs j hj
      have t2' := t2
      obtain ⟨ob, e, r⟩ := t2
      exact ⟨ob, keep3 _ _ (tupP t2') e, r⟩
    have hItr3 : h3.IsTupleIter s1.heap.objs.size yl 0 := hitr.at fun u e => hx _ u (Nat.ne_of_gt hPlt) e
    have hTlt : ∀ j, j < its.toArray.size → Ts j < s1.heap.objs.size := fun j hj => by
      obtain ⟨_, _, _, _, ⟨ob, e, _⟩, _⟩ := hTs j hj
      exact Heap.lt_size e
    refine ⟨s1.heap.objs.size, s1.heap.objs.size :: yl :: (List.range its.toArray.size).map Ts, [s1.heap.objs.size], its.toArray.size, (fun j v => v = vals j ∧ j < its.toArray.size),
      (fun j h => h.IsTupleIter s1.heap.objs.size yl j ∧ h.IsTuple yl its.toArray ∧ ∀ k, k < its.toArray.size → h.IsTuple (Ts k) (vals k)),
      (fun j T h => (j < its.toArray.size ∧ T = Ts j) ∧ h.IsTupleIter s1.heap.objs.size yl (j + 1) ∧ h.IsTuple yl its.toArray ∧ ∀ k, k < its.toArray.size → h.IsTuple (Ts k) (vals k)), (fun _ => true),
      (fun i y => ∃ (p : V × V) (t : Tok), prs[i]? = some p ∧ y = .int (f p.1) t), rfl, (fun A' hA => walkPairsT hA _ _ (Nat.ne_of_lt hylt) its.toArray Ts vals (fun j hj => (hTs j hj).elim fun _ z => z.elim fun _ z => z.elim fun _ z => z.1) (fun j hj => Nat.ne_of_lt (hTlt j hj))), ?_, ⟨hItr3, hIL3, hTup3⟩, ?_, lim2.extBut hx hcP, ?_, ?_, ?_⟩
    · rintro i vs ⟨rfl, hi⟩
      obtain ⟨ua, ub, _, _, _, e, _⟩ := hTs i hi
      exact ⟨ua, ub, e⟩
    · intro b hb
      rcases List.mem_cons.mp hb with z | z
      · rw [z]
        show s1.heap.objs.size < h3.objs.size
        omega
      · have e9 : s1.heap.objs.size ≤ h3.objs.size := by omega
        rcases List.mem_cons.mp z with z | z
        · rw [z]
          exact Nat.lt_of_lt_of_le hylt e9
        · obtain ⟨j, hj, rfl⟩ := List.mem_map.mp z
          exact Nat.lt_of_lt_of_le (hTlt j (List.mem_range.mp hj)) e9
    · intro z
      rcases List.mem_cons.mp z with z | z
      · exact Nat.ne_of_lt hcl z
      · cases z
    · intro href hhref
      refine ⟨fun A' E' i va vb s₂ m₂ hA hPv hn hma hmb hk => ?_, fun A' E' i va vb s₂ m₂ hA hPv hp hn hma hmb hk => ?_⟩
      · simp only [List.forIn_nil]
        exact wpAny_pure ⟨rfl, GxR.keeps_refl _⟩
      · obtain ⟨ev, hi⟩ := hPv
        obtain ⟨ua, ub, p, _, _, e, hp2, rp⟩ := hTs i hi
        rw [e] at ev
        have ea : va = ua := by
          have := congrArg (fun z : Array Value => z[0]?) ev
          simpa using this
        subst ea
        have stay : ∀ {b : Addr} {m : Str → Option Value}, s1.heap.Ns b m → s₂.heap.Ns b m := fun {b m} hn1 => by
          have hbP := nsP hn1
          have hblt := hn1.lt
          refine hn1.at' fun o' e' => hk b ?_ ?_ o' (hhref b o' (keep3 b o' hbP e'))
          · refine List.mem_range.mpr ?_
            have e9 : s1.heap.objs.size ≤ h3.objs.size := by omega
            exact Nat.lt_of_lt_of_le hblt e9
          · intro z
            rcases List.mem_cons.mp z with z | z
            · rw [z] at hblt
              exact Nat.lt_irrefl _ hblt
            · cases z
        refine wpAny_mono (hel _ A' E' p.1 va vb s₂ m₂ mb rfl (by show X.env.globals = _; rw [I1.ok.glob]) rfl (stay (I1.mod.glob.keeps I1.bk)) (stay (bl1.keeps I1.bk)) bl2 (hPz p (List.mem_of_getElem? hp2)) rp hn hma hmb) (fun y s3 r => ?_) fun _ _ e => e
        obtain ⟨⟨t, e⟩, kp⟩ := r
        exact ⟨⟨p, t, hp2, e⟩, kp⟩
    · intro g h5 tk5 gs hgb hag hsz5 hk5 W5 hgat
      simp only [GxR.passing_true, List.length_range] at W5
      have hn5 : its.toArray.size = prs.length := by rw [List.size_toArray, hlen]
      rw [hn5] at W5 hgat
      refine hQ prs H1 g _ q1 ⟨_, _, _, _, _, W5.in4_1, hgat, ?_, List.mem_cons_self, fun i s9 h9 => ?_, ?_, fun s' hm => ?_⟩
      · intro b hb
        show b < h5.objs.size
        have e5 : h5.objs.size = g + 1 := hsz5
        have h8 : h3.objs.size < g := hag
        rw [e5]
        rcases List.mem_cons.mp hb with z | z
        · rw [z]
          exact Nat.lt_succ_self g
        · rcases List.mem_cons.mp z with z | z
          · rw [z]
            exact Nat.lt_succ_of_lt h8
          · have z2 := List.mem_range.mp z
            have h7 : b < h3.objs.size := z2
            exact Nat.lt_succ_of_lt (Nat.lt_trans h7 h8)
      · obtain ⟨hg9, _⟩ := h9
        exact hg9.typeIs
      · intro j v hv
        obtain ⟨i, hij, a, t, ha, e⟩ := hv
        obtain ⟨hj, ej⟩ := List.getElem?_eq_some_iff.mp hij
        rw [List.getElem_range] at ej
        subst ej
        exact ⟨a, t, ha, e⟩
      · obtain ⟨more, em⟩ := hmore
        have nwr : ∀ b u, s1.heap.get? b = some u → b ∉ h3.objs.size :: [s1.heap.objs.size] := fun b u e hb => by
          have hl := Heap.lt_size e
          rcases List.mem_cons.mp hb with z | z
          · rw [z] at hl
            have h9 : (h3.objs.size : Nat) < s1.heap.objs.size := hl
            omega
          · rcases List.mem_cons.mp z with z | z
            · rw [z] at hl
              exact Nat.lt_irrefl _ hl
            · cases z
        have J := GxR.inv_tab (more := more) (h' := s'.heap) (g' := s'.gens) (d' := s'.drawn) (t' := s'.toks) I1 hP (fun b u hb e => hm.heap b u (nwr b u e) (hk5 b u (keep3 b u hb e)))
          (by rw [← em]; exact hm.heap P _ (nwr P _ hPs) (hk5 P _ hP3)) (AllBare.movedS (I1.bare.push hgb) hm)
        rw [GxR.sh_eta s1 s' hm.os] at J
        exact ⟨upd H1 P (.tbl (ps ++ more)), ⟨ps, more, hP, ht, by rw [← em]; exact ht3, rfl⟩, J⟩
  refine ⟨lim2, ?_⟩
  cases hf : codeAmong gpos ps.toList with
  | none =>
    refine wpAny_genexprCodeX hcode (cd.code hP2 ht) (cd.tab hP2) hf fun c' h' tk hx hge hlt hco' _ htab' _ => ?_
    obtain ⟨o1, vs, f1, tf, fl, tg, inF, tx, tt, op, _, _, _, _, _, _, _, _, _, htr, _⟩ := hco'
    exact cont _ h' tk _ hx (Nat.le_trans hge (Nat.le_of_lt hlt)) htab'.2 ⟨_, rfl⟩ htr
  | some cv =>
    refine wpAny_genexprCode_hit hcode (cd.code hP2 ht) hf ?_
    exact cont cv (s1.heap.push o) s1.toks ps (Heap.ExtBut.refl _ _) (Nat.le_refl _) hP2 ⟨#[], by simp⟩ ht
/-- sum(elt for a, b in iter) -/
def tSumG (K : PySem.W.Frag) (P : Addr) (Pz : V → Prop) (f : V → Int) (te : TE) : TE := fun σ H Q => te σ H fun v H1 => ∃ (yl : Addr) (xs : List V) (ps : List (V × V)), v = .ref yl ∧ SqT K H1 yl xs ∧ Prs K H1 xs ps ∧ (∀ p ∈ ps, Pz p.1) ∧ GxR.TabG H1 P ∧ ∀ H2, Tabb P H1 H2 → Q (.int ((ps.map fun p => f p.1).sum)) H2
theorem preSum_sum (ps : List (V × V)) (f : V → Int) : ∀ n, n ≤ ps.length → preSum (fun j => ((ps[j]?).map fun p => f p.1).getD 0) n = ((ps.take n).map fun p => f p.1).sum
  | 0, _ => rfl
  | n + 1, h => by
    have hn : n < ps.length := h
    rw [List.take_succ, List.getElem?_eq_getElem hn, List.map_append, List.sum_append, ← preSum_sum ps f n (Nat.le_of_lt hn)]
    show preSum _ n + ((ps[n]?).map fun p => f p.1).getD 0 = _
    rw [List.getElem?_eq_getElem hn]
    simp
theorem pe_sumG {P : Addr} {elt iter : Expr} {xa xb : Str} {pa pb pt : Pos} {kt : Nat} {gpos p pos : Pos} {scope : Scope} {Pz : V → Prop} {f : V → Int} {te : TE} {k : Nat} {K : PySem.W.Frag} (hK : X.K = K)
    (hr : Room k X.A) (hg : Gl X "sum") (hm : X.mg "sum" = none) (hb : bootBuiltins "sum" = some (.builtin "sum")) {c : Addr} (TB : GxR.TabB X.base X.mg c P) (hcode : X.env.code = .ref c) (S : GenS2 X.env scope xa xb) (hi : PE X iter te) (hel : EltI X.prog X.w X.mg scope xa xb elt Pz f)
    (hs : ∀ v, genFold iter X.env v = pure v)
    (he : starEach [.GeneratorExp elt [⟨.Tuple [.Name xa pa, .Name xb pb] kt pt, iter, [], 0⟩] scope gpos] X.env = (false, eval (.GeneratorExp elt [⟨.Tuple [.Name xa pa, .Name xb pb] kt pt, iter, [], 0⟩] scope gpos) X.env) :: starEach [] X.env := by rfl)
    (hpl : (backTo pos (starEach [] X.env)).any (·.1) = false := by rfl) :
    PE X (.Call (.Name "sum" p) [.GeneratorExp elt [⟨.Tuple [.Name xa pa, .Name xb pb] kt pt, iter, [], 0⟩] scope gpos] [] pos) (tSumG K P Pz f te) := by
  subst hK
  refine ⟨fun pins s σ H Q I h => ?_⟩
  refine wpAny_Call_Name_kw (ld_blt I hg hm hb ?_ (by decide) (by decide))
  refine PyProof.Rows.callWith_builtin1 ?_ he hpl
  rw [he]
  show wpAny _ _ (spliced ((false, eval (.GeneratorExp elt [⟨.Tuple [.Name xa pa, .Name xb pb] kt pt, iter, [], 0⟩] scope gpos) X.env) :: backTo pos (starEach [] X.env))) _ _ s
  refine Calls.spliced_cons (gen_prs (R := fun (ps : List (V × V)) (H1 : Hp) => ∀ H2, Tabb P H1 H2 → Q (.int ((ps.map fun (z : V × V) => f z.1).sum)) H2) hr TB hcode S hi hel hs I h fun ps H1 g s5 hR hG => ?_)
  refine Calls.spliced_nil ?_
  obtain ⟨fp, wr, G, F, St, W, hst, hfp, hgf, hT, hF, hinv⟩ := hG
  refine call_sum_walkAnyS (W.self 0 _ _ _ hst ⟨g, fp, wr, G, ps.length, F, St, (fun j => ((ps[j]?).map fun p => f p.1).getD 0), rfl, W, hst, hfp, fun i v hv => ?_, fun s' t' hm => ?_⟩)
  · obtain ⟨p, t, hp, rfl⟩ := hF i v hv
    refine ⟨t, ?_⟩
    show Value.int (f p.1) t = Value.int (((ps[i]?).map fun p => f p.1).getD 0) t
    rw [hp]; rfl
  · obtain ⟨H2, ht, J⟩ := hinv s' hm
    rw [preSum_sum ps f _ (Nat.le_refl _), List.take_length]
    exact ⟨.int _, H2, J, ⟨t', rfl⟩, hR H2 ht⟩
end
/-- len(a) of a text -/
def lenI : V → Int
  | .str x => x.length
  | _ => 0
theorem elt_len {prog : Program} {w : World} {mg : Str → Option Value} {scope : Scope} {x xb : Str} {p1 p2 p3 : Pos} (hk : scope.kind = .function) (hl : scope.names.lookup x = some .local) (hgl : scope.names.lookup ("len" : Str) = some .globalImplicit) (hm : mg "len" = none) (hd : (x == ("__debug__" : Str)) = false := by decide)  :
    EltI prog w mg scope x xb (.Call (.Name "len" p1) [.Name x p2] [] p3) (fun v => ∃ y : Str, v = .str y ∧ y.length ≤ sizeLine) lenI := by
  intro cenv A' E' v ua ub s₂ m₂ mb hs hg hb hn1 hn2 hmb hz rv hn hma hmb2
  obtain ⟨y, rfl, hy⟩ := hz
  obtain ⟨t, rfl⟩ := (show ∃ t, ua = Value.str y t from rv)
  have hk' : cenv.scope.kind = .function := by rw [hs]; exact hk
  refine wpAny_Call_Name_kw (Calls.Name_function_global hk' (show cenv.scope.names.lookup ("len" : Str) = some .globalImplicit by rw [hs]; exact hgl) (Calls.loadGlobal_builtin (by rw [hg]; exact hn1) hm (by rw [hb]; exact hn2) ((hmb "len" (by decide)).trans (show bootBuiltins "len" = some (.builtin "len") by decide +kernel)) ?_))
  refine PyProof.Rows.callWith_builtin1 ?_ (by rfl) (by rfl)
  show wpAny _ _ (spliced ((false, eval (.Name x p2) cenv) :: backTo p3 (starEach [] cenv))) _ _ s₂
  refine Calls.spliced_cons (wpAny_Name (wpAny_loadName_local hk' (show cenv.scope.names.lookup x = some .local by rw [hs]; exact hl) hn hma ?_) hd)
  refine Calls.spliced_nil ?_
  have hl63 := line63
  have hsz : sizeLine = 16777216 := sizeLine_eq
  exact len_str (by omega) ⟨⟨_, rfl⟩, keeps_tok _ _⟩
end Vf
end
section
set_option Elab.async false
set_option linter.all false
set_option maxRecDepth 100000
set_option maxHeartbeats 4000000
/-! != of any data with a text. -/
namespace PySem
open PySem.SeqAt PySem.MeetsSeq
theorem vf_dict_ne_declines_str (l : Addr) (x : Str) (t : Tok) (ob : Obj) (hc : ob.cls = .type "dict") :
    Meets (Builtin.«dict.__ne__» ⟨[.ref l, .str x t], []⟩) (fun _ R s => s.heap.get? l = some ob ∧ R (.ok (.ret .notImplemented)) s) :=
  .of_wp fun prog w A R s h => by obtain ⟨hp, g, d, tk, os⟩ := s; obtain ⟨hl, h⟩ := h; obtain ⟨oc, od, oda, osl⟩ := ob; dsimp only at hc; subst hc; have f1 := F.sub_str_dict; wp_walk using wpAny_loadPart' hl; exact ⟨_, rfl, h⟩
end PySem
namespace PySem
open PySem.SeqAt PySem.MeetsSeq
theorem vf_str_ne_declines_dict (l : Addr) (x : Str) (t : Tok) (ob : Obj) {es : Array DictEntry} {ep : Nat} (hc : ob.cls = .type "dict") (hd : ob.data = .dict es ep) :
    Meets (Builtin.«str.__ne__» ⟨[.str x t, .ref l], []⟩) (fun _ R s => s.heap.get? l = some ob ∧ R (.ok (.ret .notImplemented)) s) :=
  .of_wp fun prog w A R s h => by obtain ⟨hp, g, d, tk, os⟩ := s; obtain ⟨hl, h⟩ := h; obtain ⟨oc, od, oda, osl⟩ := ob; dsimp only at hc hd; subst hc hd; have f1 := F.sub_dict_str; wp_walk using wpAny_loadPart' hl, wpAny_load hl; exact ⟨_, rfl, h⟩
theorem vf_ne_dict_str {A : Around} {s : Shared} {l : Addr} {ob : Obj} (b : Str) (u : Tok) (hl : s.heap.get? l = some ob) {es : Array DictEntry} {ep : Nat} (hc : ob.cls = .type "dict") (hd : ob.data = .dict es ep) (hu : A.units < cLine) : RcNeAt A s (.ref l) (.str b u) true := fun prog w E Q h => by
  exact rc_ne_decline_or (k := false) ⟨_, hl, hc⟩ (typeIs_str s b u) (by decide) F.sub_str_dict F.slot_dict_ne F.slot_str_ne_refl
    (fun _ hq => call_meets F.slot_dict_ne ⟨_, hl, hc⟩ F.entry_dict_ne (F.args_dict_ne_2 _ _) (vf_dict_ne_declines_str l b u ob hc) ⟨hl, hq⟩)
    (fun _ hq => call_meets F.slot_str_ne_refl (typeIs_str s b u) F.entry_str_ne (F.args_str_ne_2 _ _) (vf_str_ne_declines_dict l b u ob hc hd) ⟨hl, hq⟩)
    (fun _ hq => wpAny_of_eq (rfl : isSame (.ref l) (.str b u) = pure false) hq) (.inr hu) h
end PySem
namespace Vf
theorem rcne {prog : PySem.Program} {w : PySem.World} {A : PySem.Around} {E : PySem.Value → PySem.Shared → Prop} {s : PySem.Shared} {Q : PySem.Value → PySem.Shared → Prop} {a b : PySem.Value} {k : Bool} (h : PySem.SeqAt.RcNeAt A s a b k) (hq : Q (.bool k) s) : PySem.wpAny (PySem.model prog w) A (PySem.compareOp .NotEq a b) Q E s := h prog w E Q hq
open PySem PySem.Spec PyProof.Rows L2 GxR GenW RZ
def eqS : PyData → Str → Bool
  | .str x, z => decide (V.str x = V.str z)
  | _, _ => false
section
variable {X : Cx}
/-- x != y, x any data, y a text -/
structure rNeS (K : PySem.W.Frag) (x y : V) (H : Hp) (Q : VK) : Prop where
  h : ∃ (d : PyData) (z : Str), Dd K H x d ∧ y = .str z ∧ Q (.bl (!eqS d z)) H
theorem op_neS {K : PySem.W.Frag} (hK : X.K = K) (hu : X.A.units + 64 < cLine) : OpR X (compareOp .NotEq) (rNeS K) := by
  subst hK
  intro pins s σ H x y v u Q I rx ry h
  obtain ⟨d, z, hd, rfl, q⟩ := h.h
  have huu : X.A.units < cLine := by omega
  cases hd with
  | non => exact op_ne pins s σ H _ _ v u Q I rx ry ⟨rfl, by have e : (!eqS (PyData.none) z) = (!decide (V.non = .str z)) := by simp [eqS]
                                                             rw [← e]; exact q⟩
  | bl b => exact op_ne pins s σ H _ _ v u Q I rx ry ⟨rfl, by have e : (!eqS (PyData.bool b) z) = (!decide (V.bl b = .str z)) := by simp [eqS]
                                                              rw [← e]; exact q⟩
  | int i => exact op_ne pins s σ H _ _ v u Q I rx ry ⟨rfl, by have e : (!eqS (PyData.int i) z) = (!decide (V.int i = .str z)) := by simp [eqS]
                                                               rw [← e]; exact q⟩
  | str w => exact op_ne pins s σ H _ _ v u Q I rx ry ⟨rfl, by have e : (!eqS (PyData.str w) z) = (!decide (V.str w = .str z)) := by simp [eqS]
                                                               rw [← e]; exact q⟩
  | @lst a xs ds h1 h2 =>
    cases rx
    obtain ⟨t, rfl⟩ := ry
    obtain ⟨its, rv, hl, _⟩ := I.list h1
    exact rcne (SeqAt.RcNeAt.list_str z t hl.isList huu) ⟨.bl true, H, I, rfl, by simpa [eqS] using q⟩
  | @tup a xs ds h1 h2 =>
    cases rx
    obtain ⟨t, rfl⟩ := ry
    obtain ⟨its, rv, hl, _⟩ := I.tuple h1
    exact rcne (SeqAt.RcNeAt.tuple_str z t hl huu) ⟨.bl true, H, I, rfl, by simpa [eqS] using q⟩
  | @dct a h1 =>
    cases rx
    obtain ⟨t, rfl⟩ := ry
    obtain ⟨_, hne, vs, kv, hdd⟩ := I.hok _ _ h1
    obtain ⟨o, es, ep, ho, hx, hda, _⟩ := hdd
    exact rcne (vf_ne_dict_str z t ho hx.1 hda huu) ⟨.bl true, H, I, rfl, by simpa [eqS] using q⟩
theorem rceq {prog : PySem.Program} {w : PySem.World} {A : PySem.Around} {E : PySem.Value → PySem.Shared → Prop} {s : PySem.Shared} {Q : PySem.Value → PySem.Shared → Prop} {a b : PySem.Value} {k : Bool} (h : PySem.SeqAt.RcAt A s a b k) (hq : Q (.bool k) s) : PySem.wpAny (PySem.model prog w) A (PySem.compareOp .Eq a b) Q E s := h prog w E Q hq
/-- a list against an empty list -/
structure rLstE (K : PySem.W.Frag) (x y : V) (H : Hp) (Q : Bool → Prop) : Prop where
  h : ∃ (a b : Addr) (xs : List V), x = .ref a ∧ y = .ref b ∧ SqL K H a xs ∧ SqL K H b [] ∧ Q (decide (xs = []))
theorem listE {pins : List (Addr × Obj)} {σ : L2.St} {H : Hp} {s : Shared} {a b : Addr} {xs : List V} (I : Inv X pins σ H s) (ha : SqL X.K H a xs) (hb : SqL X.K H b []) : ∃ its its2 : Array Value, s.heap.IsList a its ∧ s.heap.IsList b its2 ∧ its2.size = 0 ∧ its.size = xs.length := by
  obtain ⟨i1, r1, l1, _⟩ := I.list ha
  obtain ⟨i2, r2, l2, _⟩ := I.list hb
  cases r2
  exact ⟨_, _, l1.isList, l2.isList, rfl, by rw [List.size_toArray]; exact r1.length.symm⟩
theorem op_neE {K : PySem.W.Frag} (hK : X.K = K) (hu : X.A.units + 64 < cLine) : OpR X (compareOp .NotEq) (fun x y H Q => rLstE K x y H fun b => Q (.bl (!b)) H) := by
  subst hK
  intro pins s σ H x y v u Q I rx ry h
  obtain ⟨a, b, xs, rfl, rfl, ha, hb, q⟩ := h.h
  cases rx
  cases ry
  have huu : X.A.units < cLine := by omega
  obtain ⟨its, its2, l1, l2, z2, z1⟩ := listE I ha hb
  cases xs with
  | nil =>
    have e : its.size = its2.size := by rw [z1, z2]; rfl
    refine rcne (SeqAt.RcNeAt.lists (e := fun _ => true) l1 l2 e huu fun j h1 _ => absurd h1 (by rw [z1]; exact Nat.not_lt_zero _)) ?_
    have e0 : its.size = 0 := z1
    rw [e0]
    exact ⟨.bl false, H, I, rfl, q⟩
  | cons x xs =>
    have e : (its.size != its2.size) = true := by rw [z1, z2]; rfl
    exact rcne (SeqAt.RcNeAt.lists_lengths l1 l2 e huu) ⟨.bl true, H, I, rfl, q⟩
theorem op_eqE {K : PySem.W.Frag} (hK : X.K = K) (hu : X.A.units + 64 < cLine) : OpR X (compareOp .Eq) (fun x y H Q => rLstE K x y H fun b => Q (.bl b) H) := by
  subst hK
  intro pins s σ H x y v u Q I rx ry h
  obtain ⟨a, b, xs, rfl, rfl, ha, hb, q⟩ := h.h
  cases rx
  cases ry
  have huu : X.A.units < cLine := by omega
  obtain ⟨its, its2, l1, l2, z2, z1⟩ := listE I ha hb
  cases xs with
  | nil =>
    have e : its.size = its2.size := by rw [z1, z2]; rfl
    refine rceq (SeqAt.RcAt.lists (e := fun _ => true) l1 l2 e huu fun j h1 _ => absurd h1 (by rw [z1]; exact Nat.not_lt_zero _)) ?_
    have e0 : its.size = 0 := z1
    rw [e0]
    exact ⟨.bl true, H, I, rfl, q⟩
  | cons x xs =>
    have e : (its.size != its2.size) = true := by rw [z1, z2]; rfl
    exact rceq (SeqAt.RcAt.lists_lengths l1 l2 e huu) ⟨.bl false, H, I, rfl, q⟩
/-- the wider operators -/
structure rNeW (K : PySem.W.Frag) (x y : V) (H : Hp) (Q : VK) : Prop where
  h : rNeU K x y H Q ∨ rNeS K x y H Q ∨ (rLstE K x y H fun b => Q (.bl (!b)) H)
theorem u_neW {K : PySem.W.Frag} (hK : X.K = K) (hu : X.A.units + 64 < cLine) : OpR X (compareOp .NotEq) (rNeW K) :=
  fun pins s σ H x y v u Q I rx ry h => (OpR.or (u_ne hK hu) (OpR.or (op_neS hK hu) (op_neE hK hu))) pins s σ H x y v u Q I rx ry h.h
structure rEqW (K : PySem.W.Frag) (x y : V) (H : Hp) (Q : VK) : Prop where
  h : rEqU K x y H Q ∨ (rLstE K x y H fun b => Q (.bl b) H) ∨ ∃ (b : Bool) (i : Int), x = .bl b ∧ y = .int i ∧ Q (.bl ((if b then 1 else 0) == i)) H
theorem op_eqBI : OpR X (compareOp .Eq) (fun x y H Q => ∃ (b : Bool) (i : Int), x = .bl b ∧ y = .int i ∧ Q (.bl ((if b then 1 else 0) == i)) H) := by
  intro pins s σ H x y v u Q I rx ry h
  obtain ⟨b, i, rfl, rfl, q⟩ := h
  cases rx
  obtain ⟨t, rfl⟩ := ry
  exact PySem.EqBoolInt.eq_bool_int ⟨.bl _, H, I, rfl, q⟩
theorem u_eqW {K : PySem.W.Frag} (hK : X.K = K) (hu : X.A.units + 64 < cLine) : OpR X (compareOp .Eq) (rEqW K) :=
  fun pins s σ H x y v u Q I rx ry h => (OpR.or (u_eq hK hu) (OpR.or (op_eqE hK hu) op_eqBI)) pins s σ H x y v u Q I rx ry h.h
theorem call_strU : CallR X (.type "str") (fun xs H Q => (∃ i : Int, xs = [.int i] ∧ i.natAbs.log2 < 1920 ∧ Q (.str (toString i)) H) ∨ ∃ b : Bool, xs = [.bl b] ∧ Q (.str (if b then "True" else "False")) H) := by
  intro pins s σ H xs us Q I r h
  rcases h with h | ⟨b, rfl, q⟩
  · exact call_str_int pins s σ H xs us Q I r h
  · obtain ⟨u, rfl, rx⟩ := vals1 r
    cases rx
    exact PySem.P.str_of_bool ⟨.str _, H, I.tok _, ⟨_, rfl⟩, q⟩
end
section
variable {K : PySem.W.Frag} {H : Hp} {Q : VK}
theorem wn_flat {x y : V} (h : scal x y = true) (q : Q (.bl (!decide (x = y))) H) : rNeW K x y H Q := ⟨.inl (n_flat h q)⟩
theorem wn_str {x : V} {d : PyData} {z : Str} (h : Dd K H x d) (q : Q (.bl (!eqS d z)) H) : rNeW K x (.str z) H Q := ⟨.inr (.inl ⟨d, z, h, rfl, q⟩)⟩
theorem wn_nil {a b : Addr} {xs : List V} (h1 : SqL K H a xs) (h2 : SqL K H b []) (q : Q (.bl (!decide (xs = []))) H) : rNeW K (.ref a) (.ref b) H Q := ⟨.inr (.inr ⟨a, b, xs, rfl, rfl, h1, h2, q⟩)⟩
theorem we_flat {x y : V} (h : scal x y = true) (q : Q (.bl (decide (x = y))) H) : rEqW K x y H Q := ⟨.inl (e_flat h q)⟩
theorem we_data {x y : V} {d e : PyData} (h1 : Dp K H x d) (h2 : Dp K H y e) (h3 : SeqAt.shaped d = true) (h4 : SeqAt.shaped e = true) (q : Q (.bl (PyData.eqv d e)) H) : rEqW K x y H Q := ⟨.inl (e_data h1 h2 h3 h4 q)⟩
theorem wn_data {x y : V} {d e : PyData} (h1 : Dp K H x d) (h2 : Dp K H y e) (h3 : SeqAt.shaped d = true) (h4 : SeqAt.shaped e = true) (q : Q (.bl (!PyData.eqv d e)) H) : rNeW K x y H Q := ⟨.inl (n_data h1 h2 h3 h4 q)⟩
theorem we_nil {a b : Addr} {xs : List V} (h1 : SqL K H a xs) (h2 : SqL K H b []) (q : Q (.bl (decide (xs = []))) H) : rEqW K (.ref a) (.ref b) H Q := ⟨.inr (.inl ⟨a, b, xs, rfl, rfl, h1, h2, q⟩)⟩
theorem we_bi {b : Bool} {i : Int} (q : Q (.bl ((if b then 1 else 0) == i)) H) : rEqW K (.bl b) (.int i) H Q := ⟨.inr (.inr ⟨b, i, rfl, rfl, q⟩)⟩
end
end Vf
namespace Vf
open PySem PySem.Spec PyProof.Rows L2 GxR GenW RZ
def gs2B (scope : Scope) (xa xb : Str) : Bool := (match scope.kind with | .function => true | _ => false) && !scope.isCoroutine && scope.names.all (fun y => decide (y.2 ≠ .cell) && decide (y.2 ≠ .free)) && decide (scope.names.lookup (".0" : Str) = some NameKind.local) &&
  decide (scope.names.lookup xa = some .local) && decide (scope.names.lookup xb = some .local) && decide (xa ≠ xb)
theorem gs2_by {env : Env} {scope : Scope} {xa xb : Str} (h : gs2B scope xa xb = true) : GenS2 env scope xa xb := by
  unfold gs2B at h
  simp only [Bool.and_eq_true, List.all_eq_true, decide_eq_true_eq, Bool.not_eq_true'] at h
  obtain ⟨⟨⟨⟨⟨⟨h1, h2⟩, h3⟩, h4⟩, h5⟩, h6⟩, h7⟩ := h
  refine ⟨?_, h2, fun y hy => (h3 y hy).1, h4, h5, h6, h7, fun y hy e => absurd e (h3 y hy).2⟩
  split at h1
  · assumption
  · cases h1
end Vf
end
section
set_option Elab.async false
set_option linter.all false
set_option maxRecDepth 100000
set_option maxHeartbeats 4000000
/-! tuple * 0, tuple * 1, text * int. -/
namespace L2
open PySem PySem.Spec PyProof.Rows
theorem vf_tuple_mul1 (l : Addr) (items : Array Value) (n : Nat) (dd : Option Addr) (sl : Array (Option Value)) (x : Int) (u : Tok) (hx : x = 1) :
    Meets (Builtin.«tuple.__mul__» ⟨[.ref l, .int x u], []⟩) (fun _ R s => s.heap.get? l = some { cls := .type "tuple", dict := dd, data := .seq items n, slots := sl } ∧ R (.ok (.ret (Value.ref l))) s) :=
  .of_wp fun prog w A R s h => by
    subst hx
    obtain ⟨hp, g, d, tk, os⟩ := s
    obtain ⟨hl, h⟩ := h
    have f1 := AutoSeq1.idx_int
    wp_walk using wpAny_loadPart' hl
    exact ⟨_, rfl, h⟩
theorem vf_tuple_mul0 (l : Addr) (items : Array Value) (n : Nat) (dd : Option Addr) (sl : Array (Option Value)) (x : Int) (u : Tok) (hx : x = 0) (he : items.isEmpty = false) :
    Meets (Builtin.«tuple.__mul__» ⟨[.ref l, .int x u], []⟩) (fun _ R s => s.heap.get? l = some { cls := .type "tuple", dict := dd, data := .seq items n, slots := sl } ∧
      R (.ok (.ret (Value.ref s.heap.objs.size))) { s with heap := s.heap.push { cls := Value.type "tuple", data := Data.seq #[] }, toks := s.toks }) :=
  .of_wp fun prog w A R s h => by
    subst hx
    obtain ⟨hp, g, d, tk, os⟩ := s
    obtain ⟨hl, h⟩ := h
    have f1 := AutoSeq1.idx_int
    wp_walk using wpAny_loadPart' hl
    repeat (first
      | (refine wpAny_ite_false (decide_eq_false (by rw [he]; decide)) ?_; wp_walk using wpAny_loadPart' hl)
      | (refine wpAny_ite_true (decide_eq_true (by rw [he]; decide)) ?_; wp_walk using wpAny_loadPart' hl))
    exact ⟨_, rfl, h⟩
end L2
namespace L2
open PySem PySem.Spec PyProof.Rows
section
variable {X : Cx}
def rRepT1 (K : PySem.W.Frag) : R2 := fun x y H Q => ∃ l xs, x = .ref l ∧ y = .int 1 ∧ SqT K H l xs ∧ Q (.ref l) H
theorem op_repT1 : OpR X (binaryOp .Mult) (rRepT1 X.K) := by
  intro pins s σ H x y v u Q I rx ry h
  obtain ⟨l, xs, rfl, rfl, hT, q⟩ := h
  cases rx
  obtain ⟨t, rfl⟩ := ry
  obtain ⟨its, r, ⟨⟨cls, dd, data, sl⟩, ho, hc, n, hd⟩, hs⟩ := I.tuple hT
  simp only at hc hd
  subst hc hd
  exact wpAny_binaryOp_repeat_ref (T := "tuple") (U := "int") (by decide) ⟨_, ho, rfl⟩ (fun s' => typeIs_int s' 1 t) noFill_tuple_mul F.fills_int_mul F.slot_int_rmul repeat_tuple F.slot_int_index.lookup
    (call_meets F.slot_int_rmul (typeIs_int s 1 t) F.entry_int_rmul (F.args_int_rmul_2 _ _) (int_rmul_tuple 1 t l its.toArray n dd sl)
      ⟨ho, rfl, ⟨_, ho, rfl⟩, call_meets F.slot_tuple_mul ⟨_, ho, rfl⟩ F.entry_tuple_mul (F.args_tuple_mul_2 _ _) (vf_tuple_mul1 l its.toArray n dd sl 1 t rfl) ⟨ho, .ref _, H, I, rfl, q⟩⟩)
def rRepT0 (K : PySem.W.Frag) : R2 := fun x y H Q => ∃ l xs, x = .ref l ∧ y = .int 0 ∧ SqT K H l xs ∧ xs ≠ [] ∧ ∀ p, H p = none → Q (.ref p) (upd H p (.tup []))
theorem op_repT0 : OpR X (binaryOp .Mult) (rRepT0 X.K) := by
  intro pins s σ H x y v u Q I rx ry h
  obtain ⟨l, xs, rfl, rfl, hT, hne, q⟩ := h
  cases rx
  obtain ⟨t, rfl⟩ := ry
  obtain ⟨its, r, ⟨⟨cls, dd, data, sl⟩, ho, hc, n, hd⟩, hs⟩ := I.tuple hT
  simp only at hc hd
  subst hc hd
  have hle : its.length = xs.length := r.length.symm
  have hi : its.toArray.isEmpty = false := by
    cases its with
    | nil => exact absurd (List.eq_nil_of_length_eq_zero hle.symm) hne
    | cons a b => rfl
  refine wpAny_binaryOp_repeat_ref (T := "tuple") (U := "int") (by decide) ⟨_, ho, rfl⟩ (fun s' => typeIs_int s' 0 t) noFill_tuple_mul F.fills_int_mul F.slot_int_rmul repeat_tuple F.slot_int_index.lookup
    (call_meets F.slot_int_rmul (typeIs_int s 0 t) F.entry_int_rmul (F.args_int_rmul_2 _ _) (int_rmul_tuple 0 t l its.toArray n dd sl)
      ⟨ho, rfl, ⟨_, ho, rfl⟩, call_meets F.slot_tuple_mul ⟨_, ho, rfl⟩ F.entry_tuple_mul (F.args_tuple_mul_2 _ _) (vf_tuple_mul0 l its.toArray n dd sl 0 t rfl hi) ⟨ho, ?_⟩⟩)
  refine ⟨.ref s.heap.objs.size, _, I.laid (t' := s.toks) (o := .tup []) (fun b ob q => Heap.get?_push_of_some _ q) (Nat.le_refl _) ?_, rfl, q _ (I.hok.fresh (Nat.le_refl _))⟩
  exact ⟨Nat.zero_le _, [], .nil, IsTup.new _ _⟩
/-- a text times an int of at least two -/
def rMulS : R2 := fun x y H Q => ∃ (z : Str) (k : Int), x = .str z ∧ y = .int k ∧ 2 ≤ k ∧ k ≤ 1000 ∧ 0 < z.length ∧ z.length ≤ 1000 ∧ Q (.str ⟨(List.replicate k.toNat z.cps).foldl (· ++ ·) #[]⟩) H
theorem op_mulS : OpR X (binaryOp .Mult) rMulS := by
  intro pins s σ H x y v u Q I rx ry h
  obtain ⟨z, k, rfl, rfl, h1, h2, h3, h4, q⟩ := h
  obtain ⟨t, rfl⟩ := rx
  obtain ⟨t', rfl⟩ := ry
  have lz : z.length * k.toNat ≤ 1000000 := Nat.le_trans (Nat.mul_le_mul h4 (show k.toNat ≤ 1000 by omega)) (by decide)
  have c1 : (k == 1 || z.length == 0) = false := by
    rw [beq_eq_false_iff_ne.mpr (show k ≠ 1 by omega), beq_eq_false_iff_ne.mpr (show z.length ≠ 0 by omega)]
    rfl
  refine PySem.P.mul_str ?_ (fun _ _ => ?_) (fun _ _ => ?_) ?_
  · rw [decide_eq_false (by omega), decide_eq_false (by omega)]
    rfl
  · have a1 : (1000 : Int) ≤ (2 ^ 63 - 1) / k := by
      refine Int.le_ediv_of_mul_le (by omega) ?_
      omega
    omega
  · show decide (_ > sizeLine) = false
    rw [sizeLine_eq]
    exact decide_eq_false (by omega)
  · rw [if_neg (by omega), c1]
    refine ⟨?_, .str _, H, I.tok _, ⟨_, rfl⟩, q⟩
    have fl : ∀ (m : Nat) (a : Array Nat), (List.foldl (fun x1 x2 => x1 ++ x2) a (List.replicate m z.cps)).size = a.size + m * z.cps.size := fun m => by
      induction m with
      | zero => intro a; simp
      | succ m ih => intro a; rw [List.replicate_succ, List.foldl_cons, ih, Array.size_append, Nat.succ_mul]; omega
    show (List.foldl (fun x1 x2 => x1 ++ x2) #[] (List.replicate k.toNat z.cps)).size ≤ sizeLine
    rw [fl, sizeLine_eq, Nat.mul_comm]
    show 0 + z.length * k.toNat ≤ _
    omega
end
end L2
namespace Vf
open PySem PySem.Spec PyProof.Rows L2 GxR GenW RZ
section
variable {X : Cx}
structure rMuW (K : PySem.W.Frag) (x y : V) (H : Hp) (Q : VK) : Prop where
  h : rMu K x y H Q ∨ rRepT1 K x y H Q ∨ rRepT0 K x y H Q ∨ rMulS x y H Q
theorem u_mulW {K : PySem.W.Frag} (hK : X.K = K) : OpR X (binaryOp .Mult) (rMuW K) := by
  subst hK
  exact fun pins s σ H x y v u Q I rx ry h => (OpR.or (u_mul rfl) (OpR.or op_repT1 (OpR.or op_repT0 op_mulS))) pins s σ H x y v u Q I rx ry h.h
end
/-- any tuple that is not empty, any number of times -/
theorem m_tA {K : PySem.W.Frag} {H : Hp} {Q : VK} {l : Addr} {k : Nat} {xs : List V} (h1 : SqT K H l xs) (h2 : xs ≠ []) (h4 : k ≤ 1000) (h5 : xs.length ≤ 1000) (q1 : k = 1 → Q (.ref l) H)
    (q : k ≠ 1 → ∀ p, H p = none → Q (.ref p) (upd H p (.tup (List.replicate k xs).flatten))) : rMuW K (.ref l) (.int k) H Q := by
  refine ⟨?_⟩
  match k, h4, q1, q with
  | 0, _, _, q => exact .inr (.inr (.inl ⟨l, xs, rfl, rfl, h1, h2, q (by decide)⟩))
  | 1, _, q1, _ => exact .inr (.inl ⟨l, xs, rfl, rfl, h1, q1 rfl⟩)
  | k + 2, h4, _, q => exact .inl (m_tt h1 h2 (by omega) (by omega) h5 (q (by omega)))
theorem m_ss {K : PySem.W.Frag} {H : Hp} {Q : VK} {z : Str} {k : Int} (h1 : 2 ≤ k) (h2 : k ≤ 1000) (h3 : 0 < z.length) (h4 : z.length ≤ 1000) (q : Q (.str ⟨(List.replicate k.toNat z.cps).foldl (· ++ ·) #[]⟩) H) : rMuW K (.str z) (.int k) H Q :=
  ⟨.inr (.inr (.inr ⟨z, k, rfl, rfl, h1, h2, h3, h4, q⟩))⟩
end Vf
end
section
set_option Elab.async false
set_option linter.all false
set_option maxRecDepth 100000
set_option maxHeartbeats 4000000
/-! Own layer: list.extend with a tuple. -/
namespace PySem
theorem vf_extend_tuple (l : Addr) (items : Array Value) (n : Nat) (b : Addr) (ob : Obj) (items2 : Array Value) (n2 : Nat) (hc : ob.cls = .type "tuple") (hd : ob.data = .seq items2 n2) (hs0 : ¬(!items.isEmpty && Builtin.List.listTooLong (items.size + items2.size)) = true) (hs1 : items.size ≤ sizeLine) (hs2 : items.size + items2.size ≤ sizeLine + 1) :
    Meets (Builtin.«list.extend» ⟨[.ref l, .ref b], []⟩) (fun _ R s => s.heap.get? l = some { cls := .type "list", dict := none, data := .seq items n, slots := #[] } ∧ s.heap.get? b = some ob ∧ R (.ok (.ret Value.none)) { s with heap := s.heap.update l (Obj.mapSeq fun x => x ++ items2), toks := s.toks }) :=
  .of_wp fun prog w A R s h => by
    obtain ⟨hp, g, d, tk, os⟩ := s; obtain ⟨hl, hb, h⟩ := h; obtain ⟨oc, od, oda, osl⟩ := ob; dsimp only at hc hd; subst hc hd
    have f1 := F.sub_tuple_tuple; have f5 := F.sub_list_tuple
    have hz' : (items ++ items2).size ≤ sizeLine + 1 := by rw [Array.size_append]; exact hs2
    wp_walk using (wpAny_updateSeq hl rfl (hz := hs1) (_hz' := hz')), wpAny_loadPart' hl, wpAny_loadPart' hb; exact ⟨_, rfl, h⟩
end PySem
namespace Vf
open PySem PySem.Spec PyProof.Rows L2 GxR GenW RZ
section
variable {X : Cx}
def rExtT (K : PySem.W.Frag) : V → List V → Hp → VK → Prop := fun x vs H Q => ∃ l b xs zs, x = .ref l ∧ vs = [.ref b] ∧ H l = some (.lst xs) ∧ SqT K H b zs ∧ xs.length + zs.length ≤ sizeLine ∧ Q .non (upd H l (.lst (xs ++ zs)))
theorem mt_extT : MtR X "list.extend" (rExtT X.K) := by
  intro pins s σ H x vs v us Q I rx rv h
  obtain ⟨l, b, xs, zs, rfl, rfl, hH, hB, hz, q⟩ := h
  cases rx
  obtain ⟨u, rfl, ru⟩ := rv.one
  cases ru
  obtain ⟨z, its, n, r, hl, e⟩ := I.lstM hH
  obtain ⟨its2, r2, ⟨ob, ho, hc, n2, hd⟩, hz2⟩ := I.tuple hB
  have hl2 := r2.length
  have hsz : its.toArray.size + its2.toArray.size ≤ sizeLine := by rw [List.size_toArray, List.size_toArray]; omega
  have hlong : ¬ (!its.toArray.isEmpty && Builtin.List.listTooLong (its.toArray.size + its2.toArray.size)) = true := by
    rw [notLongL hsz, Bool.and_false]
    exact Bool.false_ne_true
  refine call_meets F.slot_list_extend ⟨_, e, rfl⟩ F.entry_list_extend (F.args_list_extend_2 _ _)
    (PySem.vf_extend_tuple l its.toArray n b ob its2.toArray n2 hc hd hlong (by rw [List.size_toArray]; omega) (by omega)) ⟨e, ho, ?_⟩
  refine ⟨.non, _, I.lset (its' := its ++ its2) hH e (by simp) (r.append r2) ?_, rfl, q⟩
  rw [List.length_append]
  omega
end
end Vf
end
section
set_option Elab.async false
set_option linter.all false
set_option maxRecDepth 100000
set_option maxHeartbeats 4000000
/-! Own layer: (a, b, c).index(x), the tuple written where it is asked. -/
namespace Vf
open PySem PySem.Spec PyProof.Rows L2 GxR GenW RZ
def rTupIx (K : PySem.W.Frag) : V → List V → Hp → VK → Prop := fun x xs H Q => ∃ p, ∃ ys : List Str, ∃ z j, x = .ref p ∧ xs = [.str z] ∧ SqT K H p (ys.map V.str) ∧ ys[j]? = some z ∧ (∀ m, m < j → ys[m]? ≠ some z) ∧ Q (.int (j : Nat)) H
section
variable {X : Cx} {K : PySem.W.Frag} {e : Expr} {es : List Expr} {t ta : TA} {x1 : Nat} {tp apos cpos : Pos}
theorem pe_tupIx (hK : X.K = K) (ht : PA X es t) (ha : PA X [e] ta)
    (hbase : attributeBase (.Tuple es x1 tp) "index" X.env (eval (.Tuple es x1 tp) X.env) = eval (.Tuple es x1 tp) X.env := by rfl)
    (hfew : ((backTo cpos (starEach [e] X.env)).all (fun x => !x.1) && (backToKw cpos (keywordEach [] X.env)).all (fun x => x.1.isSome)
      && decide ([e].length + ([] : List Keyword).length + (if ([] : List Keyword).isEmpty then 0 else 1) < 30)) = true := by rfl)
    (hline : (apos.endLine == cpos.line) = true := by rfl) (hs : starEach [e] X.env = (false, eval e X.env) :: starEach [] X.env := by rfl) (hplain : (backTo cpos (starEach [] X.env)).any (·.1) = false := by rfl) :
    PE X (.Call (.Attribute (.Tuple es x1 tp) "index" apos) [e] [] cpos) (fun σ H Q => tTup t σ H fun x H1 => ta σ H1 fun xs H2 => rTupIx K x xs H2 Q) := by
  subst hK
  refine ⟨fun pins s σ H Q I h => ?_⟩
  refine wpAny_Call_method_late hbase hfew hline rfl ?_
  refine wpAny_Tuple_spliced (thn (ht.run tp pins s σ H _ I h) fun us s1 ⟨xs, H1, I1, r, z, q⟩ => ⟨by rw [← r.length]; exact z, ?_⟩)
  have hf : H1 s1.heap.objs.size = none := I1.hok.fresh (Nat.le_refl _)
  have hp : ({ s1 with heap := s1.heap.push { cls := .type "tuple", data := .seq us.toArray } } : Shared).heap.get? s1.heap.objs.size = some { cls := .type "tuple", data := .seq us.toArray } := Heap.get?_push_size _ rfl
  have I2 : Inv X pins σ (upd H1 s1.heap.objs.size (.tup xs)) { s1 with heap := s1.heap.push { cls := .type "tuple", data := .seq us.toArray } } := I1.laid (t' := s1.toks) (fun b u e => Heap.get?_push_of_some _ e) (Nat.le_refl _) ⟨z, us, r, ⟨_, hp, rfl, _, rfl⟩⟩
  refine ⟨"tuple", "tuple.index", F.plainAttrs_tuple, F.slot_tuple_index, F.type_tuple_index, ⟨_, hp, rfl⟩, (fun a e => by cases e; exact ⟨_, hp, rfl⟩), ?_⟩
  have hA := ha.run cpos pins _ σ _ _ I2 (q _ hf)
  rw [hs] at hA ⊢
  refine Calls.callWith_builtin (by show (false || (backTo cpos (starEach [] X.env)).any (·.1)) = false; rw [hplain] <;> rfl) (Calls.evalArgs_plain ?_)
  exact thn hA fun us s2 ⟨vs, H2, I2, r2, q2⟩ => mt_tup_index pins s2 σ H2 (.ref s1.heap.objs.size) vs _ us Q I2 rfl r2 q2
end
end Vf
end
section
set_option Elab.async false
set_option linter.all false
set_option maxRecDepth 100000
set_option maxHeartbeats 4000000
namespace Vf
open PySem PySem.Spec PyProof.Rows L2 GxR GenW
def top (i : Nat) : Stmt := PySem.Challenge.pw_clipforms_k02_features_dropped.main.body.getD i (.Pass ⟨0, 0, 0, 0⟩)
abbrev s__law_churned : Stmt := top 27
abbrev n__law_churned : List Str := ["seed", "lap", "prime", "amount", "again"]
abbrev p__law_churned : List Str := ["seed", "lap"]
theorem sc__law_churned : FnScope n__law_churned p__law_churned (defScope s__law_churned) := ⟨rfl, rfl, rfl, by decide +kernel, rfl, by decide +kernel, by decide +kernel⟩

abbrev s__law_urn_of : Stmt := top 28
abbrev n__law_urn_of : List Str := ["script", "cell", "cells", "place"]
abbrev p__law_urn_of : List Str := ["script"]
theorem sc__law_urn_of : FnScope n__law_urn_of p__law_urn_of (defScope s__law_urn_of) := ⟨rfl, rfl, rfl, by decide +kernel, rfl, by decide +kernel, by decide +kernel⟩

abbrev s__law_upto : Stmt := top 29
abbrev n__law_upto : List Str := ["urn", "bound", "cells", "place", "amount", "found"]
abbrev p__law_upto : List Str := ["urn", "bound"]
theorem sc__law_upto : FnScope n__law_upto p__law_upto (defScope s__law_upto) := ⟨rfl, rfl, rfl, by decide +kernel, rfl, by decide +kernel, by decide +kernel⟩

abbrev s__law_choice : Stmt := top 30
abbrev n__law_choice : List Str := ["urn", "items"]
abbrev p__law_choice : List Str := ["urn", "items"]
theorem sc__law_choice : FnScope n__law_choice p__law_choice (defScope s__law_choice) := ⟨rfl, rfl, rfl, by decide +kernel, rfl, by decide +kernel, by decide +kernel⟩

abbrev s__law_equal : Stmt := top 31
abbrev n__law_equal : List Str := ["one", "other"]
abbrev p__law_equal : List Str := ["one", "other"]
theorem sc__law_equal : FnScope n__law_equal p__law_equal (defScope s__law_equal) := ⟨rfl, rfl, rfl, by decide +kernel, rfl, by decide +kernel, by decide +kernel⟩

/-- what the module's names are -/
structure TX (mg : Str → Option Value) : Prop where
  b_range : mg "range" = none
  b_abs : mg "abs" = none
  b_enumerate : mg "enumerate" = none
  b_len : mg "len" = none
  b_int : mg "int" = none
  b_repr : mg "repr" = none

local macro_rules | `(tactic| walk_at "rd") => `(tactic| repeat (first
  | refine ⟨_, rfl, ?_⟩ | refine a_ii ?_ | (refine m_ii (by first | exact .inl ⟨by decide, by decide⟩ | exact .inr ⟨by decide, by decide⟩) ?_) | refine md_ii (by decide) ?_ | refine sb_ii ?_ | refine l_ii ?_ | refine le_ii ?_ | refine ge_ii ?_ | refine gt_ii ?_ | refine e_flat rfl ?_ | refine n_flat rfl ?_))
/-! ### the urn -/
/-- an urn stands at u: what stays of it is that it holds a list of ints and three ints -/
def Urn (c : Addr) (H : Hp) (u : Addr) : Prop := ∃ (ns : List Int) (p a r : Int), H u = some (.lst [.ref c, .int p, .int a, .int r]) ∧ H c = some (.lst (ns.map V.int))
/-- grown, but for what stands at u -/
def GrU (u : Addr) (H H' : Hp) : Prop := ∀ b o, b ≠ u → H b = some o → (H' b = some o ∨ ∃ ps more, o = .tbl ps ∧ H' b = some (.tbl (ps ++ more)) ∧ (TriplesOk ps.toList → TriplesOk (ps ++ more).toList))
theorem GrU.refl (u : Addr) (H : Hp) : GrU u H H := fun _ _ _ h => .inl h
theorem Gr.u {u : Addr} {H H' : Hp} (g : Gr H H') : GrU u H H' := fun b o _ h => g b o h
theorem GrU.trans {u : Addr} {H H1 H2 : Hp} (a : GrU u H H1) (b : GrU u H1 H2) : GrU u H H2 := by
  intro c o hc h
  rcases a c o hc h with h1 | ⟨ps, m1, rfl, h1, t1⟩
  · exact b c o hc h1
  · rcases b c _ hc h1 with h2 | ⟨qs, m2, e, h2, t2⟩
    · exact .inr ⟨ps, m1, rfl, h2, t1⟩
    · cases e
      exact .inr ⟨ps, m1 ++ m2, rfl, by rw [← Array.append_assoc]; exact h2, fun z => by rw [← Array.append_assoc]; exact t2 (t1 z)⟩
theorem GrU.upd {u : Addr} {H H' : Hp} {o : HO} (g : GrU u H H') : GrU u H (upd H' u o) := fun b w hb h => by
  rw [upd_ne hb]
  exact g b w hb h
theorem GrU.keep {u : Addr} {H H' : Hp} (g : GrU u H H') {b : Addr} {o : HO} (hb : b ≠ u) (h : H b = some o) (n : ∀ ps, o ≠ .tbl ps) : H' b = some o := by
  rcases g b o hb h with h1 | ⟨ps, _, rfl, _⟩
  · exact h1
  · exact absurd rfl (n ps)
theorem urn_ne {H : Hp} {u c : Addr} {ns : List Int} {p a r : Int} (h1 : H u = some (.lst [.ref c, .int p, .int a, .int r])) (h2 : H c = some (.lst (ns.map V.int))) : c ≠ u := by
  rintro rfl
  rw [h1] at h2
  have e : ([.ref c, .int p, .int a, .int r] : List V) = ns.map V.int := by injection h2 with h2; injection h2
  cases ns with
  | nil => cases e
  | cons z zs =>
    rw [List.map_cons] at e
    injection e with e1 _
    cases e1
/-- what is no list of values stays so -/
theorem GrU.notu {u c : Addr} {H H' : Hp} (g : GrU u H H') (hu : Urn c H u) {b : Addr} {o : HO} (h : H b = some o) (n : ∀ xs, o ≠ .lst xs) (n2 : ∀ ps, o ≠ .tbl ps) : H' b = some o := by
  refine g.keep ?_ h n2
  rintro rfl
  obtain ⟨ns, p, a, r, h1, _⟩ := hu
  rw [h1] at h
  cases h
  exact n _ rfl

def spChurned : Sp := fun vs H Q _ => ∃ s l : Int, vs = [.int s, .int l] ∧ ∀ r : Int, Q (.int r) H
def spUrnOf (K : PySem.W.Frag) : Sp := fun vs H Q _ => ∃ (a : Addr) (ns : List Int), vs = [.ref a] ∧ SqL K H a (ns.map V.int) ∧ ns.length ≤ 63 ∧ ∀ u c H', H u = none → H c = none → Gr H H' → Urn c H' u → Q (.ref u) H'
def spUpto : Sp := fun vs H Q _ => ∃ (u c : Addr) (b : Int), vs = [.ref u, .int b] ∧ Urn c H u ∧ 0 < b ∧ b < 1073741824 ∧ ∀ r H', 0 ≤ r → r < b → GrU u H H' → Urn c H' u → Q (.int r) H'
def spChoice (K : PySem.W.Frag) : Sp := fun vs H Q _ => ∃ (u c it : Addr) (xs : List V), vs = [.ref u, .ref it] ∧ Urn c H u ∧ it ≠ u ∧ (SqL K H it xs ∨ SqT K H it xs) ∧ xs ≠ [] ∧ xs.length < 1073741824 ∧ ∀ x H', x ∈ xs → GrU u H H' → Urn c H' u → Q x H'
def spEqual (K : PySem.W.Frag) : Sp := fun vs H Q _ => ∃ (x y : V) (d e : PyData), vs = [x, y] ∧ Dd K H x d ∧ Dd K H y e ∧ (d.showable = true ∧ (d.hasDict = true → noLst d = true) ∧ d.depth < 60 ∧ d.shown.length ≤ sizeLine) ∧
  (e.showable = true ∧ (e.hasDict = true → noLst e = true) ∧ e.depth < 60 ∧ e.shown.length ≤ sizeLine) ∧ Q (.bl (decide (V.str d.shown = V.str e.shown))) H
section
variable {P : Program} {w : World} {K : PySem.W.Frag} {mg : Str → Option Value} {base : Heap}
abbrev FnP (K : PySem.W.Frag) (x : Str) (st : Stmt) (fd : FuncData) : Prop := FunD K x x (defArgs st) (defBody st) (defScope st) [] [] (He.fAd K (x, none)) fd
theorem ok_churned {fd : FuncData} (F : FnP K "_law_churned" s__law_churned fd) (T : TX mg) : FnOk P w K mg base CX0 1 (He.fAd K ("_law_churned", none)) fd p__law_churned spChurned := by
  refine okP F sc__law_churned (fun vs H Q E h => by obtain ⟨s, l, rfl, _⟩ := h; rfl) (fun A outer s H vs Q E hr h => ?_)
  obtain ⟨a, l, rfl, k⟩ := h
  refine ⟨_, (pss_cons (ps_set (i := 2) sc__law_churned.nd rfl (by first | exact Or.inl rfl | exact Or.inr rfl) pe_int)
      (pss_cons (ps_set (i := 3) sc__law_churned.nd rfl (by first | exact Or.inl rfl | exact Or.inr rfl) (pe_op u_mod (pe_op (u_add (K := K) rfl) (pe_op (u_add (K := K) rfl) (pe_op (u_mul (K := K) rfl) (pv 0) pe_int) (pe_op (u_mul (K := K) rfl) (pv 1) pe_int)) pe_int) (pv 2)))
      (pss_cons (ps_for PassesOwn.never rfl (pi_range1 rfl T.b_range (pa_cons pe_int pa_nil)) (pg_name (i := 4) sc__law_churned.nd rfl (by first | exact Or.inl rfl | exact Or.inr rfl))
      (pss_one (ps_set (i := 3) sc__law_churned.nd rfl (by first | exact Or.inl rfl | exact Or.inr rfl) (pe_op u_mod (pe_op (u_add (K := K) rfl) (pe_op (u_add (K := K) rfl) (pe_op (u_add (K := K) rfl) (pe_op (u_mul (K := K) rfl) (pv 3) (pv 3)) (pe_op (u_mul (K := K) rfl) pe_int (pv 3))) (pe_op (u_mul (K := K) rfl) pe_int (pv 4))) (pv 1)) (pv 2)))))
      (pss_one (ps_ret (pe_op (u_add (K := K) rfl) (pe_op (u_mul (K := K) rfl) (pv 3) (pv 2)) (pe_op u_mod (pe_op (u_add (K := K) rfl) (pe_op (u_mul (K := K) rfl) (pv 3) pe_int) (pv 1)) (pv 2)))))))), ?_⟩
  have hm : ∀ x : Int, x.fmod 2305843009213693921 < 2 ^ 64 ∧ -(2 ^ 64) < x.fmod 2305843009213693921 := fun x => by
    have h1 := Int.fmod_nonneg_of_pos x (b := 2305843009213693921) (by decide)
    have h2 := Int.fmod_lt_of_pos x (b := 2305843009213693921) (by decide)
    omega
  walk_at "rd"
  refine ⟨by decide, by decide, for_range (n := 4) (fun i σ H' => H' = H ∧ ∃ (x : Int) (o : Option V), σ = [some (.int a), some (.int l), some (.int 2305843009213693921), some (.int (x.fmod 2305843009213693921)), o]) ⟨rfl, _, _, rfl⟩ ?_ ?_⟩
  · rintro i σ H' hi ⟨rfl, x, o, rfl⟩
    have := hm x
    walk_at "rd"
    refine m_ii (.inl ⟨this.2, this.1⟩) ?_
    walk_at "rd"
    exact ⟨rfl, _, _, rfl⟩
  · rintro σ H' ⟨rfl, x, o, rfl⟩
    have := hm x
    walk_at "rd"
    exact k _

theorem urn_upd {H : Hp} {u c : Addr} {ns : List Int} {p a r p' a' r' : Int} (h1 : H u = some (.lst [.ref c, .int p, .int a, .int r])) (h2 : H c = some (.lst (ns.map V.int))) : Urn c (upd H u (.lst [.ref c, .int p', .int a', .int r'])) u :=
  ⟨ns, p', a', r', upd_same, by rw [upd_ne (urn_ne h1 h2)]; exact h2⟩
theorem dp_ints {H : Hp} : ∀ ns : List Int, DpAll K H (ns.map V.int) (ns.map PyData.int)
  | [] => .nil
  | z :: zs => .cons (.int z) (dp_ints zs)
theorem lay_ints : ∀ ns : List Int, PyData.canLayAll0 (ns.map PyData.int) = true
  | [] => rfl
  | z :: zs => by
    show (PyData.canLay0 (.int z) && PyData.canLayAll0 (zs.map PyData.int)) = true
    rw [lay_ints zs]; rfl
theorem dep_ints : ∀ ns : List Int, PyData.depthAll (ns.map PyData.int) ≤ 1
  | [] => Nat.zero_le _
  | z :: zs => by
    have := dep_ints zs
    simp only [List.map_cons, PyData.depthAll, PyData.depth]
    omega
theorem shp_ints (ns : List Int) : SeqAt.shaped (.list (ns.map PyData.int)) = true := by
  unfold SeqAt.shaped
  have h1 : PyData.canLay0 (.list (ns.map PyData.int)) = true := lay_ints ns
  have h2 := dep_ints ns
  have h3 : PyData.depth (.list (ns.map PyData.int)) ≤ 64 := by simp only [PyData.depth]; omega
  rw [h1, decide_eq_true h3]; rfl
theorem ok_upto {fd : FuncData} (F : FnP K "_law_upto" s__law_upto fd) (T : TX mg) (D__law_churned : Df P w K mg base "_law_churned" 1 p__law_churned spChurned) : FnOk P w K mg base CX0 2 (He.fAd K ("_law_upto", none)) fd p__law_upto spUpto := by
  refine okP F sc__law_upto (fun vs H Q E h => by obtain ⟨s, c, l, rfl, _⟩ := h; rfl) (fun A outer s H vs Q E hr h => ?_)
  obtain ⟨u, c, b, rfl, ⟨ns, p, a, r, h1, h2⟩, hb, hb2, k⟩ := h
  have hcu := urn_ne h1 h2
  refine ⟨_, (C8.pss_cut (ps_if (pt_cmpR u_lt (pe_ix (u_ix (K := K) rfl) (pv 0) pe_int (fun _ _ => rfl)) (pv 1) (nomark _))
      (pss_cons (ps_par (i := 2) (j := 3) (by rfl) sc__law_upto.nd rfl rfl (by decide) rfl rfl (pa_cons (pe_ix (u_ix (K := K) rfl) (pv 0) pe_int (fun _ _ => rfl)) (pa_cons (pe_ix (u_ix (K := K) rfl) (pv 0) pe_int (fun _ _ => rfl)) pa_nil)) (by rfl))
      (C8.pss_cut (ps_set (i := 4) sc__law_upto.nd rfl (by first | exact Or.inl rfl | exact Or.inr rfl) (pe_ifExp (pt_cmpR (u_ne (K := K) rfl hr.units) (pv 2) (pe_lst pa_nil) (nomark _)) (pe_ix (u_ix (K := K) rfl) (pv 2) (pe_op u_mod (pv 3) (pe_callB (k_len (K := K) rfl) rfl T.b_len (by decide +kernel) (pa_cons (pv 2) pa_nil))) (fun _ _ => rfl)) pe_int))
      (C8.pss_cut (ps_if (PW.pt (pw_or (pt_cmpR u_ge (pv 3) (pe_callB (k_len (K := K) rfl) rfl T.b_len (by decide +kernel) (pa_cons (pv 2) pa_nil)) (nomark _)) (pw_or1 (pt_cmpR u_lt (pv 4) (pe_op u_pow pe_int pe_int) (nomark _)))))
      (pss_one (ps_set (i := 4) sc__law_upto.nd rfl (by first | exact Or.inl rfl | exact Or.inr rfl) (pe_fn D__law_churned hr (by decide) rfl (pa_cons (pe_op u_mod (pe_callTy call_int1 rfl T.b_int (by decide +kernel) (pa_cons (pv 4) pa_nil)) pe_int) (pa_cons (pv 3) pa_nil)))))
      pss_nil)
      (pss_cons (ps_asg (pe_op (u_add (K := K) rfl) (pv 3) pe_int) (pg_sub (pv 0) pe_int set_list))
      (pss_cons (ps_asg (pv 4) (pg_sub (pv 0) pe_int set_list))
      (pss_one (ps_asg (pv 4) (pg_sub (pv 0) pe_int set_list))))))))
      pss_nil)
      (pss_cons (ps_set (i := 5) sc__law_upto.nd rfl (by first | exact Or.inl rfl | exact Or.inr rfl) (pe_op u_mod (pe_callTy call_int1 rfl T.b_int (by decide +kernel) (pa_cons (pe_ix (u_ix (K := K) rfl) (pv 0) pe_int (fun _ _ => rfl)) pa_nil)) (pv 1)))
      (pss_cons (ps_asg (pe_op u_fdiv (pe_ix (u_ix (K := K) rfl) (pv 0) pe_int (fun _ _ => rfl)) (pv 1)) (pg_sub (pv 0) pe_int set_list))
      (pss_cons (ps_asg (pe_op u_fdiv (pe_ix (u_ix (K := K) rfl) (pv 0) pe_int (fun _ _ => rfl)) (pv 1)) (pg_sub (pv 0) pe_int set_list))
      (pss_one (ps_ret (pv 5))))))), ?_⟩
  refine ⟨fun σ H' => ∃ x y z o3 o4, (∃ o2, σ = [some (.ref u), some (.int b), o2, o3, o4, none]) ∧ GrU u H H' ∧ H' u = some (.lst [.ref c, .int x, .int y, .int z]) ∧ H' c = some (.lst (ns.map V.int)), ?_, ?_⟩
  · refine ⟨_, rfl, x_l (SqL.of h1) rfl ⟨_, rfl, l_ii ⟨_, rfl, ite2 (fun _ => ?_) (fun _ => ?_)⟩⟩⟩
    · refine ⟨_, rfl, x_l (SqL.of h1) rfl ⟨_, rfl, x_l (SqL.of h1) rfl ⟨_, _, rfl, ?_⟩⟩⟩
      -- amount
      refine ⟨fun σ H' => ∃ v : Int, σ = [some (.ref u), some (.int b), some (.ref c), some (.int p), some (.int v), none] ∧ GrU u H H' ∧ H' u = some (.lst [.ref c, .int p, .int a, .int r]) ∧ H' c = some (.lst (ns.map V.int)), ?_, ?_⟩
      · refine ⟨_, rfl, Nat.zero_le _, fun l hl => ?_⟩
        have g1 : Gr H (upd H l (.lst [])) := Gr.new hl
        have e1 : upd H l (.lst []) u = some (.lst [.ref c, .int p, .int a, .int r]) := by rw [upd_ne (ne_of_none h1 hl)]; exact h1
        have e2 : upd H l (.lst []) c = some (.lst (ns.map V.int)) := by rw [upd_ne (ne_of_none h2 hl)]; exact h2
        refine n_data (Dp.lst (SqL.of e2) (dp_ints ns)) (Dp.lst (SqL.of upd_same) .nil) (shp_ints ns) rfl ⟨_, rfl, ?_⟩
        refine ite2 (fun hne => ?_) (fun _ => ⟨0, rfl, g1.u, e1, e2⟩)
        have hpos : 0 < ns.length := by
          cases ns with
          | nil => simp [PyData.eqv, PyData.eqvAll] at hne
          | cons z zs => exact Nat.succ_pos _
        refine ⟨_, rfl, _, rfl, _, rfl, _, _, rfl, .inl ⟨_, SqL.of e2, rfl⟩, ?_⟩
        refine md_ii (by rw [List.length_map]; omega) ?_
        have q0 := Int.fmod_nonneg_of_pos p (b := ((ns.map V.int).length : Int)) (by rw [List.length_map]; omega)
        have q1 := Int.fmod_lt_of_pos p (b := ((ns.map V.int).length : Int)) (by rw [List.length_map]; omega)
        obtain ⟨j, hj⟩ := Int.eq_ofNat_of_zero_le q0
        have hjl : j < ns.length := by
          rw [hj, List.length_map] at q1
          omega
        rw [hj]
        exact x_l (SqL.of e2) (atI_nat (v := .int ns[j]) (by rw [List.getElem?_map, List.getElem?_eq_getElem hjl]; rfl)) ⟨_, rfl, g1.u, e1, e2⟩
      · rintro σ H1 ⟨v, rfl, g1, e1, e2⟩
        -- the churned one
        refine ⟨fun σ H' => ∃ v : Int, σ = [some (.ref u), some (.int b), some (.ref c), some (.int p), some (.int v), none] ∧ H' = H1, ?_, ?_⟩
        · refine ⟨_, rfl, _, rfl, _, _, rfl, .inl ⟨_, SqL.of e2, rfl⟩, ge_ii ⟨_, rfl, ?_⟩⟩
          refine ite2 (fun _ => ?_) (fun _ => ?_)
          · refine ⟨_, rfl, .inl ⟨_, rfl, md_ii (by decide) ⟨_, rfl, _, _, rfl, fun z => ⟨z, rfl, rfl⟩⟩⟩⟩
          · refine ⟨_, rfl, pw_ii ⟨by decide, by decide, by decide⟩ (l_ii ⟨_, rfl, ite2 (fun _ => ?_) (fun _ => ⟨v, rfl, rfl⟩)⟩)⟩
            refine ⟨_, rfl, .inl ⟨_, rfl, md_ii (by decide) ⟨_, rfl, _, _, rfl, fun z => ⟨z, rfl, rfl⟩⟩⟩⟩
        · rintro σ H2 ⟨v, rfl, rfl⟩
          have hcu' := urn_ne e1 e2
          refine ⟨_, rfl, a_ii ⟨_, rfl, _, _, _, _, rfl, rfl, e1, rfl, ?_⟩⟩
          refine ⟨_, rfl, _, rfl, _, _, _, _, rfl, rfl, upd_same, rfl, ?_⟩
          rw [upd_upd]
          refine ⟨_, rfl, _, rfl, _, _, _, _, rfl, rfl, upd_same, rfl, ?_⟩
          rw [upd_upd]
          exact ⟨p + 1, v, v, some (.int p), some (.int v), ⟨some (.ref c), rfl⟩, g1.upd, upd_same, by rw [upd_ne hcu']; exact e2⟩
    · exact ⟨p, a, r, none, none, ⟨none, rfl⟩, GrU.refl _ _, h1, h2⟩
  · rintro σ H' ⟨x, y, z, o3, o4, ⟨o2, rfl⟩, g, e1, e2⟩
    refine ⟨_, rfl, x_l (SqL.of e1) rfl (.inl ⟨_, rfl, ⟨_, rfl, md_ii (by omega) ?_⟩⟩)⟩
    refine ⟨_, rfl, x_l (SqL.of e1) rfl ⟨_, rfl, f_ii ⟨by omega, by omega⟩ ⟨_, rfl, _, _, _, _, rfl, rfl, e1, rfl, ?_⟩⟩⟩
    refine ⟨_, rfl, x_l (SqL.of upd_same) rfl ⟨_, rfl, f_ii ⟨by omega, by omega⟩ ⟨_, rfl, _, _, _, _, rfl, rfl, upd_same, rfl, ?_⟩⟩⟩
    rw [upd_upd]
    refine ⟨_, rfl, k _ _ (Int.fmod_nonneg_of_pos _ hb) (Int.fmod_lt_of_pos _ hb) g.upd ?_⟩
    exact urn_upd e1 e2

theorem ok_choice {fd : FuncData} (F : FnP K "_law_choice" s__law_choice fd) (T : TX mg) (D__law_upto : Df P w K mg base "_law_upto" 2 p__law_upto spUpto) : FnOk P w K mg base CX0 3 (He.fAd K ("_law_choice", none)) fd p__law_choice (spChoice K) := by
  refine okP F sc__law_choice (fun vs H Q E h => by obtain ⟨s, c, l, xs, rfl, _⟩ := h; rfl) (fun A outer s H vs Q E hr h => ?_)
  obtain ⟨u, c, it, xs, rfl, hu, hit, hs, hne, hl, k⟩ := h
  have hpos : 0 < xs.length := List.length_pos_iff.mpr hne
  refine ⟨_, (pss_one (ps_ret (pe_ix (u_ix (K := K) rfl) (pv 1) (pe_fn D__law_upto hr (by decide) rfl (pa_cons (pv 0) (pa_cons (pe_callB (k_len (K := K) rfl) rfl T.b_len (by decide +kernel) (pa_cons (pv 1) pa_nil)) pa_nil))) (fun _ _ => rfl)))), ?_⟩
  have lv : LenV K (.ref it) H xs.length := by
    rcases hs with hs | hs
    · exact .inl ⟨_, hs, rfl⟩
    · exact .inr ⟨_, hs, rfl⟩
  refine ⟨_, rfl, _, rfl, _, rfl, _, _, rfl, lv, ?_⟩
  refine ⟨u, c, _, rfl, hu, by omega, by omega, fun r H' h0 h1 g hu' => ?_⟩
  obtain ⟨j, rfl⟩ := Int.eq_ofNat_of_zero_le h0
  have hj : j < xs.length := by omega
  have hs' : SqL K H' it xs ∨ SqT K H' it xs := by
    rcases hs with ((hs | ⟨o, hs⟩) | hs) | ((hs | ⟨o, hs⟩) | hs)
    · exact .inl (.inl (.inl (g.keep hit hs (fun _ z => by cases z))))
    · exact .inl (.inl (.inr ⟨o, g.keep hit hs (fun _ z => by cases z)⟩))
    · exact .inl (.inr hs)
    · exact .inr (.inl (.inl (g.keep hit hs (fun _ z => by cases z))))
    · exact .inr (.inl (.inr ⟨o, g.keep hit hs (fun _ z => by cases z)⟩))
    · exact .inr (.inr hs)
  have e := atI_nat (xs := xs) (List.getElem?_eq_getElem hj)
  rcases hs' with hs' | hs'
  · exact x_l hs' e (k _ _ (List.getElem_mem hj) g hu')
  · exact x_t hs' e (k _ _ (List.getElem_mem hj) g hu')
theorem ok_equal {fd : FuncData} (F : FnP K "_law_equal" s__law_equal fd) (T : TX mg) : FnG P w K mg base CX0 1 (He.fAd K ("_law_equal", none)) fd p__law_equal (spEqual K) := by
  refine okQ F sc__law_equal (fun vs H Q E h => by obtain ⟨x, y, d, e, rfl, _⟩ := h; rfl) (fun A outer s H vs Q E hgu hr h => ?_)
  obtain ⟨x, y, d, e, rfl, hx, hy, ⟨d1, d2, d3, d4⟩, ⟨e1, e2, e3, e4⟩, k⟩ := h
  refine ⟨_, (pss_one (ps_ret (pe_cmpR (u_eq (K := K) rfl hr.units) (pe_callB (call_reprD hgu hr.units) rfl T.b_repr (by decide +kernel) (pa_cons (pv 0) pa_nil)) (pe_callB (call_reprD hgu hr.units) rfl T.b_repr (by decide +kernel) (pa_cons (pv 1) pa_nil)) (nomark _)))), ?_⟩
  exact ⟨_, rfl, _, _, rfl, hx, d1, d2, d3, d4, _, rfl, _, _, rfl, hy, e1, e2, e3, e4, e_flat rfl k⟩
theorem cut18 {xs : List V} {i : Nat} {x : V} (h : (cutV xs (some 18) (some 60))[i]? = some x) : (cutV xs none (some 18)).length = 18 := by
  have q := (List.getElem?_eq_some_iff.mp h).1
  have e1 : HT.sIx xs.length 0 (some 18) = min 18 xs.length := HT.sIx_nat _ _ 18
  have e2 : HT.sIx xs.length xs.length (some 18) = min 18 xs.length := HT.sIx_nat _ _ 18
  have e3 : HT.sIx xs.length xs.length (some 60) = min 60 xs.length := HT.sIx_nat _ _ 60
  unfold cutV at q ⊢
  rw [List.length_take, List.length_drop] at q ⊢
  rw [e1, e3] at q
  rw [e2, HT.sIx_none]
  omega
theorem ixN_nat {n j : Nat} (h : j < n) : ixN n (j : Int) = some j := by
  unfold ixN
  rw [if_pos (by omega), if_pos (by omega), Int.toNat_natCast]
theorem cut_len (xs : List V) (lo hi : Option Int) : (cutV xs lo hi).length ≤ xs.length := cutV_length xs lo hi
theorem cut_int {ns : List Int} {lo hi : Option Int} {i : Nat} {x : V} (h : (cutV (ns.map V.int) lo hi)[i]? = some x) : ∃ z, x = .int z := by
  have hm := List.mem_of_getElem? h
  unfold cutV at hm
  have h1 := List.mem_of_mem_drop (List.mem_of_mem_take hm)
  obtain ⟨z, _, e⟩ := List.mem_map.mp h1
  exact ⟨z, e.symm⟩
theorem ok_urn_of {fd : FuncData} (F : FnP K "_law_urn_of" s__law_urn_of fd) (T : TX mg) : FnOk P w K mg base CX0 1 (He.fAd K ("_law_urn_of", none)) fd p__law_urn_of (spUrnOf K) := by
  refine okP F sc__law_urn_of (fun vs H Q E h => by obtain ⟨a, ns, rfl, _⟩ := h; rfl) (fun A outer s H vs Q E hr h => ?_)
  obtain ⟨a, ns, rfl, hS, hl, k⟩ := h
  refine ⟨_, (pss_cons (ps_setLc (i := 2) (own := [("cell", 1)]) (g := gName 1) (tt := tYes) rfl sc__law_urn_of.nd rfl rfl (sw_true rfl rfl rfl (by decide +kernel)) (k_list (K := K) rfl (pe_slice (u_sl (K := K) rfl) (pv 0) po_none (po_some pe_int))) (blkOk_by (own := [("cell", 1)]) (N := n__law_urn_of) (sc := defScope s__law_urn_of) (by decide +kernel)) (fun _ _ _ _ _ => (pg_name (i := 1) sc__law_urn_of.nd rfl (by first | exact Or.inl rfl | exact Or.inr rfl))) (fun _ _ _ _ _ => pts_nil) (fun _ _ _ _ _ => (pe_callB call_abs rfl T.b_abs (by decide +kernel) (pa_cons (pv 1) pa_nil))))
      (pss_cons (ps_for PassesOwn.never rfl (k_enum (K := K) rfl rfl T.b_enumerate (pa_cons (pe_slice (u_sl (K := K) rfl) (pv 0) (po_some pe_int) (po_some pe_int)) pa_nil)) (kg_tup 2 (K := K) rfl rfl (pgs_cons (pg_name (i := 3) sc__law_urn_of.nd rfl (by first | exact Or.inl rfl | exact Or.inr rfl)) (pgs_cons (pg_name (i := 1) sc__law_urn_of.nd rfl (by first | exact Or.inl rfl | exact Or.inr rfl)) pgs_nil)))
      (pss_one (ps_asg (pe_op (u_add (K := K) rfl) (pe_ix (u_ix (K := K) rfl) (pv 2) (pe_op u_mod (pv 3) pe_int) (fun _ _ => rfl)) (pe_callB call_abs rfl T.b_abs (by decide +kernel) (pa_cons (pv 1) pa_nil))) (pg_sub (pv 2) (pe_op u_mod (pv 3) pe_int) set_list))))
      (pss_one (ps_ret (pe_lst (pa_cons (pv 2) (pa_cons pe_int (pa_cons pe_int (pa_cons pe_int pa_nil))))))))), ?_⟩
  -- cells = [abs(cell) for cell in script[:18]]
  refine ⟨_, rfl, _, rfl, sl_l hS fun p hp => ⟨p, rfl, ⟨_, SqL.of upd_same⟩, fun D hD => ?_⟩⟩
  have g1 : Gr H (upd H p (.lst (cutV (ns.map V.int) none (some 18)))) := Gr.new hp
  have hpD : p ≠ D := ne_of_none (upd_same (H := H)) hD
  refine lc_list (K := K) (a := p) (xs := cutV (ns.map V.int) none (some 18)) (fun i H' => ∃ zs : List Int, zs.length = i ∧ H' = upd (upd H p (.lst (cutV (ns.map V.int) none (some 18)))) D (.lst (zs.map V.int))) ⟨[], rfl, rfl⟩ ?_ ?_ ?_
  · rintro i H' _ ⟨zs, _, rfl⟩
    exact SqL.of (by rw [upd_ne hpD]; exact upd_same)
  · rintro i x H' hx ⟨zs, hz, rfl⟩
    obtain ⟨z, rfl⟩ := cut_int hx
    refine ⟨rfl, ?_⟩
    refine ⟨_, rfl, z, rfl, zs.map V.int, upd_same, ?_, zs ++ [if z < 0 then -z else z], by rw [List.length_append, hz]; rfl, ?_⟩
    · have := (List.getElem?_eq_some_iff.mp hx).1
      have h2 := cut_len (ns.map V.int) none (some 18)
      rw [List.length_map] at h2 ⊢
      rw [sizeLine_eq]
      omega
    · rw [upd_upd, List.map_append]; rfl
  rintro H' ⟨zs, hz, rfl⟩
  have g2 : Gr H (upd (upd H p (.lst (cutV (ns.map V.int) none (some 18)))) D (.lst (zs.map V.int))) := g1.trans (Gr.new hD)
  have hD0 : H D = none := Gr.free g1 hD
  -- the others are folded in
  refine ⟨_, rfl, _, rfl, _, rfl, sl_l (g2.seqL hS) fun p2 hp2 => ⟨_, _, rfl, SqL.of upd_same, ?_⟩⟩
  have n2 : D ≠ p2 := ne_of_none upd_same hp2
  refine for_enum (xs := cutV (ns.map V.int) (some 18) (some 60)) (fun i σ H' => ∃ (ys : List Int) (o1 o3 : Option V), σ = [some (.ref a), o1, some (.ref D), o3] ∧ ys.length = zs.length ∧ Gr H H' ∧ H' D = some (.lst (ys.map V.int)) ∧ H' p2 = some (.lst (cutV (ns.map V.int) (some 18) (some 60))))
    ⟨zs, _, _, rfl, rfl, g2.trans (Gr.new hp2), by rw [upd_ne n2]; exact upd_same, upd_same⟩ ?_ ?_ ?_
  · rintro i σ H' _ ⟨ys, o1, o3, rfl, _, _, _, h⟩
    exact SqL.of h
  · rintro i x T σ H' hx ⟨ys, o1, o3, rfl, hy, g, h1, h2⟩ hT
    obtain ⟨z, rfl⟩ := cut_int hx
    have h18 : zs.length = 18 := hz.trans (cut18 hx)
    have e1 : upd H' T (.tup [.int (i : Nat), .int z]) D = some (.lst (ys.map V.int)) := by rw [upd_ne (ne_of_none h1 hT)]; exact h1
    have e2 : upd H' T (.tup [.int (i : Nat), .int z]) p2 = some (.lst (cutV (ns.map V.int) (some 18) (some 60))) := by rw [upd_ne (ne_of_none h2 hT)]; exact h2
    refine ⟨_, _, rfl, SqT.of upd_same, rfl, _, _, rfl, _, _, rfl, rfl, ?_⟩
    have q0 := Int.fmod_nonneg_of_pos (i : Int) (b := 18) (by decide)
    have q1 := Int.fmod_lt_of_pos (i : Int) (b := 18) (by decide)
    obtain ⟨j, hj⟩ := Int.eq_ofNat_of_zero_le q0
    have hj2 : j < ys.length := by omega
    refine ⟨_, rfl, _, rfl, md_ii (by decide) ?_⟩
    rw [hj]
    refine x_l (SqL.of e1) (atI_nat (v := .int ys[j]) (by rw [List.getElem?_map, List.getElem?_eq_getElem hj2]; rfl)) ⟨_, rfl, z, rfl, a_ii ?_⟩
    refine ⟨_, rfl, _, rfl, md_ii (by decide) ?_⟩
    rw [hj]
    refine ⟨_, _, _, j, rfl, rfl, e1, ?_, ys.set j (ys[j] + (if z < 0 then -z else z)), _, _, rfl, by rw [List.length_set]; exact hy, (g.trans (Gr.new hT)).upd' hD0, ?_, ?_⟩
    · rw [List.length_map]
      exact ixN_nat hj2
    · rw [upd_same, List.map_set]
    · rw [upd_ne (Ne.symm n2)]; exact e2
  · rintro σ H' ⟨ys, o1, o3, rfl, hy, g, h1, h2⟩
    refine ⟨_, rfl, by show 4 ≤ sizeLine; rw [sizeLine_eq]; decide, fun u hu => ?_⟩
    refine k u D _ (g.free hu) hD0 (g.trans (Gr.new hu)) ⟨ys, 0, 0, 0, upd_same, by rw [upd_ne (ne_of_none h1 hu)]; exact h1⟩
end
end Vf
end
section
set_option Elab.async false
set_option linter.all false
set_option maxRecDepth 100000
set_option maxHeartbeats 4000000
namespace Vf
open PySem PySem.Spec PyProof.Rows L2 GxR GenW RZ
def strV : List Str → List V := List.map V.str
/-- more of the module's names -/
abbrev tb (K : PySem.W.Frag) (x : Str) : Addr := He.tabOf K (He.codeOf K (x, none))
abbrev TBx (K : PySem.W.Frag) (mg : Str → Option Value) (base : Heap) (x : Str) : Prop := TabB base mg (He.codeOf K (x, none)) (tb K x)

/-! ### what they say -/
theorem str_at {ts : List Str} {i : Nat} {x : V} (hx : (strV ts)[i]? = some x) : ∃ t, ts[i]? = some t ∧ x = .str t := by
  unfold strV at hx
  rw [List.getElem?_map] at hx
  cases e : ts[i]? with
  | none => rw [e] at hx; cases hx
  | some t => rw [e] at hx; exact ⟨t, rfl, (Option.some.inj hx).symm⟩
theorem isStr_iff {d : PyData} : isaD "str" d = true ↔ ∃ x, d = .str x := by
  cases d <;> simp [isaD]
theorem ddA_len {K : PySem.W.Frag} {H : Hp} : ∀ {xs : List V} {ds : List PyData}, DdAll K H xs ds → xs.length = ds.length
  | _, [], h => by cases h; rfl
  | _, d :: ds, h => by
    cases h with
    | cons _ h2 => rw [List.length_cons, List.length_cons, ddA_len h2]
theorem ddA_at {K : PySem.W.Frag} {H : Hp} : ∀ {xs : List V} {ds : List PyData} {i : Nat} {x : V}, DdAll K H xs ds → xs[i]? = some x → ∃ d, ds[i]? = some d ∧ Dd K H x d
  | _, [], i, x, h, e => by cases h; simp at e
  | _, d :: ds, 0, x, h, e => by
    cases h with
    | cons h1 h2 => simp at e; subst e; exact ⟨d, rfl, h1⟩
  | _, d :: ds, i + 1, x, h, e => by
    cases h with
    | cons h1 h2 =>
      obtain ⟨d', e', q⟩ := ddA_at (i := i) h2 (by simpa using e)
      exact ⟨d', by simpa using e', q⟩
def strsOf : List PyData → Option (List Str)
  | [] => some []
  | .str x :: r => (strsOf r).map (x :: ·)
  | _ => none
theorem strsOf_len : ∀ {ds : List PyData} {ts : List Str}, strsOf ds = some ts → ts.length = ds.length
  | [], _, h => by cases h; rfl
  | .str x :: r, ts, h => by
    have h : (strsOf r).map (x :: ·) = some ts := h
    cases q : strsOf r with
    | none => rw [q] at h; cases h
    | some us =>
      rw [q] at h
      cases h
      rw [List.length_cons, List.length_cons, strsOf_len q]
  | .none :: _, _, h => by cases h
  | .bool _ :: _, _, h => by cases h
  | .int _ :: _, _, h => by cases h
  | .list _ :: _, _, h => by cases h
  | .tuple _ :: _, _, h => by cases h
  | .dict _ :: _, _, h => by cases h
theorem strsOf_mem : ∀ {ds : List PyData} {ts : List Str}, strsOf ds = some ts → ∀ t ∈ ts, PyData.str t ∈ ds
  | [], _, h, t, ht => by cases h; cases ht
  | .str x :: r, ts, h, t, ht => by
    have h : (strsOf r).map (x :: ·) = some ts := h
    cases q : strsOf r with
    | none => rw [q] at h; cases h
    | some us =>
      rw [q] at h
      cases h
      rcases List.mem_cons.mp ht with rfl | ht
      · exact List.mem_cons_self
      · exact List.mem_cons_of_mem _ (strsOf_mem q t ht)
  | .none :: _, _, h, _, _ => by cases h
  | .bool _ :: _, _, h, _, _ => by cases h
  | .int _ :: _, _, h, _, _ => by cases h
  | .list _ :: _, _, h, _, _ => by cases h
  | .tuple _ :: _, _, h, _, _ => by cases h
  | .dict _ :: _, _, h, _, _ => by cases h
theorem strs_all {K : PySem.W.Frag} {H : Hp} : ∀ {xs : List V} {ds : List PyData}, DdAll K H xs ds → (∀ d ∈ ds, isaD "str" d = true) → ∃ ts, xs = strV ts ∧ strsOf ds = some ts
  | _, [], h, _ => by cases h; exact ⟨[], rfl, rfl⟩
  | _, d :: ds, h, k => by
    cases h with
    | cons h1 h2 =>
      obtain ⟨ts, e1, e2⟩ := strs_all h2 fun z hz => k z (List.mem_cons_of_mem _ hz)
      obtain ⟨x, rfl⟩ := isStr_iff.mp (k d List.mem_cons_self)
      cases h1
      refine ⟨x :: ts, by rw [e1]; rfl, ?_⟩
      show (strsOf ds).map (x :: ·) = _
      rw [e2]; rfl
theorem strs_none : ∀ {ds : List PyData}, (∃ d ∈ ds, isaD "str" d = false) → strsOf ds = none
  | [], ⟨d, h, _⟩ => by simp at h
  | d :: ds, ⟨z, hz, e⟩ => by
    rcases List.mem_cons.mp hz with rfl | hz
    · cases z <;> first | rfl | simp [isaD] at e
    · have ih := strs_none ⟨z, hz, e⟩
      cases d <;> first | rfl | (show (strsOf ds).map _ = none; rw [ih]; rfl)
theorem k_bm {X : Cx} {K : PySem.W.Frag} {T name id : String} {r : V → List V → Hp → VK → Prop} {o e : Expr} {es : List Expr} {to : TE} {t : TA} {apos cpos : Pos} (hK : X.K = K) (pa : PlainAttrs T) (slot : Slot T name id) (hty : typeOf (.builtin id) = pure (.type "method_descriptor")) (hm : MtR X id r) (ho : PE X o to) (ha : PA X (e :: es) t)
    (hbase : attributeBase o name X.env (eval o X.env) = eval o X.env := by rfl)
    (hfew : ((backTo cpos (starEach (e :: es) X.env)).all (fun x => !x.1) && (backToKw cpos (keywordEach [] X.env)).all (fun x => x.1.isSome)
      && decide ((e :: es).length + ([] : List Keyword).length + (if ([] : List Keyword).isEmpty then 0 else 1) < 30)) = true := by rfl)
    (hline : (apos.endLine == cpos.line) = true := by rfl) (hs : starEach (e :: es) X.env = (false, eval e X.env) :: starEach es X.env := by rfl) (hplain : (backTo cpos (starEach es X.env)).any (·.1) = false := by rfl) :
    PE X (.Call (.Attribute o name apos) (e :: es) [] cpos) (tBM K T r to t) := by
  subst hK
  exact pe_bm pa slot hty hm ho ha hbase hfew hline hs hplain
@[elab_as_elim] theorem newH {C : Hp → Prop} {H : Hp} {p : Addr} {o : HO} (h : H p = none) (k : ∀ H1, Gr H H1 → H1 p = some o → C H1) : C (upd H p o) := k _ (Gr.new h) upd_same
theorem Gr.lst {H H' : Hp} (g : Gr H H') {p : Addr} {xs : List V} (h : H p = some (.lst xs)) : H' p = some (.lst xs) := g.keep h (fun _ z => by cases z)
theorem Gr.tup {H H' : Hp} (g : Gr H H') {p : Addr} {xs : List V} (h : H p = some (.tup xs)) : H' p = some (.tup xs) := g.keep h (fun _ z => by cases z)
theorem m_ll {K : PySem.W.Frag} {H : Hp} {Q : VK} {l : Addr} {k : Int} {xs : List V} (h1 : H l = some (.lst xs)) (h2 : -(2 ^ 63) ≤ k) (h3 : k < 2 ^ 63) (h4 : xs.length * k.toNat ≤ sizeLine) (q : ∀ p, H p = none → Q (.ref p) (upd H p (.lst (List.replicate k.toNat xs).flatten))) : rMu K (.ref l) (.int k) H Q := ⟨.inr (.inr (.inl ⟨_, _, _, rfl, rfl, h1, h2, h3, h4, q⟩))⟩
theorem dp_strs {K : PySem.W.Frag} {H : Hp} : ∀ ts : List Str, DpAll K H (strV ts) (ts.map PyData.str)
  | [] => .nil
  | z :: zs => .cons (.str z) (dp_strs zs)
theorem lay_strs : ∀ ts : List Str, (∀ t ∈ ts, PyData.canLay0 (.str t) = true) → PyData.canLayAll0 (ts.map PyData.str) = true
  | [], _ => rfl
  | z :: zs, h => by
    show (PyData.canLay0 (.str z) && PyData.canLayAll0 (zs.map PyData.str)) = true
    rw [lay_strs zs fun t ht => h t (List.mem_cons_of_mem _ ht), h z List.mem_cons_self]; rfl
theorem dep_strs : ∀ ts : List Str, PyData.depthAll (ts.map PyData.str) ≤ 1
  | [] => Nat.zero_le _
  | z :: zs => by
    have := dep_strs zs
    simp only [List.map_cons, PyData.depthAll, PyData.depth]
    omega
theorem shp_strsT {ts : List Str} (h : ∀ t ∈ ts, PyData.canLay0 (.str t) = true) : SeqAt.shaped (.tuple (ts.map PyData.str)) = true := by
  unfold SeqAt.shaped
  have h1 : PyData.canLay0 (.tuple (ts.map PyData.str)) = true := lay_strs ts h
  have h2 := dep_strs ts
  have h3 : PyData.depth (.tuple (ts.map PyData.str)) ≤ 64 := by simp only [PyData.depth]; omega
  rw [h1, decide_eq_true h3]; rfl
theorem k_truth {X : Cx} {K : PySem.W.Frag} {a : Expr} {ta : TE} (hK : X.K = K) (ha : PE X a ta) (he : ∀ whole, isTrue a X.env whole = (do let v ← whole; standAt a.pos; holding [v] (truthy v))) :
    PT X a (fun σ H Q => ta σ H fun x H' => ∃ k, TruV K x H' k ∧ Q k H') := by
  subst hK
  exact pt_truth ha he
theorem Urn.ne {c u : Addr} {H : Hp} (h : Urn c H u) : c ≠ u := by
  obtain ⟨ns, p, a, r, h1, h2⟩ := h
  exact urn_ne h1 h2
theorem Urn.gr {c u : Addr} {H H' : Hp} (h : Urn c H u) (g : Gr H H') : Urn c H' u := by
  obtain ⟨ns, p, a, r, h1, h2⟩ := h
  exact ⟨ns, p, a, r, g.keep h1 (fun _ z => by cases z), g.keep h2 (fun _ z => by cases z)⟩
theorem Urn.updD {c u D : Addr} {H : Hp} {o : HO} (h : Urn c H u) (n1 : D ≠ u) (n2 : D ≠ c) : Urn c (upd H D o) u := by
  obtain ⟨ns, p, a, r, h1, h2⟩ := h
  exact ⟨ns, p, a, r, by rw [upd_ne (Ne.symm n1)]; exact h1, by rw [upd_ne (Ne.symm n2)]; exact h2⟩
theorem Urn.ou {c u D : Addr} {H : Hp} (h : Urn c H u) (n : H D = none) : D ≠ u := by
  obtain ⟨ns, p, a, r, h1, h2⟩ := h
  exact Ne.symm (ne_of_none h1 n)
theorem Urn.oc {c u D : Addr} {H : Hp} (h : Urn c H u) (n : H D = none) : D ≠ c := by
  obtain ⟨ns, p, a, r, h1, h2⟩ := h
  exact Ne.symm (ne_of_none h2 n)
theorem gruD {u D : Addr} {H H' : Hp} {o : HO} (g : GrU u H H') (h : H D = none) : GrU u H (upd H' D o) := fun b w hb e => by
  rw [upd_ne (ne_of_none e h)]
  exact g b w hb e
theorem GrU.free {u b : Addr} {H H' : Hp} (g : GrU u H H') (hb : b ≠ u) (h : H' b = none) : H b = none := by
  cases q : H b with
  | none => rfl
  | some o =>
    rcases g b o hb q with h1 | ⟨_, _, _, h1, _⟩
    · rw [h] at h1; cases h1
    · rw [h] at h1; cases h1
theorem GrU.seqT {K : PySem.W.Frag} {u c a : Addr} {H H' : Hp} {xs : List V} (g : GrU u H H') (hu : Urn c H u) (h : SqT K H a xs) : SqT K H' a xs := by
  rcases h with (h | ⟨o, h⟩) | h
  · exact .inl (.inl (g.notu hu h (fun _ z => by cases z) (fun _ z => by cases z)))
  · exact .inl (.inr ⟨o, g.notu hu h (fun _ z => by cases z) (fun _ z => by cases z)⟩)
  · exact .inr h
def sS (x : Str) : List Str := x.cps.toList.map fun c => ⟨#[c]⟩
theorem sgn_strV (x : Str) : sgn x = strV (sS x) := by unfold strV sS; rw [List.map_map]; rfl
theorem bt {b : Bool} (h : ¬ (!b) = true) : b = true := by cases b <;> simp at h ⊢
theorem inV_str {x : Str} {l : List Str} : inV (.str x) (strV l) = true ↔ x ∈ l := by
  unfold inV strV
  rw [List.any_map, List.any_eq_true]
  constructor
  · rintro ⟨y, hy, e⟩
    have e : (y == x) = true := e
    have e := eq_of_beq e
    exact e ▸ hy
  · intro h
    exact ⟨x, h, show (x == x) = true from beq_self_eq_true x⟩
theorem strsOf_in : ∀ {ds : List PyData} {ts : List Str}, strsOf ds = some ts → ∀ t, PyData.str t ∈ ds → t ∈ ts
  | .str x :: r, ts, h, t, ht => by
    have h : (strsOf r).map (x :: ·) = some ts := h
    cases q : strsOf r with
    | none => rw [q] at h; cases h
    | some us =>
      rw [q] at h
      cases h
      rcases List.mem_cons.mp ht with e | ht
      · cases e; exact List.mem_cons_self
      · exact List.mem_cons_of_mem _ (strsOf_in q t ht)
  | .none :: _, _, h, _, _ => by cases h
  | .bool _ :: _, _, h, _, _ => by cases h
  | .int _ :: _, _, h, _, _ => by cases h
  | .list _ :: _, _, h, _, _ => by cases h
  | .tuple _ :: _, _, h, _, _ => by cases h
  | .dict _ :: _, _, h, _, _ => by cases h
theorem ddA_snoc {K : PySem.W.Frag} {H : Hp} : ∀ {ys : List V} {es : List PyData} {x : V} {d : PyData}, DdAll K H ys es → Dd K H x d → DdAll K H (ys ++ [x]) (es ++ [d])
  | _, [], _, _, h, k => by cases h; exact .cons k .nil
  | _, _ :: _, _, _, h, k => by
    cases h with
    | cons a b => exact .cons a (ddA_snoc b k)
theorem len0 {x : Str} : x.length = 0 ↔ x = "" := by
  constructor
  · intro h
    obtain ⟨⟨l⟩⟩ := x
    have h : l.length = 0 := h
    cases l with
    | nil => rfl
    | cons a b => cases h
  · rintro rfl
    rfl
theorem canLayAll_mem : ∀ {ds : List PyData}, PyData.canLayAll0 ds = true → ∀ d ∈ ds, PyData.canLay0 d = true
  | d :: ds, h, e, he => by
    have h : (PyData.canLay0 d && PyData.canLayAll0 ds) = true := h
    rw [Bool.and_eq_true] at h
    rcases List.mem_cons.mp he with rfl | he
    · exact h.1
    · exact canLayAll_mem h.2 e he
theorem canLayAll_of : ∀ {ds : List PyData}, (∀ d ∈ ds, PyData.canLay0 d = true) → PyData.canLayAll0 ds = true
  | [], _ => rfl
  | d :: ds, h => by
    show (PyData.canLay0 d && PyData.canLayAll0 ds) = true
    rw [h d List.mem_cons_self, canLayAll_of fun e he => h e (List.mem_cons_of_mem _ he)]; rfl
theorem depAll_mem : ∀ {ds : List PyData} {k : Nat}, PyData.depthAll ds ≤ k → ∀ d ∈ ds, d.depth ≤ k
  | d :: ds, k, h, e, he => by
    have h : max (PyData.depth d) (PyData.depthAll ds) ≤ k := h
    rcases List.mem_cons.mp he with rfl | he
    · omega
    · exact depAll_mem (by omega) e he
theorem depAll_of : ∀ {ds : List PyData} {k : Nat}, (∀ d ∈ ds, d.depth ≤ k) → PyData.depthAll ds ≤ k
  | [], k, _ => Nat.zero_le _
  | d :: ds, k, h => by
    show max (PyData.depth d) (PyData.depthAll ds) ≤ k
    have h1 := h d List.mem_cons_self
    have h2 := depAll_of fun e he => h e (List.mem_cons_of_mem _ he)
    omega
mutual
theorem dp_dd {K : PySem.W.Frag} {H : Hp} : ∀ (d : PyData) (v : V), Dd K H v d → PyData.canLay0 d = true → Dp K H v d
  | .none, _, h, _ => by cases h; exact .non
  | .bool _, _, h, _ => by cases h; exact .bl _
  | .int _, _, h, _ => by cases h; exact .int _
  | .str _, _, h, _ => by cases h; exact .str _
  | .list ds, _, h, c => by
    cases h with
    | lst a b => exact .lst a (dp_ddA ds _ b c)
  | .tuple ds, _, h, c => by
    cases h with
    | tup a b => exact .tup a (dp_ddA ds _ b c)
  | .dict _, _, h, c => by cases c
theorem dp_ddA {K : PySem.W.Frag} {H : Hp} : ∀ (ds : List PyData) (vs : List V), DdAll K H vs ds → PyData.canLayAll0 ds = true → DpAll K H vs ds
  | [], _, h, _ => by cases h; exact .nil
  | d :: ds, _, h, c => by
    have c : (PyData.canLay0 d && PyData.canLayAll0 ds) = true := c
    rw [Bool.and_eq_true] at c
    cases h with
    | cons a b => exact .cons (dp_dd d _ a c.1) (dp_ddA ds _ b c.2)
end
theorem shp_list {ds : List PyData} (h1 : PyData.canLayAll0 ds = true) (h2 : PyData.depthAll ds ≤ 60) : SeqAt.shaped (.list ds) = true := by
  unfold SeqAt.shaped
  have h3 : PyData.depth (.list ds) ≤ 64 := by simp only [PyData.depth]; omega
  have h1 : PyData.canLay0 (.list ds) = true := h1
  rw [h1, decide_eq_true h3]; rfl
theorem eqv_nil (ds : List PyData) : PyData.eqv (.list ds) (.list []) = ds.isEmpty := by
  cases ds <;> simp [PyData.eqv, PyData.eqvAll]
theorem showAll_of : ∀ {ds : List PyData}, (∀ d ∈ ds, d.showable = true) → PyData.showableAll ds = true
  | [], _ => rfl
  | d :: ds, h => by
    show (PyData.showable d && PyData.showableAll ds) = true
    rw [h d List.mem_cons_self, showAll_of fun e he => h e (List.mem_cons_of_mem _ he)]; rfl
theorem shownAll_sum {k : Nat} : ∀ {ds : List PyData}, (∀ d ∈ ds, d.shown.length ≤ k) → ((PyData.shownAll ds).map fun x => x.length).sum ≤ ds.length * k ∧ (PyData.shownAll ds).length = ds.length
  | [], _ => ⟨Nat.zero_le _, rfl⟩
  | d :: ds, h => by
    obtain ⟨h1, h2⟩ := shownAll_sum fun e he => h e (List.mem_cons_of_mem _ he)
    have h3 := h d List.mem_cons_self
    refine ⟨?_, by show (PyData.shownAll ds).length + 1 = _; rw [h2]; rfl⟩
    show d.shown.length + ((PyData.shownAll ds).map fun x => x.length).sum ≤ (ds.length + 1) * k
    rw [Nat.add_mul]
    omega
def Wo (S : List Addr) (H : Hp) : Hp := fun b => if b ∈ S then none else H b
theorem wo_gr (S : List Addr) (H : Hp) : Gr (Wo S H) H := fun b o e => by
  unfold Wo at e
  split at e
  · cases e
  · exact .inl e
theorem wo_some {S : List Addr} {H : Hp} {b : Addr} {o : HO} (h : b ∉ S) (e : H b = some o) : Wo S H b = some o := by
  unfold Wo
  rw [if_neg h]
  exact e
theorem Gr.wo {H H' : Hp} (g : Gr H H') (S : List Addr) : Gr (Wo S H) (Wo S H') := fun b o e => by
  unfold Wo at e ⊢
  split at e
  · cases e
  · rename_i h
    rw [if_neg h]
    exact g b o e
theorem GrU.wo {u : Addr} {H H' : Hp} (g : GrU u H H') {S : List Addr} (hu : u ∈ S) : Gr (Wo S H) (Wo S H') := fun b o e => by
  unfold Wo at e ⊢
  split at e
  · cases e
  · rename_i h
    rw [if_neg h]
    exact g b o (fun z => h (z ▸ hu)) e
theorem wo_upd {S : List Addr} {H : Hp} {D : Addr} {o : HO} (h : D ∈ S) : Wo S (upd H D o) = Wo S H := by
  funext b
  unfold Wo
  split
  · rfl
  · rename_i hb
    exact upd_ne fun z => hb (z ▸ h)
theorem wo_more {u D : Addr} {H : Hp} {o : HO} (h : H D = none) : Gr (Wo [u] H) (Wo [u, D] (upd H D o)) := fun b w e => by
  unfold Wo at e ⊢
  split at e
  · cases e
  · rename_i hb
    have n : b ≠ D := ne_of_none e h
    rw [if_neg (by
      intro z
      rcases List.mem_cons.mp z with z | z
      · exact hb (by rw [z]; exact List.mem_cons_self)
      · exact n (List.mem_singleton.mp z)), upd_ne n]
    exact .inl e
theorem a_ttW {K : PySem.W.Frag} {S : List Addr} {H : Hp} {Q : VK} {a b : Addr} {xs ys : List V} (h1 : SqT K (Wo S H) a xs) (h2 : SqT K (Wo S H) b ys) (h : xs.length + ys.length ≤ sizeLine) (hs : ∀ p, H p = none → p ∉ S)
    (q : ∀ p H', Gr H H' → SqT K (Wo S H') p (xs ++ ys) → Q (.ref p) H') : rAdd K (.ref a) (.ref b) H Q := by
  refine a_tt ((wo_gr S H).seqT h1) ((wo_gr S H).seqT h2) h (fun z => ?_) (fun _ z => ?_) (fun _ _ p hp => ?_)
  · subst z
    exact q b H (Gr.refl H) h2
  · subst z
    rw [List.append_nil] at q
    exact q a H (Gr.refl H) h1
  · exact newH hp fun H1 g1 s1 => q p H1 g1 (SqT.of (wo_some (hs p hp) s1))
theorem dd_strs {K : PySem.W.Frag} {H : Hp} : ∀ ts : List Str, DdAll K H (strV ts) (ts.map PyData.str)
  | [] => .nil
  | z :: zs => .cons (.str z) (dd_strs zs)
theorem ddA_app {K : PySem.W.Frag} {H : Hp} : ∀ {xs ys : List V} {ds es : List PyData}, DdAll K H xs ds → DdAll K H ys es → DdAll K H (xs ++ ys) (ds ++ es)
  | _, _, [], _, h, k => by cases h; exact k
  | _, _, _ :: _, _, h, k => by
    cases h with
    | cons a b => exact .cons a (ddA_app b k)
theorem nin2 {p u D : Addr} (h : p ∉ [u]) (n : p ≠ D) : p ∉ [u, D] := fun z => by
  rcases List.mem_cons.mp z with z | z
  · exact h (by rw [z]; exact List.mem_cons_self)
  · exact n (List.mem_singleton.mp z)
theorem wo_sub {S S' : List Addr} (h : ∀ b, b ∈ S' → b ∈ S) (H : Hp) : Gr (Wo S H) (Wo S' H) := fun b o e => by
  unfold Wo at e ⊢
  split at e
  · cases e
  · rename_i hb
    rw [if_neg fun z => hb (h b z)]
    exact .inl e
theorem GrU.tabG {u c P : Addr} {H H' : Hp} (g : GrU u H H') (hu : Urn c H u) (h : TabG H P) : TabG H' P := by
  obtain ⟨ps, h1, t1⟩ := h
  have n : P ≠ u := by
    rintro rfl
    obtain ⟨_, _, _, _, h2, _⟩ := hu
    rw [h1] at h2
    cases h2
  rcases g P _ n h1 with q | ⟨qs, more, e, q, t⟩
  · exact ⟨ps, q, t1⟩
  · cases e
    exact ⟨_, q, t t1⟩
theorem tabG_upd {H : Hp} {P D : Addr} {xs : List V} {o : HO} (h : TabG H P) (hD : H D = some (.lst xs)) : TabG (upd H D o) P := by
  obtain ⟨ps, h1, t1⟩ := h
  have n : P ≠ D := by
    rintro rfl
    rw [h1] at hD
    cases hD
  exact ⟨ps, by rw [upd_ne n]; exact h1, t1⟩
theorem ddA_mem {K : PySem.W.Frag} {H : Hp} {xs : List V} {ds : List PyData} {x : V} (h : DdAll K H xs ds) (hx : x ∈ xs) : ∃ d ∈ ds, Dd K H x d := by
  obtain ⟨i, hi⟩ := List.getElem?_of_mem hx
  obtain ⟨d, e, q⟩ := ddA_at h hi
  exact ⟨d, List.mem_of_getElem? e, q⟩
theorem cut_strs (fm : List Str) (lo hi : Option Int) : ∃ ts, cutV (strV fm) lo hi = strV ts ∧ (∀ t ∈ ts, t ∈ fm) ∧ ts.length ≤ fm.length := by
  unfold cutV strV
  rw [← List.map_drop, ← List.map_take]
  refine ⟨_, rfl, fun t ht => List.mem_of_mem_drop (List.mem_of_mem_take ht), ?_⟩
  rw [List.length_take, List.length_drop]
  omega
theorem sl_tW {K : PySem.W.Frag} {S : List Addr} {H : Hp} {Q : VK} {a : Addr} {fm : List Str} {lo hi : Option Int} (h1 : SqT K (Wo S H) a (strV fm)) (hs : ∀ p, H p = none → p ∉ S)
    (q : ∀ p H' ts, Gr H H' → SqT K (Wo S H') p (strV ts) → (∀ t ∈ ts, t ∈ fm) → ts.length ≤ fm.length → Q (.ref p) H') : rSlU K (.ref a) lo hi H Q := by
  refine sl_t ((wo_gr S H).seqT h1) (fun _ => q a H fm (Gr.refl H) h1 (fun _ z => z) (Nat.le_refl _)) (fun _ p hp => ?_)
  obtain ⟨ts, e, m, l⟩ := cut_strs fm lo hi
  rw [e]
  exact newH hp fun H1 g1 s1 => q p H1 ts g1 (SqT.of (wo_some (hs p hp) s1)) m l
end Vf
end
section
set_option Elab.async false
set_option linter.all false
set_option maxRecDepth 100000
set_option maxHeartbeats 4000000
set_option pp.maxSteps 3000
namespace Vf
open PySem PySem.Spec PyProof.Rows L2 GxR GenW RZ
abbrev s_is_word : Stmt := top 11
abbrev n_is_word : List Str := ["thing", "character"]
abbrev p_is_word : List Str := ["thing"]
theorem sc_is_word : FnScope n_is_word p_is_word (defScope s_is_word) := ⟨rfl, rfl, rfl, by decide +kernel, rfl, by decide +kernel, by decide +kernel⟩

abbrev s_is_integer : Stmt := top 12
abbrev n_is_integer : List Str := ["thing"]
abbrev p_is_integer : List Str := ["thing"]
theorem sc_is_integer : FnScope n_is_integer p_is_integer (defScope s_is_integer) := ⟨rfl, rfl, rfl, by decide +kernel, rfl, by decide +kernel, by decide +kernel⟩

abbrev s_is_marks : Stmt := top 17
abbrev n_is_marks : List Str := ["thing", "link", "bold", "slant"]
abbrev p_is_marks : List Str := ["thing"]
theorem sc_is_marks : FnScope n_is_marks p_is_marks (defScope s_is_marks) := ⟨rfl, rfl, rfl, by decide +kernel, rfl, by decide +kernel, by decide +kernel⟩

abbrev s_is_characters : Stmt := top 16
abbrev n_is_characters : List Str := ["thing", "character"]
abbrev p_is_characters : List Str := ["thing"]
theorem sc_is_characters : FnScope n_is_characters p_is_characters (defScope s_is_characters) := ⟨rfl, rfl, rfl, by decide +kernel, rfl, by decide +kernel, by decide +kernel⟩

abbrev s_is_piece : Stmt := top 15
abbrev n_is_piece : List Str := ["thing", "text", "marks"]
abbrev p_is_piece : List Str := ["thing"]
theorem sc_is_piece : FnScope n_is_piece p_is_piece (defScope s_is_piece) := ⟨rfl, rfl, rfl, by decide +kernel, rfl, by decide +kernel, by decide +kernel⟩

abbrev s_is_line : Stmt := top 13
abbrev n_is_line : List Str := ["thing", "depth", "cells", "most", "cell"]
abbrev p_is_line : List Str := ["thing"]
theorem sc_is_line : FnScope n_is_line p_is_line (defScope s_is_line) := ⟨rfl, rfl, rfl, by decide +kernel, rfl, by decide +kernel, by decide +kernel⟩

abbrev s_is_content : Stmt := top 10
abbrev n_is_content : List Str := ["thing", "line"]
abbrev p_is_content : List Str := ["thing"]
theorem sc_is_content : FnScope n_is_content p_is_content (defScope s_is_content) := ⟨rfl, rfl, rfl, by decide +kernel, rfl, by decide +kernel, by decide +kernel⟩

/-- more of the module's names -/
structure TC (K : PySem.W.Frag) (mg : Str → Option Value) : Prop extends TX mg where
  b_isinstance : mg "isinstance" = none
  b_all : mg "all" = none
  b_sum : mg "sum" = none
  b_bool : mg "bool" = none
  b_str : mg "str" = none
  b_tuple : mg "tuple" = none
  b_list : mg "list" = none
  b_zip : mg "zip" = none
  c_MOST_WORD_CHARACTERS : ∃ u, mg "MOST_WORD_CHARACTERS" = some u ∧ RelV (.int 12) u
  c_MOST_LINES : ∃ u, mg "MOST_LINES" = some u ∧ RelV (.int 200) u
  c_MOST_DEPTH : ∃ u, mg "MOST_DEPTH" = some u ∧ RelV (.int 6) u
  c_MOST_CELLS : ∃ u, mg "MOST_CELLS" = some u ∧ RelV (.int 12) u
  c_MOST_CELL_CHARACTERS : ∃ u, mg "MOST_CELL_CHARACTERS" = some u ∧ RelV (.int 40) u
  c_MOST_ONLY_CELL_CHARACTERS : ∃ u, mg "MOST_ONLY_CELL_CHARACTERS" = some u ∧ RelV (.int 491) u
  c_WORD_CHARACTERS : ∃ u, mg "WORD_CHARACTERS" = some u ∧ RelV (.str "abcdefghijklmnopqrstuvwxyz0123456789") u
def words : List Nat := ("abcdefghijklmnopqrstuvwxyz0123456789" : Str).cps.toList
def isWs (x : Str) : Bool := decide (1 ≤ x.length ∧ x.length ≤ 12) && x.cps.toList.all fun c => decide (c ∈ words)
def isWd : PyData → Bool
  | .str x => isWs x
  | _ => false
def isIn : PyData → Bool
  | .int _ => true
  | _ => false
def spWord (K : PySem.W.Frag) : Sp := fun vs H Q _ => ∃ (v : V) (d : PyData), vs = [v] ∧ Dd K H v d ∧ (∀ x, d = .str x → x.length ≤ sizeLine) ∧ TabG H (tb K "is_word") ∧ ∀ H', Gr H H' → Q (.bl (isWd d)) H'
def spInt (K : PySem.W.Frag) : Sp := fun vs H Q _ => ∃ (v : V) (d : PyData), vs = [v] ∧ Dd K H v d ∧ Q (.bl (isIn d)) H
def spLink (K : PySem.W.Frag) : Sp := fun vs H Q _ => ∃ (v : V) (d : PyData), vs = [v] ∧ Dd K H v d ∧ (∀ x, d = .str x → x.length ≤ sizeLine ∧ PyData.canLay0 (.str x) = true) ∧ ∀ H', Gr H H' → Q (.bl (isWd d)) H'
section
variable {P : Program} {w : World} {K : PySem.W.Frag} {mg : Str → Option Value} {base : Heap}
theorem ok_integer {fd : FuncData} (F : FnP K "is_integer" s_is_integer fd) (T : TC K mg) : FnOk P w K mg base CX0 1 (He.fAd K ("is_integer", none)) fd p_is_integer (spInt K) := by
  refine okP F sc_is_integer (fun vs H Q E h => by obtain ⟨v, d, rfl, _⟩ := h; rfl) (fun A outer s H vs Q E hr h => ?_)
  obtain ⟨v, d, rfl, hd, k⟩ := h
  refine ⟨_, (pss_one (ps_ret (pe_and (pe_callB (call_isD (K := K) rfl) rfl T.b_isinstance (by decide +kernel) (pa_cons (pv 0) (pa_cons (pe_ty (T := "int") rfl T.b_int (by decide +kernel)) pa_nil))) (pe_one (pe_not (pe_callB (call_isD (K := K) rfl) rfl T.b_isinstance (by decide +kernel) (pa_cons (pv 0) (pa_cons (pe_ty (T := "bool") rfl T.b_bool (by decide +kernel)) pa_nil)))))))), ?_⟩
  refine ⟨_, rfl, v, d, "int", rfl, hd, .inr (.inr (.inl rfl)), _, rfl, ite2 (fun h1 => ?_) (fun h1 => ?_)⟩
  · refine ⟨_, rfl, v, d, "bool", rfl, hd, .inr (.inr (.inr (.inl rfl))), _, rfl, ?_⟩
    have e : isIn d = !isaD "bool" d := by
      cases d <;> first | rfl | simp [isaD] at h1
    exact e ▸ k
  · have e : isIn d = false := by
      cases d <;> first | rfl | simp [isaD] at h1
    exact e ▸ k
theorem ok_word {fd : FuncData} (F : FnP K "is_word" s_is_word fd) (T : TC K mg) (TB : TBx K mg base "is_word") : FnOk P w K mg base CX0 2 (He.fAd K ("is_word", none)) fd p_is_word (spWord K) := by
  refine okP F sc_is_word (fun vs H Q E h => by obtain ⟨v, d, rfl, _⟩ := h; rfl) (fun A outer s H vs Q E hr h => ?_)
  obtain ⟨v, d, rfl, hd, hz, hT, k⟩ := h
  refine ⟨_, (pss_cons (ps_if (PW.pt (pw_or (pt_not (pt_val (pe_callB (call_isD (K := K) rfl) rfl T.b_isinstance (by decide +kernel) (pa_cons (pv 0) (pa_cons (pe_ty (T := "str") rfl T.b_str (by decide +kernel)) pa_nil))))) (pw_or1 (pt_not (pt_chain u_le u_le pe_int (pe_callB (k_len (K := K) rfl) rfl T.b_len (by decide +kernel) (pa_cons (pv 0) pa_nil)) (pe_gl T.c_MOST_WORD_CHARACTERS rfl))))))
      (pss_one (ps_ret pe_bl))
      pss_nil)
      (pss_one (ps_ret (pe_allL (own := [1]) (j := 1) hr rfl T.b_all (by decide +kernel) TB rfl (gok_by (N := n_is_word) (sc := defScope s_is_word) (by decide +kernel)) sc_is_word.nd rfl (by simp) (pi_str (pv 0)) (fun _ _ _ _ _ _ hr' => pts_nil) (fun _ _ _ _ _ _ hr' => (pe_cmpR (u_in (K := K) rfl) (pv 1) (pe_gl T.c_WORD_CHARACTERS rfl) (by first | exact nomark _ | rfl))))))), ?_⟩
  refine ⟨_, rfl, v, d, "str", rfl, hd, .inr (.inl rfl), _, rfl, ite2 (fun h1 => ?_) (fun h1 => ?_)⟩
  · have e : isWd d = false := by
      cases d <;> first | rfl | simp [isaD] at h1
    exact e ▸ k _ (Gr.refl H)
  obtain ⟨x, rfl⟩ := isStr_iff.mp (show isaD "str" d = true by simpa using h1)
  cases hd
  have hx := hz x rfl
  have no : isWs x = false → Q (.bl false) H := fun e => by
    have q := k H (Gr.refl H)
    rw [show isWd (.str x) = isWs x from rfl, e] at q
    exact q
  have fin : ∀ H', Gr H H' → ∀ b, isWs x = b → Q (.bl b) H' := fun H' g b e => by
    have q := k H' g
    rw [show isWd (.str x) = isWs x from rfl, e] at q
    exact q
  refine ⟨_, rfl, _, _, rfl, ⟨hx, rfl⟩, le_ii ⟨_, rfl, ite2 (fun h1 => le_ii ⟨_, rfl, ?_⟩) (fun h1 => ⟨_, rfl, iteT (no ?_)⟩)⟩⟩
  rotate_left
  · have h1 : ¬ 1 ≤ x.length := fun z => h1 (decide_eq_true (by omega))
    unfold isWs
    rw [decide_eq_false (by omega), Bool.false_and]
  have h1 : 1 ≤ x.length := by have := of_decide_eq_true h1; omega
  by_cases h2 : x.length ≤ 12
  rotate_left
  · have e1 : (decide ((x.length : Int) ≤ 12)) = false := by simp; omega
    rw [e1]
    refine iteT (no ?_)
    unfold isWs
    rw [decide_eq_false (by omega), Bool.false_and]
  have e1 : (decide ((x.length : Int) ≤ 12)) = true := by simp; omega
  rw [e1]
  have eN : isWs x = x.cps.toList.all fun c => decide (c ∈ words) := by
    unfold isWs
    rw [decide_eq_true ⟨h1, h2⟩, Bool.true_and]
  refine iteF ⟨_, rfl, _, rfl, hT, fun H2 hTb => ?_⟩
  have g := Gr.tabb hTb
  refine turns_S (fun i H' => H' = H2 ∧ ∀ c ∈ x.cps.toList.take i, c ∈ words) ⟨rfl, by simp⟩ ?_ ?_
  · rintro i c H' hc ⟨rfl, ha⟩
    refine ⟨_, rfl, in_sign ⟨_, rfl, ite2 (fun h4 => ⟨rfl, ?_⟩) (fun h4 => ?_)⟩⟩
    · intro d hd
      rw [List.take_succ, hc] at hd
      rcases List.mem_append.mp hd with hd | hd
      · exact ha d hd
      · simp only [Option.toList_some, List.mem_singleton] at hd
        subst hd
        exact of_decide_eq_true h4
    · have h4 : c ∉ words := fun z => h4 (decide_eq_true z)
      have e : isWs x = false := by
        rw [eN, List.all_eq_false]
        exact ⟨c, List.mem_of_getElem? hc, by simp [h4]⟩
      exact fin _ g false e
  · rintro H' ⟨rfl, ha⟩
    rw [List.take_length] at ha
    have e : isWs x = true := by
      rw [eN, List.all_eq_true]
      exact fun c hc => by simp [ha c hc]
    exact fin _ g true e
end
end Vf
end
section
set_option Elab.async false
set_option linter.all false
set_option maxRecDepth 16000000
set_option maxHeartbeats 4000000
namespace Vf
open PySem PySem.Spec PyProof.Rows L2 GxR GenW RZ
/-! ### what a content is -/
def eS (d : PyData) : Bool := eqS d ""
def isMk : PyData → Bool
  | .tuple [l, b, s] => (eS l || isWd l) && (isaD "bool" b && isaD "bool" s)
  | _ => false
def okC (c : Nat) : Bool := decide (32 ≤ c) && decide (c ≤ 126)
def isPc : PyData → Bool
  | .tuple [t, m] => isaD "str" t && (!eS t && (isMk m && (match t with | .str x => x.cps.toList.all okC | _ => false)))
  | _ => false
mutual
/-- texts within are of a length that there is -/
def tx : PyData → Bool
  | .str x => decide (x.length ≤ 16000000) && PyData.canLay0 (.str x)
  | .tuple ds => decide (ds.length ≤ 16000000) && txA ds
  | _ => true
def txA : List PyData → Bool
  | [] => true
  | d :: ds => tx d && txA ds
end
theorem txA_mem : ∀ {ds : List PyData}, txA ds = true → ∀ d ∈ ds, tx d = true
  | e :: es, h, d, hd => by
    have h' : (tx e && txA es) = true := h
    rw [Bool.and_eq_true] at h'
    rcases List.mem_cons.mp hd with z | z
    · exact z ▸ h'.1
    · exact txA_mem h'.2 d z
theorem tx_str {x : Str} (h : tx (.str x) = true) : x.length ≤ 16000000 ∧ PyData.canLay0 (.str x) = true := by
  have h' : (decide (x.length ≤ 16000000) && PyData.canLay0 (.str x)) = true := h
  rw [Bool.and_eq_true] at h'
  exact ⟨of_decide_eq_true h'.1, h'.2⟩
theorem tx_tup {ds : List PyData} (h : tx (.tuple ds) = true) : ds.length ≤ 16000000 ∧ txA ds = true := by
  have h' : (decide (ds.length ≤ 16000000) && txA ds) = true := h
  rw [Bool.and_eq_true] at h'
  exact ⟨of_decide_eq_true h'.1, h'.2⟩
theorem isTup_iff {d : PyData} : isaD "tuple" d = true ↔ ∃ ds, d = .tuple ds := by
  cases d <;> simp [isaD]
theorem dd_len {K : PySem.W.Frag} {H : Hp} : ∀ {xs : List V} {ds : List PyData}, DdAll K H xs ds → xs.length = ds.length
  | _, [], h => by cases h; rfl
  | _, _ :: _, h => by
    cases h with
    | cons a b => show _ + 1 = _ + 1; rw [dd_len b]
/-- the tables of code objects -/
structure Tbs (K : PySem.W.Frag) (H : Hp) : Prop where
  w : TabG H (tb K "is_word")
  p : TabG H (tb K "is_characters")
  c : TabG H (tb K "is_cell")
  l : TabG H (tb K "is_line")
  t : TabG H (tb K "is_content")
theorem Tbs.gr {K : PySem.W.Frag} {H H' : Hp} (h : Tbs K H) (g : Gr H H') : Tbs K H' := ⟨g.tabG h.w, g.tabG h.p, g.tabG h.c, g.tabG h.l, g.tabG h.t⟩
def spOf (K : PySem.W.Frag) (f : PyData → Bool) : Sp := fun vs H Q _ => ∃ (v : V) (d : PyData), vs = [v] ∧ Dd K H v d ∧ tx d = true ∧ Tbs K H ∧ ∀ H', Gr H H' → Q (.bl (f d)) H'
section
variable {P : Program} {w : World} {K : PySem.W.Frag} {mg : Str → Option Value} {base : Heap}
theorem ok_marks {fd : FuncData} (F : FnP K "is_marks" s_is_marks fd) (T : TC K mg) (D_is_word : Df P w K mg base "is_word" 2 p_is_word (spWord K)) : FnOk P w K mg base CX0 3 (He.fAd K ("is_marks", none)) fd p_is_marks (spOf K isMk) := by
  refine okP F sc_is_marks (fun vs H Q E h => by obtain ⟨v, d, rfl, _⟩ := h; rfl) (fun A outer s H vs Q E hr h => ?_)
  obtain ⟨v, d, rfl, hd, hx, tb, k⟩ := h
  refine ⟨_, (pss_cons (ps_if (PW.pt (pw_or (pt_not (pt_val (pe_callB (call_isD (K := K) rfl) rfl T.b_isinstance (by decide +kernel) (pa_cons (pv 0) (pa_cons (pe_ty (T := "tuple") rfl T.b_tuple (by decide +kernel)) pa_nil))))) (pw_or1 (pt_cmpR (u_neW (K := K) rfl hr.units) (pe_callB (k_len (K := K) rfl) rfl T.b_len (by decide +kernel) (pa_cons (pv 0) pa_nil)) pe_int (nomark _)))))
      (pss_one (ps_ret pe_bl))
      pss_nil)
      (pss_cons (ps_asg (pv 0) (kg_tup 3 (K := K) rfl rfl (pgs_cons (pg_name (i := 1) sc_is_marks.nd rfl (by first | exact Or.inl rfl | exact Or.inr rfl)) (pgs_cons (pg_name (i := 2) sc_is_marks.nd rfl (by first | exact Or.inl rfl | exact Or.inr rfl)) (pgs_cons (pg_name (i := 3) sc_is_marks.nd rfl (by first | exact Or.inl rfl | exact Or.inr rfl)) pgs_nil)))))
      (pss_cons (ps_if (PW.pt (pw_and (pt_cmpR (u_neW (K := K) rfl hr.units) (pv 1) pe_str (nomark _)) (pw_and1 (pt_not (pt_val (pe_fn D_is_word hr (by decide) rfl (pa_cons (pv 1) pa_nil)))))))
      (pss_one (ps_ret pe_bl))
      pss_nil)
      (pss_one (ps_ret (pe_and (pe_callB (call_isD (K := K) rfl) rfl T.b_isinstance (by decide +kernel) (pa_cons (pv 2) (pa_cons (pe_ty (T := "bool") rfl T.b_bool (by decide +kernel)) pa_nil))) (pe_one (pe_callB (call_isD (K := K) rfl) rfl T.b_isinstance (by decide +kernel) (pa_cons (pv 3) (pa_cons (pe_ty (T := "bool") rfl T.b_bool (by decide +kernel)) pa_nil)))))))))), ?_⟩
  have no : ∀ H', Gr H H' → isMk d = false → Q (.bl false) H' := fun H' g e => e ▸ k H' g
  refine ⟨_, rfl, v, d, "tuple", rfl, hd, .inl rfl, _, rfl, ite2 (fun h1 => ?_) (fun h1 => ?_)⟩
  · refine no _ (Gr.refl H) ?_
    cases d <;> first | rfl | simp [isaD] at h1
  obtain ⟨ds, rfl⟩ := isTup_iff.mp (show isaD "tuple" d = true by simpa using h1)
  cases hd with
  | @tup a xs _ hS hA =>
    have hl := dd_len hA
    refine ⟨_, rfl, _, _, rfl, .inr ⟨_, hS, rfl⟩, wn_flat rfl ⟨_, rfl, ite2 (fun h2 => ?_) (fun h2 => ?_)⟩⟩
    · refine no _ (Gr.refl H) ?_
      have h2 : ¬ (xs.length : Int) = 3 := fun z => by
        have q : (!decide (V.int xs.length = V.int 3)) = true := h2
        rw [z] at q
        simp at q
      unfold isMk
      split
      · rename_i e
        cases e
        exact absurd (by rw [hl]; rfl) h2
      · rfl
    · have h2 : xs.length = 3 := by
        have q : ¬ (!decide (V.int xs.length = V.int 3)) = true := h2
        simp at q
        omega
      rw [h2] at hl
      obtain ⟨l, b, c, rfl⟩ : ∃ l b c, ds = [l, b, c] := match ds, hl with | [l, b, c], _ => ⟨l, b, c, rfl⟩
      cases hA with
      | @cons v1 _ _ _ a1 hA =>
        cases hA with
        | @cons v2 _ _ _ a2 hA =>
          cases hA with
          | @cons v3 _ _ _ a3 hA =>
            cases hA
            have tl := (tx_tup hx).2
            refine ⟨_, rfl, a, _, rfl, hS, rfl, _, _, rfl, _, _, rfl, _, _, rfl, rfl, ?_⟩
            have la := txA_mem tl l (by simp)
            refine ⟨_, rfl, wn_str a1 ⟨_, rfl, ite2 (fun h3 => ?_) (fun h3 => ?_)⟩⟩
            · have e3 : eS l = false := (show eqS l "" = false by simpa using h3)
              refine ⟨_, rfl, v1, l, rfl, a1, (fun x e => by subst e; have := (tx_str la).1; rw [sizeLine_eq]; omega), tb.w, fun H2 g2 => ⟨_, rfl, ite2 (fun h4 => ?_) (fun h4 => ?_)⟩⟩
              · refine no _ g2 ?_
                have e4 : isWd l = false := by simpa using h4
                show ((eS l || isWd l) && _) = false
                rw [e3, e4]; rfl
              · have e4 : isWd l = true := by simpa using h4
                have em : isMk (.tuple [l, b, c]) = (isaD "bool" b && isaD "bool" c) := by
                  show ((eS l || isWd l) && _) = _
                  rw [e4, Bool.or_true, Bool.true_and]
                refine ⟨_, rfl, v2, b, "bool", rfl, g2.dd _ _ a2, .inr (.inr (.inr (.inl rfl))), _, rfl, ite2 (fun h5 => ?_) (fun h5 => ?_)⟩
                · refine ⟨_, rfl, v3, c, "bool", rfl, g2.dd _ _ a3, .inr (.inr (.inr (.inl rfl))), ?_⟩
                  have q := k _ g2
                  rw [em, h5, Bool.true_and] at q
                  exact q
                · have q := k _ g2
                  rw [em, Bool.eq_false_iff.mpr h5, Bool.false_and] at q
                  exact q
            · have e3 : eS l = true := (show eqS l "" = true by simpa using h3)
              have em : isMk (.tuple [l, b, c]) = (isaD "bool" b && isaD "bool" c) := by
                show ((eS l || isWd l) && _) = _
                rw [e3, Bool.true_or, Bool.true_and]
              refine ⟨_, rfl, v2, b, "bool", rfl, a2, .inr (.inr (.inr (.inl rfl))), _, rfl, ite2 (fun h5 => ?_) (fun h5 => ?_)⟩
              · refine ⟨_, rfl, v3, c, "bool", rfl, a3, .inr (.inr (.inr (.inl rfl))), ?_⟩
                have q := k _ (Gr.refl H)
                rw [em, h5, Bool.true_and] at q
                exact q
              · have q := k _ (Gr.refl H)
                rw [em, Bool.eq_false_iff.mpr h5, Bool.false_and] at q
                exact q
theorem le_chr (c : Nat) : decide ((" " : Str).cps.toList < (⟨#[c]⟩ : Str).cps.toList) = decide (32 < c) ∧ decide ((⟨#[c]⟩ : Str).cps.toList < (" " : Str).cps.toList) = decide (c < 32) ∧ decide (("~" : Str).cps.toList < (⟨#[c]⟩ : Str).cps.toList) = decide (126 < c) := by
  have lt1 : ∀ a b : Nat, decide (([a] : List Nat) < [b]) = decide (a < b) := fun a b => by
    rw [decide_eq_decide]
    constructor
    · intro h
      cases h with
      | rel h => exact h
      | cons h => cases h
    · exact fun h => List.Lex.rel h
  exact ⟨lt1 32 c, lt1 c 32, lt1 126 c⟩
def isCh : PyData → Bool
  | .str x => !eS (.str x) && x.cps.toList.all okC
  | _ => false
theorem isPc_ch (t m : PyData) : isPc (.tuple [t, m]) = (isCh t && isMk m) := by
  show (isaD "str" t && (!eS t && (isMk m && (match t with | .str x => x.cps.toList.all okC | _ => false)))) = _
  cases t with
  | str x =>
    show (true && (!eS (.str x) && (isMk m && x.cps.toList.all okC))) = ((!eS (.str x) && x.cps.toList.all okC) && isMk m)
    cases eS (.str x) <;> cases isMk m <;> cases x.cps.toList.all okC <;> rfl
  | _ => rfl
theorem ok_chars {fd : FuncData} (F : FnP K "is_characters" s_is_characters fd) (T : TC K mg) (TB : TBx K mg base "is_characters") : FnOk P w K mg base CX0 2 (He.fAd K ("is_characters", none)) fd p_is_characters (spOf K isCh) := by
  refine okP F sc_is_characters (fun vs H Q E h => by obtain ⟨v, d, rfl, _⟩ := h; rfl) (fun A outer s H vs Q E hr h => ?_)
  obtain ⟨v, d, rfl, hd, hx, tbs, k⟩ := h
  refine ⟨_, (pss_cons (ps_if (PW.pt (pw_or (pt_not (pt_val (pe_callB (call_isD (K := K) rfl) rfl T.b_isinstance (by decide +kernel) (pa_cons (pv 0) (pa_cons (pe_ty (T := "str") rfl T.b_str (by decide +kernel)) pa_nil))))) (pw_or1 (pt_cmpR (u_eqW (K := K) rfl hr.units) (pv 0) pe_str (nomark _)))))
      (pss_one (ps_ret pe_bl))
      pss_nil)
      (pss_one (ps_ret (pe_allL (own := [1]) (j := 1) hr rfl T.b_all (by decide +kernel) TB rfl (gok_by (N := n_is_characters) (sc := defScope s_is_characters) (by decide +kernel)) sc_is_characters.nd rfl (by simp) (pi_str (pv 0)) (fun _ _ _ _ _ _ hr' => pts_nil) (fun _ _ _ _ _ _ hr' => (pe_chain u_le u_le pe_str (pv 1) pe_str)))))), ?_⟩
  have no : ∀ H', Gr H H' → isCh d = false → Q (.bl false) H' := fun H' g e => e ▸ k H' g
  refine ⟨_, rfl, v, d, "str", rfl, hd, .inr (.inl rfl), _, rfl, ite2 (fun h1 => ?_) (fun h1 => ?_)⟩
  · refine no _ (Gr.refl H) ?_
    cases d <;> first | rfl | simp [isaD] at h1
  obtain ⟨x, rfl⟩ := isStr_iff.mp (show isaD "str" d = true by simpa using h1)
  cases hd
  have lx := tx_str hx
  refine ⟨_, rfl, we_flat rfl ⟨_, rfl, ite2 (fun h4 => ?_) (fun h4 => ?_)⟩⟩
  · refine no _ (Gr.refl H) ?_
    show (!decide (V.str x = V.str "") && _) = false
    rw [h4]; rfl
  have em : isCh (.str x) = x.cps.toList.all okC := by
    show (!decide (V.str x = V.str "") && _) = _
    rw [Bool.eq_false_iff.mpr h4]; rfl
  refine ⟨_, rfl, _, rfl, tbs.p, fun H3 hTb => ?_⟩
  have g3 := Gr.tabb hTb
  refine turns_S (fun i H' => H' = H3 ∧ ∀ c ∈ x.cps.toList.take i, okC c = true) ⟨rfl, by simp⟩ ?_ ?_
  · rintro i c H' hc ⟨rfl, ha⟩
    obtain ⟨e1, e2, e3⟩ := le_chr c
    have nope : okC c = false → Q (.bl false) _ := fun e => by
      have q := k _ g3
      rw [em, show x.cps.toList.all okC = false from List.all_eq_false.mpr ⟨c, List.mem_of_getElem? hc, by rw [e]; decide⟩] at q
      exact q
    refine ⟨_, rfl, le_ss ⟨_, rfl, ?_⟩⟩
    rw [e2]
    refine ite2 (fun h6 => ?_) (fun h6 => ⟨_, rfl, ?_⟩)
    · have h6 : 32 ≤ c := by simpa using h6
      refine le_ss ⟨_, rfl, ?_⟩
      rw [e3]
      refine ite2 (fun h7 => ⟨rfl, ?_⟩) (fun h7 => ?_)
      · have h7 : c ≤ 126 := by simpa using h7
        intro y hy
        rw [List.take_succ, hc] at hy
        rcases List.mem_append.mp hy with hy | hy
        · exact ha y hy
        · simp only [Option.toList_some, List.mem_singleton] at hy
          subst hy
          unfold okC
          rw [decide_eq_true h6, decide_eq_true h7]; rfl
      · have h7 : ¬ c ≤ 126 := by simpa using h7
        refine nope ?_
        unfold okC
        rw [decide_eq_false h7, Bool.and_false]
    · have h6 : ¬ 32 ≤ c := by simpa using h6
      refine iteF (nope ?_)
      unfold okC
      rw [decide_eq_false h6, Bool.false_and]
  · rintro H' ⟨rfl, ha⟩
    rw [List.take_length] at ha
    have q := k _ g3
    rw [em, show x.cps.toList.all okC = true from List.all_eq_true.mpr ha] at q
    exact q
theorem ok_piece {fd : FuncData} (F : FnP K "is_piece" s_is_piece fd) (T : TC K mg) (D_is_characters : Df P w K mg base "is_characters" 2 p_is_characters (spOf K isCh)) (D_is_marks : Df P w K mg base "is_marks" 3 p_is_marks (spOf K isMk)) : FnOk P w K mg base CX0 4 (He.fAd K ("is_piece", none)) fd p_is_piece (spOf K isPc) := by
  refine okP F sc_is_piece (fun vs H Q E h => by obtain ⟨v, d, rfl, _⟩ := h; rfl) (fun A outer s H vs Q E hr h => ?_)
  obtain ⟨v, d, rfl, hd, hx, tbs, k⟩ := h
  refine ⟨_, (pss_cons (ps_if (PW.pt (pw_or (pt_not (pt_val (pe_callB (call_isD (K := K) rfl) rfl T.b_isinstance (by decide +kernel) (pa_cons (pv 0) (pa_cons (pe_ty (T := "tuple") rfl T.b_tuple (by decide +kernel)) pa_nil))))) (pw_or1 (pt_cmpR (u_neW (K := K) rfl hr.units) (pe_callB (k_len (K := K) rfl) rfl T.b_len (by decide +kernel) (pa_cons (pv 0) pa_nil)) pe_int (nomark _)))))
      (pss_one (ps_ret pe_bl))
      pss_nil)
      (pss_cons (ps_asg (pv 0) (kg_tup 2 (K := K) rfl rfl (pgs_cons (pg_name (i := 1) sc_is_piece.nd rfl (by first | exact Or.inl rfl | exact Or.inr rfl)) (pgs_cons (pg_name (i := 2) sc_is_piece.nd rfl (by first | exact Or.inl rfl | exact Or.inr rfl)) pgs_nil))))
      (pss_one (ps_ret (pe_and (pe_fn D_is_characters hr (by decide) rfl (pa_cons (pv 1) pa_nil)) (pe_one (pe_fn D_is_marks hr (by decide) rfl (pa_cons (pv 2) pa_nil)))))))), ?_⟩
  have no : ∀ H', Gr H H' → isPc d = false → Q (.bl false) H' := fun H' g e => e ▸ k H' g
  refine ⟨_, rfl, v, d, "tuple", rfl, hd, .inl rfl, _, rfl, ite2 (fun h1 => ?_) (fun h1 => ?_)⟩
  · refine no _ (Gr.refl H) ?_
    cases d <;> first | rfl | simp [isaD] at h1
  obtain ⟨ds, rfl⟩ := isTup_iff.mp (show isaD "tuple" d = true by simpa using h1)
  cases hd with
  | @tup a xs _ hS hA =>
    have hl := dd_len hA
    refine ⟨_, rfl, _, _, rfl, .inr ⟨_, hS, rfl⟩, wn_flat rfl ⟨_, rfl, ite2 (fun h2 => ?_) (fun h2 => ?_)⟩⟩
    · refine no _ (Gr.refl H) ?_
      have h2 : ¬ (xs.length : Int) = 2 := fun z => by
        have q : (!decide (V.int xs.length = V.int 2)) = true := h2
        rw [z] at q
        simp at q
      unfold isPc
      split
      · rename_i e
        cases e
        exact absurd (by rw [hl]; rfl) h2
      · rfl
    have h2 : xs.length = 2 := by
      have q : ¬ (!decide (V.int xs.length = V.int 2)) = true := h2
      simp at q
      omega
    rw [h2] at hl
    obtain ⟨t, m, rfl⟩ : ∃ t m, ds = [t, m] := match ds, hl with | [t, m], _ => ⟨t, m, rfl⟩
    cases hA with
    | @cons v1 _ _ _ a1 hA =>
      cases hA with
      | @cons v2 _ _ _ a2 hA =>
        cases hA
        have tl := (tx_tup hx).2
        refine ⟨_, rfl, a, _, rfl, hS, rfl, _, _, rfl, _, _, rfl, rfl, ?_⟩
        have pe := isPc_ch t m
        refine ⟨_, rfl, v1, t, rfl, a1, txA_mem tl t (by simp), tbs, fun H2 g2 => ⟨_, rfl, ite2 (fun h3 => ?_) (fun h3 => ?_)⟩⟩
        · refine ⟨_, rfl, v2, m, rfl, g2.dd _ _ a2, txA_mem tl m (by simp), tbs.gr g2, fun H3 g3 => ?_⟩
          have q := k _ (g2.trans g3)
          rw [pe, h3, Bool.true_and] at q
          exact q
        · have q := k _ g2
          rw [pe, Bool.eq_false_iff.mpr h3, Bool.false_and] at q
          exact q
end
end Vf
end
section
set_option Elab.async false
set_option linter.all false
set_option maxRecDepth 16000000
set_option maxHeartbeats 4000000
namespace Vf
open PySem PySem.Spec PyProof.Rows L2 GxR GenW RZ
abbrev s_is_cell : Stmt := top 14
abbrev n_is_cell : List Str := ["thing", "most", "piece", "at", "text", "_"]
abbrev p_is_cell : List Str := ["thing", "most"]
theorem sc_is_cell : FnScope n_is_cell p_is_cell (defScope s_is_cell) := ⟨rfl, rfl, rfl, by decide +kernel, rfl, by decide +kernel, by decide +kernel⟩

def pcMk : PyData → PyData
  | .tuple [_, m] => m
  | _ => .none
def pcLen : PyData → Int
  | .tuple [.str x, _] => (x.length : Nat)
  | _ => 0
def tw (ps : List PyData) (i : Nat) : Bool := PyData.eqv (pcMk (ps.getD i .none)) (pcMk (ps.getD (i + 1) .none))
def twin (ps : List PyData) : Bool := (List.range (ps.length - 1)).any (tw ps)
def isCl (most : Int) : PyData → Bool
  | .tuple ps => ps.all isPc && (!twin ps && decide ((ps.map pcLen).sum ≤ most))
  | _ => false
theorem isPc_ex {d : PyData} (h : isPc d = true) : ∃ x m, d = .tuple [.str x, m] ∧ isMk m = true := by
  unfold isPc at h
  split at h
  · rename_i t m
    simp only [Bool.and_eq_true] at h
    obtain ⟨h1, _, h3, _⟩ := h
    obtain ⟨x, rfl⟩ := isStr_iff.mp h1
    exact ⟨x, m, rfl, h3⟩
  · cases h
theorem isMk_ex {m : PyData} (h : isMk m = true) : ∃ (l : Str) (b s : Bool), m = .tuple [.str l, .bool b, .bool s] := by
  unfold isMk at h
  split at h
  · rename_i l b s
    simp only [Bool.and_eq_true] at h
    obtain ⟨h1, h2, h3⟩ := h
    have e2 : ∃ y, b = .bool y := by cases b <;> simp [isaD] at h2 <;> exact ⟨_, rfl⟩
    have e3 : ∃ y, s = .bool y := by cases s <;> simp [isaD] at h3 <;> exact ⟨_, rfl⟩
    obtain ⟨y, rfl⟩ := e2
    obtain ⟨z, rfl⟩ := e3
    have e1 : ∃ y, l = .str y := by
      cases l <;> first | exact ⟨_, rfl⟩ | (simp [eS, eqS, isWd] at h1)
    obtain ⟨w, rfl⟩ := e1
    exact ⟨w, y, z, rfl⟩
  · cases h
theorem dp_mk {K : PySem.W.Frag} {H : Hp} {v : V} {m : PyData} (h : isMk m = true) (ht : tx m = true) (hd : Dd K H v m) : Dp K H v m ∧ SeqAt.shaped m = true := by
  obtain ⟨l, b, s, rfl⟩ := isMk_ex h
  have hl := (tx_str (txA_mem (tx_tup ht).2 (.str l) (by simp))).2
  constructor
  · cases hd with
    | tup h1 h2 =>
      cases h2 with
      | cons a1 h2 =>
        cases h2 with
        | cons a2 h2 =>
          cases h2 with
          | cons a3 h2 =>
            cases h2
            cases a1; cases a2; cases a3
            exact .tup h1 (.cons (.str _) (.cons (.bl _) (.cons (.bl _) .nil)))
  · unfold SeqAt.shaped
    have h1 : PyData.canLay0 (.tuple [.str l, .bool b, .bool s]) = true := by
      show (PyData.canLay0 (.str l) && _) = true
      rw [hl]; rfl
    rw [h1]
    rfl
theorem ddA_get {K : PySem.W.Frag} {H : Hp} : ∀ {xs : List V} {ds : List PyData}, DdAll K H xs ds → ∀ {i : Nat} {d : PyData}, ds[i]? = some d → ∃ v, xs[i]? = some v ∧ Dd K H v d
  | _, [], h, i, d, e => by simp at e
  | _, _ :: _, .cons a b, 0, d, e => by
    cases e
    exact ⟨_, rfl, a⟩
  | _, _ :: _, .cons a b, i + 1, d, e => ddA_get b (show _ = some d from e)
theorem prs_of {K : PySem.W.Frag} {H : Hp} : ∀ {xs : List V} {ds : List PyData}, DdAll K H xs ds → ds.all isPc = true → txA ds = true → ∃ ps : List (V × V), Prs K H xs ps ∧ (∀ p ∈ ps, ∃ y : Str, p.1 = .str y ∧ y.length ≤ sizeLine) ∧ (ps.map fun p => lenI p.1).sum = (ds.map pcLen).sum
  | _, [], h, _, _ => by
    cases h
    exact ⟨[], trivial, by simp, rfl⟩
  | _, d :: ds, .cons a b, hp, ht => by
    have hp' : (isPc d && ds.all isPc) = true := hp
    have ht' : (tx d && txA ds) = true := ht
    rw [Bool.and_eq_true] at hp' ht'
    obtain ⟨ps, h1, h2, h3⟩ := prs_of b hp'.2 ht'.2
    obtain ⟨x, m, rfl, _⟩ := isPc_ex hp'.1
    cases a with
    | tup q1 q2 =>
      cases q2 with
      | @cons v1 _ _ _ a1 q2 =>
        cases q2 with
        | @cons v2 _ _ _ a2 q2 =>
          cases q2
          cases a1
          have lx := (tx_str (txA_mem (tx_tup ht'.1).2 (.str x) (by simp))).1
          refine ⟨(.str x, v2) :: ps, ⟨⟨_, rfl, q1⟩, h1⟩, fun p hp => ?_, ?_⟩
          · rcases List.mem_cons.mp hp with z | z
            · exact ⟨x, by rw [z], by rw [sizeLine_eq]; omega⟩
            · exact h2 p z
          · show lenI (.str x) + _ = pcLen _ + _
            rw [show (List.map (fun p => lenI p.1) ps).foldr (fun x1 x2 => x1 + x2) 0 = (ds.map pcLen).foldr (fun x1 x2 => x1 + x2) 0 from h3]; rfl
theorem piece_at {K : PySem.W.Frag} {H : Hp} {xs : List V} {ds : List PyData} (hA : DdAll K H xs ds) (hp : ds.all isPc = true) (ht : txA ds = true) {i : Nat} (hi : i < ds.length) :
    ∃ (b : Addr) (w : V) (x : Str) (m : PyData), xs[i]? = some (.ref b) ∧ SqT K H b [.str x, w] ∧ ds[i]? = some (.tuple [.str x, m]) ∧ isMk m = true ∧ tx m = true ∧ Dd K H w m := by
  have e := List.getElem?_eq_getElem hi
  obtain ⟨x, m, ed, hm⟩ := isPc_ex (List.all_eq_true.mp hp _ (List.getElem_mem hi))
  have tt := txA_mem ht _ (List.getElem_mem hi)
  obtain ⟨v, ev, dv⟩ := ddA_get hA e
  rw [ed] at dv e tt
  cases dv with
  | tup q1 q2 =>
    cases q2 with
    | cons a1 q2 =>
      cases q2 with
      | cons a2 q2 =>
        cases q2
        cases a1
        exact ⟨_, _, x, m, ev, q1, e, hm, txA_mem (tx_tup tt).2 m (by simp), a2⟩
def spCell (K : PySem.W.Frag) : Sp := fun vs H Q _ => ∃ (v : V) (d : PyData) (n : Int), vs = [v, .int n] ∧ Dd K H v d ∧ tx d = true ∧ Tbs K H ∧ ∀ H', Gr H H' → Q (.bl (isCl n d)) H'
section
variable {P : Program} {w : World} {K : PySem.W.Frag} {mg : Str → Option Value} {base : Heap}
theorem ok_cell {fd : FuncData} (F : FnP K "is_cell" s_is_cell fd) (T : TC K mg) (TB : TBx K mg base "is_cell") (D_is_piece : Df P w K mg base "is_piece" 4 p_is_piece (spOf K isPc)) : FnOk P w K mg base CX0 6 (He.fAd K ("is_cell", none)) fd p_is_cell (spCell K) := by
  refine okP F sc_is_cell (fun vs H Q E h => by obtain ⟨v, d, n, rfl, _⟩ := h; rfl) (fun A outer s H vs Q E hr h => ?_)
  obtain ⟨v, d, n, rfl, hd, hx, tbs, k⟩ := h
  refine ⟨_, (pss_cons (ps_if (PW.pt (pw_or (pt_not (pt_val (pe_callB (call_isD (K := K) rfl) rfl T.b_isinstance (by decide +kernel) (pa_cons (pv 0) (pa_cons (pe_ty (T := "tuple") rfl T.b_tuple (by decide +kernel)) pa_nil))))) (pw_or1 (pt_not (pt_val (pe_allL (own := [2]) (j := 2) hr rfl T.b_all (by decide +kernel) TB rfl (gok_by (N := n_is_cell) (sc := defScope s_is_cell) (by decide +kernel)) sc_is_cell.nd rfl (by simp) (k_tup (K := K) rfl (pv 0)) (fun _ _ _ _ _ _ hr' => pts_nil) (fun _ _ _ _ _ _ hr' => (pe_fn D_is_piece hr' (by decide) rfl (pa_cons (pv 2) pa_nil)))))))))
      (pss_one (ps_ret pe_bl))
      pss_nil)
      (pss_cons (ps_for PassesOwn.never rfl (pi_range2 rfl T.b_range (pa_cons pe_int (pa_cons (pe_callB (k_len (K := K) rfl) rfl T.b_len (by decide +kernel) (pa_cons (pv 0) pa_nil)) pa_nil))) (pg_name (i := 3) sc_is_cell.nd rfl (by first | exact Or.inl rfl | exact Or.inr rfl))
      (pss_one (ps_if (pt_cmpR (u_eq (K := K) rfl hr.units) (pe_ix (u_ix (K := K) rfl) (pe_ix (u_ix (K := K) rfl) (pv 0) (pe_op u_sub (pv 3) pe_int) (fun _ _ => rfl)) pe_int (fun _ _ => rfl)) (pe_ix (u_ix (K := K) rfl) (pe_ix (u_ix (K := K) rfl) (pv 0) (pv 3) (fun _ _ => rfl)) pe_int (fun _ _ => rfl)) (nomark _))
      (pss_one (ps_ret pe_bl))
      pss_nil)))
      (pss_one (ps_ret (pe_cmpR u_le (pe_sumG (K := K) rfl hr rfl T.b_sum (by decide +kernel) TB rfl (gs2_by (by decide +kernel)) (pv 0) (elt_len rfl (by decide +kernel) (by decide +kernel) T.b_len) (fun _ => rfl)) (pv 1) (nomark _)))))), ?_⟩
  have no : ∀ H', Gr H H' → isCl n d = false → Q (.bl false) H' := fun H' g e => e ▸ k H' g
  refine ⟨_, rfl, v, d, "tuple", rfl, hd, .inl rfl, _, rfl, ite2 (fun h1 => ?_) (fun h1 => ?_)⟩
  · refine no _ (Gr.refl H) ?_
    cases d <;> first | rfl | simp [isaD] at h1
  obtain ⟨ds, rfl⟩ := isTup_iff.mp (show isaD "tuple" d = true by simpa using h1)
  cases hd with
  | @tup a xs _ hS hA =>
    have hl := dd_len hA
    have tl := tx_tup hx
    have hS' := hS
    refine ⟨_, rfl, a, rfl, ⟨_, hS⟩, tbs.c, fun H2 hTb => ?_⟩
    have g2 := Gr.tabb hTb
    refine turns_T (xs := xs) (fun i H' => Gr H H' ∧ ∀ d ∈ ds.take i, isPc d = true) ⟨g2, by simp⟩ ?_ ?_ ?_
    · rintro i H' _ ⟨g, _⟩
      exact g.seqT hS
    · rintro i x H' hx2 ⟨g, ha⟩
      have hi : i < ds.length := by rw [← hl]; exact (List.getElem?_eq_some_iff.mp hx2).1
      obtain ⟨v2, e2, dd2⟩ := ddA_get hA (List.getElem?_eq_getElem hi)
      have ex : x = v2 := by rw [hx2] at e2; exact Option.some.inj e2
      subst ex
      refine ⟨_, rfl, x, ds[i], rfl, g.dd _ _ dd2, txA_mem tl.2 _ (List.getElem_mem hi), tbs.gr g, fun H3 g3 => ⟨_, rfl, ?_⟩⟩
      refine ite2 (fun h3 => ⟨g.trans g3, ?_⟩) (fun h3 => ?_)
      · intro d hd
        rw [List.take_succ, List.getElem?_eq_getElem hi] at hd
        rcases List.mem_append.mp hd with hd | hd
        · exact ha d hd
        · simp only [Option.toList_some, List.mem_singleton] at hd
          exact hd ▸ h3
      · refine ⟨_, rfl, iteT (no _ (g.trans g3) ?_)⟩
        show (ds.all isPc && _) = false
        rw [show ds.all isPc = false from List.all_eq_false.mpr ⟨ds[i], List.getElem_mem hi, h3⟩]; rfl
    · rintro H3 ⟨g3, ha⟩
      rw [hl, List.take_length] at ha
      have ha2 : ds.all isPc = true := List.all_eq_true.mpr ha
      have em : isCl n (.tuple ds) = (!twin ds && decide ((ds.map pcLen).sum ≤ n)) := by
        show (ds.all isPc && _) = _
        rw [ha2, Bool.true_and]
      refine ⟨_, rfl, iteF ?_⟩
      have lx : xs.length ≤ 16000000 := by rw [hl]; exact tl.1
      have hS3 := g3.seqT hS
      refine ⟨_, rfl, _, _, rfl, .inr ⟨_, hS3, rfl⟩, 1, _, rfl, ⟨by decide, by decide, by omega, by omega⟩, ?_⟩
      have en : (((xs.length : Nat) : Int) - 1).toNat = ds.length - 1 := by omega
      rw [en]
      refine for_range (lo := 1) (n := ds.length - 1) (fun i σ H' => ∃ o : Option V, σ = [some (.ref a), some (.int n), none, o, none, none] ∧ H' = H3 ∧ ∀ j, j < i → tw ds j = false) ⟨none, rfl, rfl, fun j hj => absurd hj (Nat.not_lt_zero _)⟩ ?_ ?_
      · rintro i σ H' hi ⟨o, rfl, rfl, hn⟩
        obtain ⟨b1, w1, x1, m1, e1, s1, f1, k1, t1, d1⟩ := piece_at hA ha2 tl.2 (show i < ds.length by omega)
        obtain ⟨b2, w2, x2, m2, e2, s2, f2, k2, t2, d2⟩ := piece_at hA ha2 tl.2 (show i + 1 < ds.length by omega)
        obtain ⟨p1, q1⟩ := dp_mk k1 t1 (g3.dd _ _ d1)
        obtain ⟨p2, q2⟩ := dp_mk k2 t2 (g3.dd _ _ d2)
        have a1 : atI xs ((1 : Int) + (i : Nat) - 1) = some (.ref b1) := by
          rw [show (1 : Int) + (i : Nat) - 1 = ((i : Nat) : Int) by omega]
          exact atI_nat e1
        have a2 : atI xs ((1 : Int) + (i : Nat)) = some (.ref b2) := by
          rw [show (1 : Int) + (i : Nat) = ((i + 1 : Nat) : Int) by omega]
          exact atI_nat e2
        have et : tw ds i = PyData.eqv m1 m2 := by
          unfold tw
          rw [List.getD_eq_getElem?_getD, List.getD_eq_getElem?_getD, f1, f2]; rfl
        refine ⟨_, rfl, _, rfl, sb_ii (x_t hS3 a1 (x_t (g3.seqT s1) rfl ⟨_, rfl, _, rfl, x_t hS3 a2 (x_t (g3.seqT s2) rfl (e_data p1 p2 q1 q2 ⟨_, rfl, ?_⟩))⟩))⟩
        refine ite2 (fun h5 => ?_) (fun h5 => ?_)
        · refine no _ g3 ?_
          rw [em, show twin ds = true from List.any_eq_true.mpr ⟨i, List.mem_range.mpr hi, et.trans h5⟩]; rfl
        · refine ⟨_, rfl, rfl, fun j hj => ?_⟩
          by_cases hj2 : j < i
          · exact hn j hj2
          · have : j = i := by omega
            subst this
            rw [et]
            exact Bool.eq_false_iff.mpr h5
      · rintro σ H' ⟨o, rfl, rfl, hn⟩
        have tf : twin ds = false := by
          unfold twin
          rw [List.any_eq_false]
          intro j hj
          rw [hn j (List.mem_range.mp hj)]
          decide
        obtain ⟨prs, r1, r2, r3⟩ := prs_of ((g3.ddA _ _ hA)) ha2 tl.2
        refine ⟨_, rfl, a, xs, prs, rfl, hS3, r1, r2, (tbs.gr g3).c, fun H4 hT4 => ⟨_, rfl, le_ii ?_⟩⟩
        have g4 : Gr H H4 := g3.trans (Gr.tabb hT4)
        have q := k _ g4
        rw [em, tf, ← r3] at q
        exact q
end
end Vf
end
section
set_option Elab.async false
set_option linter.all false
set_option maxRecDepth 16000000
set_option maxHeartbeats 4000000
namespace Vf
open PySem PySem.Spec PyProof.Rows L2 GxR GenW RZ
def mst (l : List PyData) : Int := if l.length = 1 then 491 else 40
def isLn : PyData → Bool
  | .tuple [.int i, .tuple l] => decide (0 ≤ i ∧ i ≤ 6) && (decide (1 ≤ l.length ∧ l.length ≤ 12) && l.all (isCl (mst l)))
  | _ => false
def isCt : PyData → Bool
  | .tuple l => decide (1 ≤ l.length ∧ l.length ≤ 200) && l.all isLn
  | _ => false
theorem isIn_iff {d : PyData} : isIn d = true ↔ ∃ i, d = .int i := by
  cases d <;> simp [isIn]
/-- all(f(x) for x in a tuple of data) -/
theorem all_walk {K : PySem.W.Frag} {j : Nat} {σ0 : L2.St} {te : TE} {a : Addr} {xs : List V} {ds : List PyData} {f : PyData → Bool} {Q : VK} {H2 : Hp} (hS : SqT K H2 a xs) (hA : DdAll K H2 xs ds)
    (hel : ∀ (i : Nat) (x : V) (d : PyData) (H' : Hp) (C : VK), xs[i]? = some x → ds[i]? = some d → Dd K H' x d → Gr H2 H' → (∀ H4, Gr H' H4 → C (.bl (f d)) H4) → te (σ0.set j (some x)) H' C) (k : ∀ H', Gr H2 H' → Q (.bl (ds.all f)) H') :
    ∃ W : Nat → Nat → Hp → Prop, (∃ m, W 0 m H2) ∧ Turns true j σ0 tYes te (Itt K a) Q W := by
  have hl := dd_len hA
  refine turns_T (xs := xs) (fun i H' => Gr H2 H' ∧ ∀ d ∈ ds.take i, f d = true) ⟨Gr.refl _, by simp⟩ ?_ ?_ ?_
  · rintro i H' _ ⟨g, _⟩
    exact g.seqT hS
  · rintro i x H' hx2 ⟨g, ha⟩
    have hi : i < ds.length := by rw [← hl]; exact (List.getElem?_eq_some_iff.mp hx2).1
    obtain ⟨v2, e2, dd2⟩ := ddA_get hA (List.getElem?_eq_getElem hi)
    have ex : x = v2 := by rw [hx2] at e2; exact Option.some.inj e2
    subst ex
    refine hel i x ds[i] H' _ hx2 (List.getElem?_eq_getElem hi) (g.dd _ _ dd2) g fun H3 g3 => ⟨_, rfl, ?_⟩
    refine ite2 (fun h3 => ⟨g.trans g3, ?_⟩) (fun h3 => ?_)
    · intro d hd
      rw [List.take_succ, List.getElem?_eq_getElem hi] at hd
      rcases List.mem_append.mp hd with hd | hd
      · exact ha d hd
      · simp only [Option.toList_some, List.mem_singleton] at hd
        exact hd ▸ h3
    · have q := k _ (g.trans g3)
      rw [show ds.all f = false from List.all_eq_false.mpr ⟨ds[i], List.getElem_mem hi, h3⟩] at q
      exact q
  · rintro H3 ⟨g3, ha⟩
    rw [hl, List.take_length] at ha
    have q := k _ g3
    rw [show ds.all f = true from List.all_eq_true.mpr ha] at q
    exact q
theorem two_of {xs : List V} {ds : List PyData} (hl : xs.length = ds.length) (h : ¬ (!decide (V.int (xs.length : Nat) = V.int 2)) = true) : ∃ t m, ds = [t, m] := by
  have h2 : ds.length = 2 := by
    simp at h
    omega
  match ds, h2 with
  | [t, m], _ => exact ⟨t, m, rfl⟩
section
variable {P : Program} {w : World} {K : PySem.W.Frag} {mg : Str → Option Value} {base : Heap}
theorem ok_line {fd : FuncData} (F : FnP K "is_line" s_is_line fd) (T : TC K mg) (TB : TBx K mg base "is_line") (D_is_integer : Df P w K mg base "is_integer" 1 p_is_integer (spInt K)) (D_is_cell : Df P w K mg base "is_cell" 6 p_is_cell (spCell K)) : FnOk P w K mg base CX0 8 (He.fAd K ("is_line", none)) fd p_is_line (spOf K isLn) := by
  refine okP F sc_is_line (fun vs H Q E h => by obtain ⟨v, d, rfl, _⟩ := h; rfl) (fun A outer s H vs Q E hr h => ?_)
  obtain ⟨v, d, rfl, hd, hx, tbs, k⟩ := h
  refine ⟨_, (pss_cons (ps_if (PW.pt (pw_or (pt_not (pt_val (pe_callB (call_isD (K := K) rfl) rfl T.b_isinstance (by decide +kernel) (pa_cons (pv 0) (pa_cons (pe_ty (T := "tuple") rfl T.b_tuple (by decide +kernel)) pa_nil))))) (pw_or1 (pt_cmpR (u_ne (K := K) rfl hr.units) (pe_callB (k_len (K := K) rfl) rfl T.b_len (by decide +kernel) (pa_cons (pv 0) pa_nil)) pe_int (nomark _)))))
      (pss_one (ps_ret pe_bl))
      pss_nil)
      (pss_cons (ps_asg (pv 0) (kg_tup 2 (K := K) rfl rfl (pgs_cons (pg_name (i := 1) sc_is_line.nd rfl (by first | exact Or.inl rfl | exact Or.inr rfl)) (pgs_cons (pg_name (i := 2) sc_is_line.nd rfl (by first | exact Or.inl rfl | exact Or.inr rfl)) pgs_nil))))
      (pss_cons (ps_if (PW.pt (pw_or (pt_not (pt_val (pe_fn D_is_integer hr (by decide) rfl (pa_cons (pv 1) pa_nil)))) (pw_or1 (pt_not (pt_chain u_le u_le pe_int (pv 1) (pe_gl T.c_MOST_DEPTH rfl))))))
      (pss_one (ps_ret pe_bl))
      pss_nil)
      (pss_cons (ps_if (PW.pt (pw_or (pt_not (pt_val (pe_callB (call_isD (K := K) rfl) rfl T.b_isinstance (by decide +kernel) (pa_cons (pv 2) (pa_cons (pe_ty (T := "tuple") rfl T.b_tuple (by decide +kernel)) pa_nil))))) (pw_or1 (pt_not (pt_chain u_le u_le pe_int (pe_callB (k_len (K := K) rfl) rfl T.b_len (by decide +kernel) (pa_cons (pv 2) pa_nil)) (pe_gl T.c_MOST_CELLS rfl))))))
      (pss_one (ps_ret pe_bl))
      pss_nil)
      (C8.pss_cut (ps_set (i := 3) sc_is_line.nd rfl (by first | exact Or.inl rfl | exact Or.inr rfl) (pe_ifExp (pt_cmpR (u_eq (K := K) rfl hr.units) (pe_callB (k_len (K := K) rfl) rfl T.b_len (by decide +kernel) (pa_cons (pv 2) pa_nil)) pe_int (nomark _)) (pe_gl T.c_MOST_ONLY_CELL_CHARACTERS rfl) (pe_gl T.c_MOST_CELL_CHARACTERS rfl)))
      (pss_one (ps_ret (pe_allL (own := [4]) (j := 4) hr rfl T.b_all (by decide +kernel) TB rfl (gok_by (N := n_is_line) (sc := defScope s_is_line) (by decide +kernel)) sc_is_line.nd rfl (by simp) (k_tup (K := K) rfl (pv 2)) (fun _ _ _ _ _ _ hr' => pts_nil) (fun _ _ _ _ _ _ hr' => (pe_fn D_is_cell hr' (by decide) rfl (pa_cons (pv 4) (pa_cons (pv 3) pa_nil)))))))))))), ?_⟩
  have no : ∀ H', Gr H H' → isLn d = false → Q (.bl false) H' := fun H' g e => e ▸ k H' g
  refine ⟨_, rfl, v, d, "tuple", rfl, hd, .inl rfl, _, rfl, ite2 (fun h1 => ?_) (fun h1 => ?_)⟩
  · refine no _ (Gr.refl H) ?_
    cases d <;> first | rfl | simp [isaD] at h1
  obtain ⟨ds, rfl⟩ := isTup_iff.mp (show isaD "tuple" d = true by simpa using h1)
  cases hd with
  | @tup a xs _ hS hA =>
    have hl := dd_len hA
    refine ⟨_, rfl, _, _, rfl, .inr ⟨_, hS, rfl⟩, n_flat rfl ⟨_, rfl, ite2 (fun h2 => ?_) (fun h2 => ?_)⟩⟩
    · refine no _ (Gr.refl H) ?_
      have h2 : ¬ (xs.length : Int) = 2 := fun z => by
        have q : (!decide (V.int xs.length = V.int 2)) = true := h2
        rw [z] at q
        simp at q
      unfold isLn
      split
      · rename_i e
        cases e
        exact absurd (by rw [hl]; rfl) h2
      · rfl
    obtain ⟨t, m, rfl⟩ := two_of hl h2
    cases hA with
    | @cons v1 _ _ _ a1 hA =>
      cases hA with
      | @cons v2 _ _ _ a2 hA =>
        cases hA
        have tl := (tx_tup hx).2
        refine ⟨_, rfl, a, _, rfl, hS, rfl, _, _, rfl, _, _, rfl, rfl, ?_⟩
        refine ⟨_, rfl, v1, t, rfl, a1, _, rfl, ite2 (fun h3 => ?_) (fun h3 => ?_)⟩
        · refine no _ (Gr.refl H) ?_
          cases t <;> first | rfl | simp [isIn] at h3
        obtain ⟨z, rfl⟩ := isIn_iff.mp (show isIn t = true by simpa using h3)
        cases a1
        -- the depth
        have dep : ¬ (0 ≤ z ∧ z ≤ 6) → isLn (.tuple [.int z, m]) = false := fun e => by
          cases m <;> first | rfl | skip
          show (decide (0 ≤ z ∧ z ≤ 6) && _) = false
          rw [decide_eq_false e]; rfl
        refine ⟨_, rfl, le_ii ⟨_, rfl, ite2 (fun h4 => ?_) (fun h4 => ⟨_, rfl, iteT (no _ (Gr.refl H) (dep fun e => h4 (decide_eq_true e.1)))⟩)⟩⟩
        have h4 : 0 ≤ z := of_decide_eq_true h4
        refine le_ii ⟨_, rfl, ?_⟩
        by_cases h5 : z ≤ 6
        rotate_left
        · rw [decide_eq_false h5]
          exact iteT (no _ (Gr.refl H) (dep fun e => h5 e.2))
        rw [decide_eq_true h5]
        refine iteF ?_
        -- the cells
        refine ⟨_, rfl, v2, m, "tuple", rfl, a2, .inl rfl, _, rfl, ite2 (fun h6 => ?_) (fun h6 => ?_)⟩
        · refine no _ (Gr.refl H) ?_
          cases m <;> first | rfl | simp [isaD] at h6
        obtain ⟨cs, rfl⟩ := isTup_iff.mp (show isaD "tuple" m = true by simpa using h6)
        have tcs := tx_tup (txA_mem tl (.tuple cs) (by simp))
        cases a2 with
        | @tup b ys _ hT hB =>
          have hm := dd_len hB
          have em : isLn (.tuple [.int z, .tuple cs]) = (decide (1 ≤ cs.length ∧ cs.length ≤ 12) && cs.all (isCl (mst cs))) := by
            show (decide (0 ≤ z ∧ z ≤ 6) && _) = _
            rw [decide_eq_true ⟨h4, h5⟩, Bool.true_and]
          have cel : ¬ (1 ≤ cs.length ∧ cs.length ≤ 12) → isLn (.tuple [.int z, .tuple cs]) = false := fun e => by
            rw [em, decide_eq_false e]; rfl
          refine ⟨_, rfl, _, _, rfl, .inr ⟨_, hT, rfl⟩, le_ii ⟨_, rfl, ite2 (fun h7 => ?_) (fun h7 => ⟨_, rfl, iteT (no _ (Gr.refl H) (cel fun e => h7 (decide_eq_true (by omega))))⟩)⟩⟩
          have h7 : 1 ≤ cs.length := by have := of_decide_eq_true h7; omega
          refine le_ii ⟨_, rfl, ?_⟩
          by_cases h8 : cs.length ≤ 12
          rotate_left
          · rw [decide_eq_false (by omega)]
            exact iteT (no _ (Gr.refl H) (cel fun e => h8 e.2))
          rw [decide_eq_true (by omega)]
          refine iteF ?_
          rw [decide_eq_true ⟨h7, h8⟩, Bool.true_and] at em
          refine ⟨fun σ H' => σ = [some (.ref a), some (.int z), some (.ref b), some (.int (mst cs)), none] ∧ H' = H, ?_, ?_⟩
          · refine ⟨_, rfl, _, _, rfl, .inr ⟨_, hT, rfl⟩, e_flat rfl ⟨_, rfl, ite2 (fun h9 => ?_) (fun h9 => ?_)⟩⟩
            · have h9 : cs.length = 1 := by
                simp at h9
                omega
              refine ⟨?_, rfl⟩
              unfold mst
              rw [if_pos h9]; rfl
            · have h9 : ¬ cs.length = 1 := by
                simp at h9
                omega
              refine ⟨?_, rfl⟩
              unfold mst
              rw [if_neg h9]; rfl
          · rintro σ H' ⟨rfl, rfl⟩
            refine ⟨_, rfl, b, rfl, ⟨_, hT⟩, tbs.l, fun H2 hTb => ?_⟩
            have g2 := Gr.tabb hTb
            refine all_walk (f := isCl (mst cs)) (g2.seqT hT) (g2.ddA _ _ hB) (fun i x d H' C hx2 hd dd2 g kk => ?_) fun H' g => em ▸ k _ (g2.trans g)
            exact ⟨_, rfl, _, rfl, x, d, mst cs, rfl, dd2, txA_mem tcs.2 d (List.mem_of_getElem? hd), tbs.gr (g2.trans g), kk⟩
theorem ok_content {fd : FuncData} (F : FnP K "is_content" s_is_content fd) (T : TC K mg) (TB : TBx K mg base "is_content") (D_is_line : Df P w K mg base "is_line" 8 p_is_line (spOf K isLn)) : FnOk P w K mg base CX0 10 (He.fAd K ("is_content", none)) fd p_is_content (spOf K isCt) := by
  refine okP F sc_is_content (fun vs H Q E h => by obtain ⟨v, d, rfl, _⟩ := h; rfl) (fun A outer s H vs Q E hr h => ?_)
  obtain ⟨v, d, rfl, hd, hx, tbs, k⟩ := h
  refine ⟨_, (pss_cons (ps_if (PW.pt (pw_or (pt_not (pt_val (pe_callB (call_isD (K := K) rfl) rfl T.b_isinstance (by decide +kernel) (pa_cons (pv 0) (pa_cons (pe_ty (T := "tuple") rfl T.b_tuple (by decide +kernel)) pa_nil))))) (pw_or1 (pt_not (pt_chain u_le u_le pe_int (pe_callB (k_len (K := K) rfl) rfl T.b_len (by decide +kernel) (pa_cons (pv 0) pa_nil)) (pe_gl T.c_MOST_LINES rfl))))))
      (pss_one (ps_ret pe_bl))
      pss_nil)
      (pss_one (ps_ret (pe_allL (own := [1]) (j := 1) hr rfl T.b_all (by decide +kernel) TB rfl (gok_by (N := n_is_content) (sc := defScope s_is_content) (by decide +kernel)) sc_is_content.nd rfl (by simp) (k_tup (K := K) rfl (pv 0)) (fun _ _ _ _ _ _ hr' => pts_nil) (fun _ _ _ _ _ _ hr' => (pe_fn D_is_line hr' (by decide) rfl (pa_cons (pv 1) pa_nil))))))), ?_⟩
  have no : ∀ H', Gr H H' → isCt d = false → Q (.bl false) H' := fun H' g e => e ▸ k H' g
  refine ⟨_, rfl, v, d, "tuple", rfl, hd, .inl rfl, _, rfl, ite2 (fun h1 => ?_) (fun h1 => ?_)⟩
  · refine no _ (Gr.refl H) ?_
    cases d <;> first | rfl | simp [isaD] at h1
  obtain ⟨cs, rfl⟩ := isTup_iff.mp (show isaD "tuple" d = true by simpa using h1)
  have tcs := tx_tup hx
  cases hd with
  | @tup b ys _ hT hB =>
    have hm := dd_len hB
    have cel : ¬ (1 ≤ cs.length ∧ cs.length ≤ 200) → isCt (.tuple cs) = false := fun e => by
      show (decide (1 ≤ cs.length ∧ cs.length ≤ 200) && _) = false
      rw [decide_eq_false e]; rfl
    refine ⟨_, rfl, _, _, rfl, .inr ⟨_, hT, rfl⟩, le_ii ⟨_, rfl, ite2 (fun h7 => ?_) (fun h7 => ⟨_, rfl, iteT (no _ (Gr.refl H) (cel fun e => h7 (decide_eq_true (by omega))))⟩)⟩⟩
    have h7 : 1 ≤ cs.length := by have := of_decide_eq_true h7; omega
    refine le_ii ⟨_, rfl, ?_⟩
    by_cases h8 : cs.length ≤ 200
    rotate_left
    · rw [decide_eq_false (by omega)]
      exact iteT (no _ (Gr.refl H) (cel fun e => h8 e.2))
    rw [decide_eq_true (by omega)]
    refine iteF ?_
    have em : isCt (.tuple cs) = cs.all isLn := by
      show (decide (1 ≤ cs.length ∧ cs.length ≤ 200) && _) = _
      rw [decide_eq_true ⟨h7, h8⟩, Bool.true_and]
    refine ⟨_, rfl, b, rfl, ⟨_, hT⟩, tbs.t, fun H2 hTb => ?_⟩
    have g2 := Gr.tabb hTb
    refine all_walk (f := isLn) (g2.seqT hT) (g2.ddA _ _ hB) (fun i x d H' C hx2 hd dd2 g kk => ?_) fun H' g => em ▸ k _ (g2.trans g)
    exact ⟨_, rfl, x, d, rfl, dd2, txA_mem tcs.2 d (List.mem_of_getElem? hd), tbs.gr (g2.trans g), kk⟩
end
end Vf
end
section
set_option Elab.async false
set_option linter.all false
set_option maxRecDepth 100000
set_option maxHeartbeats 4000000
namespace Vf
open PySem PySem.Spec PyProof.Rows L2 GxR GenW RZ
/-! ### how large data are -/
def okI : List Int := [-1, 0, 1, 2, 3, 4, 5, 6, 7, 8, 100000000000000000000]
def aS (x : Str) : Bool := x.cps.all (· < 128)
theorem aS_lay {x : Str} (h : aS x = true) : PyData.canLay0 (.str x) = true := by
  unfold aS at h
  simp only [PyData.canLay0, PyData.strOk]
  rw [← Array.all_toList, List.all_eq_true] at h ⊢
  intro c hc
  have q : c < 128 := by simpa using h c hc
  exact decide_eq_true (by omega)
/-- what is allowed within: lists, dicts, or neither (and small ints alone) -/
inductive Md | l | d | s
def Md.L : Md → Bool | .l => true | _ => false
def Md.D : Md → Bool | .d => true | _ => false
def Md.I : Md → List Int | .s => [0, 1, 2, 3, 4, 5, 6] | _ => okI
def Md.T : Md → Str → Bool | .s, x => aS x | _, x => PyData.canLay0 (.str x)
theorem Md.lay {m : Md} {x : Str} (h : m.T x = true) : PyData.canLay0 (.str x) = true := by
  cases m with
  | s => exact aS_lay h
  | _ => exact h
theorem Md.of {m : Md} {x : Str} (h : aS x = true) : m.T x = true := by
  cases m with
  | s => exact h
  | _ => exact aS_lay h
theorem Md.ok {m : Md} {i : Int} (h : i ∈ m.I) : i ∈ okI := by
  cases m with
  | l => exact h
  | d => exact h
  | s =>
    have h' : i ∈ ([0, 1, 2, 3, 4, 5, 6] : List Int) := h
    simp only [List.mem_cons, List.not_mem_nil, or_false] at h'
    rcases h' with rfl | rfl | rfl | rfl | rfl | rfl | rfl <;> decide
mutual
/-- an upper bound of the length of what repr shows -/
def sz : PyData → Nat
  | .none => 4
  | .bool _ => 5
  | .int _ => 40
  | .str x => 10 * x.length + 2
  | .list ds => szA ds + 3
  | .tuple ds => szA ds + 3
  | .dict _ => 2
def szA : List PyData → Nat
  | [] => 0
  | d :: ds => sz d + 2 + szA ds
end
mutual
/-- no lists (m false) or no dicts (m true) within; small ints; texts that can be laid -/
def fi (m : Md) : PyData → Bool
  | .none => true
  | .bool _ => true
  | .int i => decide (i ∈ m.I)
  | .str x => m.T x
  | .list ds => m.L && fiA m ds
  | .tuple ds => fiA m ds
  | .dict kvs => m.D && kvs.isEmpty
def fiA (m : Md) : List PyData → Bool
  | [] => true
  | d :: ds => fi m d && fiA m ds
end
theorem fiA_mem {m : Md} : ∀ {ds : List PyData}, fiA m ds = true ↔ ∀ d ∈ ds, fi m d = true
  | [] => by simp [fiA]
  | d :: ds => by
    show (fi m d && fiA m ds) = true ↔ _
    rw [Bool.and_eq_true, fiA_mem (ds := ds)]
    simp
theorem szA_app : ∀ xs ys : List PyData, szA (xs ++ ys) = szA xs + szA ys
  | [], ys => by simp [szA]
  | x :: xs, ys => by
    show sz x + 2 + szA (xs ++ ys) = sz x + 2 + szA xs + szA ys
    rw [szA_app xs ys]
    omega
theorem szA_len : ∀ ds : List PyData, ds.length ≤ szA ds
  | [] => Nat.le_refl _
  | d :: ds => by
    show ds.length + 1 ≤ sz d + 2 + szA ds
    have := szA_len ds
    omega
theorem okI_show : ∀ i ∈ okI, (toString i : Str).length ≤ 40 := by decide +kernel
theorem okI_log : ∀ i ∈ okI, i.natAbs.log2 < 1920 := by decide +kernel
theorem shown_str {x : Str} (h : PyData.canLay0 (.str x) = true) : (PyData.str x).shown.length ≤ 10 * x.length + 2 := by
  have q := StrLaws.reprText_len x fun c hc => by
    simp only [PyData.canLay0, PyData.strOk] at h
    rw [← Array.all_toList] at h
    have q2 := List.all_eq_true.mp h c hc
    have q3 : c < 0x110000 := by simpa using q2
    omega
  simp only [PyData.shown]
  exact q
mutual
theorem fi_show : ∀ (m : Md) (d : PyData), fi m d = true → d.showable = true ∧ d.shown.length ≤ sz d
  | _, .none, _ => ⟨by simp only [PyData.showable], by simp only [PyData.shown, sz]; decide⟩
  | _, .bool b, _ => ⟨by simp only [PyData.showable], by simp only [PyData.shown, sz]; cases b <;> decide⟩
  | _, .int i, h => by
    have h' : i ∈ okI := Md.ok (of_decide_eq_true h)
    exact ⟨by simp only [PyData.showable]; exact decide_eq_true (okI_log i h'), by simp only [PyData.shown, sz]; exact okI_show i h'⟩
  | _, .str x, h => ⟨by simp only [PyData.showable], by simp only [sz]; exact shown_str (Md.lay h)⟩
  | m, .list ds, h => by
    have h' : (m.L && fiA m ds) = true := h
    rw [Bool.and_eq_true] at h'
    obtain ⟨a, b, c⟩ := fiA_show m ds h'.2
    refine ⟨by simp only [PyData.showable]; exact a, ?_⟩
    simp only [PyData.shown, sz]
    have q := listText_len_le (PyData.shownAll ds)
    omega
  | m, .tuple ds, h => by
    obtain ⟨a, b, c⟩ := fiA_show m ds h
    refine ⟨by simp only [PyData.showable]; exact a, ?_⟩
    simp only [PyData.shown, sz]
    have q := tupleText_len_le (PyData.shownAll ds)
    omega
  | m, .dict kvs, h => by
    have h' : (m.D && kvs.isEmpty) = true := h
    rw [Bool.and_eq_true] at h'
    have e := List.isEmpty_iff.mp h'.2
    subst e
    exact ⟨rfl, by simp only [PyData.shown, PyData.shownKv, sz]; decide +kernel⟩
theorem fiA_show : ∀ (m : Md) (ds : List PyData), fiA m ds = true → PyData.showableAll ds = true ∧ ((PyData.shownAll ds).map (·.length)).sum + 2 * (PyData.shownAll ds).length ≤ szA ds ∧ (PyData.shownAll ds).length = ds.length
  | _, [], _ => ⟨rfl, Nat.le_refl _, rfl⟩
  | m, d :: ds, h => by
    have h' : (fi m d && fiA m ds) = true := h
    rw [Bool.and_eq_true] at h'
    obtain ⟨a, b⟩ := fi_show m d h'.1
    obtain ⟨a2, b2, c2⟩ := fiA_show m ds h'.2
    refine ⟨?_, ?_, ?_⟩
    · show (d.showable && PyData.showableAll ds) = true
      rw [a, a2]; rfl
    · show d.shown.length + ((PyData.shownAll ds).map (·.length)).sum + 2 * ((PyData.shownAll ds).length + 1) ≤ sz d + 2 + szA ds
      omega
    · show (PyData.shownAll ds).length + 1 = ds.length + 1
      rw [c2]
end
mutual
theorem fi_nd : ∀ d : PyData, fi .l d = true → d.hasDict = false
  | .none, _ => by simp only [PyData.hasDict]
  | .bool _, _ => by simp only [PyData.hasDict]
  | .int _, _ => by simp only [PyData.hasDict]
  | .str _, _ => by simp only [PyData.hasDict]
  | .list ds, h => by
    simp only [PyData.hasDict]
    have h' : (true && fiA .l ds) = true := h
    exact fiA_nd ds h'
  | .tuple ds, h => by
    simp only [PyData.hasDict]
    exact fiA_nd ds h
  | .dict kvs, h => by
    have h' : (false && kvs.isEmpty) = true := h
    cases h'
theorem fiA_nd : ∀ ds : List PyData, fiA .l ds = true → PyData.hasDictAll ds = false
  | [], _ => by simp only [PyData.hasDictAll]
  | d :: ds, h => by
    have h' : (fi .l d && fiA .l ds) = true := h
    rw [Bool.and_eq_true] at h'
    simp only [PyData.hasDictAll, fi_nd d h'.1, fiA_nd ds h'.2, Bool.or_self]
end
mutual
theorem fi_nl : ∀ d : PyData, fi .d d = true → noLst d = true
  | .none, _ => rfl
  | .bool _, _ => rfl
  | .int _, _ => rfl
  | .str _, _ => rfl
  | .list ds, h => by
    have h' : (false && fiA .d ds) = true := h
    cases h'
  | .tuple ds, h => fiA_nl ds h
  | .dict kvs, h => rfl
theorem fiA_nl : ∀ ds : List PyData, fiA .d ds = true → noLstA ds = true
  | [], _ => rfl
  | d :: ds, h => by
    have h' : (fi .d d && fiA .d ds) = true := h
    rw [Bool.and_eq_true] at h'
    show (noLst d && noLstA ds) = true
    rw [fi_nl d h'.1, fiA_nl ds h'.2]; rfl
end
mutual
theorem fi_tx : ∀ (m : Md) (d : PyData), fi m d = true → sz d ≤ 16000000 → tx d = true
  | _, .none, _, _ => rfl
  | _, .bool _, _, _ => rfl
  | _, .int _, _, _ => rfl
  | _, .str x, h, z => by
    have h' : PyData.canLay0 (.str x) = true := Md.lay h
    have z' : 10 * x.length + 2 ≤ 16000000 := z
    show (decide (x.length ≤ 16000000) && PyData.canLay0 (.str x)) = true
    rw [h', decide_eq_true (by omega)]; rfl
  | _, .list _, _, _ => rfl
  | m, .tuple ds, h, z => by
    have z' : szA ds + 3 ≤ 16000000 := z
    have q := szA_len ds
    show (decide (ds.length ≤ 16000000) && txA ds) = true
    rw [decide_eq_true (by omega), fiA_tx m ds h (by omega)]; rfl
  | _, .dict _, _, _ => rfl
theorem fiA_tx : ∀ (m : Md) (ds : List PyData), fiA m ds = true → szA ds ≤ 16000000 → txA ds = true
  | _, [], _, _ => rfl
  | m, d :: ds, h, z => by
    have h' : (fi m d && fiA m ds) = true := h
    have z' : sz d + 2 + szA ds ≤ 16000000 := z
    rw [Bool.and_eq_true] at h'
    show (tx d && txA ds) = true
    rw [fi_tx m d h'.1 (by omega), fiA_tx m ds h'.2 (by omega)]; rfl
end
/-- what the law may ask about -/
structure Ask (d : PyData) : Prop where
  hf : fi .l d = true ∨ fi .d d = true
  hz : sz d ≤ 16000000
  hp : d.depth ≤ 20
theorem Ask.tx {d : PyData} (h : Ask d) : tx d = true := by
  rcases h.hf with q | q
  · exact fi_tx _ d q h.hz
  · exact fi_tx _ d q h.hz
theorem Ask.four {d : PyData} (h : Ask d) : d.showable = true ∧ (d.hasDict = true → noLst d = true) ∧ d.depth < 60 ∧ d.shown.length ≤ sizeLine := by
  have := h.hz
  have := h.hp
  rcases h.hf with q | q
  · obtain ⟨a, b⟩ := fi_show _ d q
    refine ⟨a, fun z => ?_, by omega, by rw [sizeLine_eq]; omega⟩
    rw [fi_nd d q] at z
    cases z
  · obtain ⟨a, b⟩ := fi_show _ d q
    exact ⟨a, fun z => fi_nl d q, by omega, by rw [sizeLine_eq]; omega⟩
/-- clean data of a size: neither lists nor dicts within -/
structure Cl (b n : Nat) (d : PyData) : Prop where
  hf : ∀ m, fi m d = true
  hz : sz d ≤ b
  hp : d.depth ≤ n
theorem Cl.mono {b b' n n' : Nat} {d : PyData} (h : Cl b n d) (h1 : b ≤ b') (h2 : n ≤ n') : Cl b' n' d := ⟨h.hf, Nat.le_trans h.hz h1, Nat.le_trans h.hp h2⟩
theorem Cl.str {x : Str} {k : Nat} (h : x.length ≤ k) (hl : aS x = true) : Cl (10 * k + 2) 0 (.str x) := ⟨fun _ => Md.of hl, by show 10 * x.length + 2 ≤ _; omega, by simp only [PyData.depth]; omega⟩
theorem Cl.bl (b : Bool) : Cl 5 0 (.bool b) := ⟨fun _ => rfl, Nat.le_refl _, by simp only [PyData.depth]; omega⟩
theorem Cl.int {i : Int} (h : ∀ m : Md, i ∈ m.I) : Cl 40 0 (.int i) := ⟨fun m => decide_eq_true (h m), Nat.le_refl _, by simp only [PyData.depth]; omega⟩
theorem Cl.tup {ds : List PyData} {b n : Nat} (h1 : ∀ d ∈ ds, (∀ m, fi m d = true) ∧ d.depth ≤ n) (h2 : szA ds ≤ b) : Cl (b + 3) (n + 1) (.tuple ds) := by
  refine ⟨fun m => fiA_mem.mpr fun d hd => (h1 d hd).1 m, by show szA ds + 3 ≤ _; omega, ?_⟩
  have q := depAll_of (k := n) fun d hd => (h1 d hd).2
  simp only [PyData.depth]
  omega
theorem szA_le {k : Nat} : ∀ {ds : List PyData}, (∀ d ∈ ds, sz d ≤ k) → szA ds ≤ ds.length * (k + 2)
  | [], _ => Nat.zero_le _
  | d :: ds, h => by
    have q := szA_le (k := k) fun e he => h e (List.mem_cons_of_mem _ he)
    have q2 := h d List.mem_cons_self
    show sz d + 2 + szA ds ≤ (ds.length + 1) * (k + 2)
    rw [Nat.add_mul, Nat.one_mul]
    omega
theorem Cl.tups {ds : List PyData} {b n l : Nat} (h : ∀ d ∈ ds, Cl b n d) (hl : ds.length ≤ l) : Cl (l * (b + 2) + 3) (n + 1) (.tuple ds) :=
  Cl.tup (fun d hd => ⟨(h d hd).hf, (h d hd).hp⟩) (Nat.le_trans (szA_le fun d hd => (h d hd).hz) (Nat.mul_le_mul_right _ hl))
theorem Cl.ask {b n : Nat} {d : PyData} (h : Cl b n d) (h1 : b ≤ 16000000) (h2 : n ≤ 20) : Ask d := ⟨.inl (h.hf .l), Nat.le_trans h.hz h1, Nat.le_trans h.hp h2⟩
end Vf
end
section
set_option Elab.async false
set_option linter.all false
set_option maxRecDepth 100000
set_option maxHeartbeats 4000000
namespace Vf
open PySem PySem.Spec PyProof.Rows L2 GxR GenW RZ
/-! ### contents as characters with marks -/
abbrev cps (x : Str) : List Nat := x.cps.toList
theorem cps_app (a b : Str) : cps (a ++ b) = cps a ++ cps b := by
  show (a.cps ++ b.cps).toList = _
  rw [Array.toList_append]
theorem cps_inj {a b : Str} (h : cps a = cps b) : a = b := Str.ext' (Array.toList_inj.mp h)
theorem cps_len (a : Str) : (cps a).length = a.length := Array.length_toList
abbrev Mk3 : Type := Str × Bool × Bool
abbrev Pc : Type := Str × Mk3
abbrev Ch : Type := Nat × Mk3
abbrev Fc : Type := List Ch
abbrev Fln : Type := Nat × List Fc
abbrev Fm : Type := List Fln
def chS (c : Nat) : Str := ⟨#[c]⟩
def putp (c : List Pc) (p : Pc) : List Pc := match c.getLast? with
  | some q => if q.2 = p.2 then c.dropLast ++ [(q.1 ++ p.1, p.2)] else c ++ [p]
  | none => [p]
theorem putp_nil (p : Pc) : putp [] p = [p] := rfl
theorem putp_snoc (c : List Pc) (q p : Pc) : putp (c ++ [q]) p = if q.2 = p.2 then c ++ [(q.1 ++ p.1, p.2)] else c ++ [q] ++ [p] := by
  unfold putp
  rw [List.getLast?_concat, List.dropLast_concat]
theorem snoc_cases {α : Type} (c : List α) : c = [] ∨ ∃ d q, c = d ++ [q] := by
  by_cases h : c = []
  · exact .inl h
  · exact .inr ⟨c.dropLast, c.getLast h, (List.dropLast_concat_getLast h).symm⟩
def fl (ps : List Pc) : Fc := ps.flatMap fun p => (cps p.1).map fun c => (c, p.2)
theorem fl_app (a b : List Pc) : fl (a ++ b) = fl a ++ fl b := List.flatMap_append
theorem fl_one (p : Pc) : fl [p] = (cps p.1).map fun c => (c, p.2) := by simp [fl]
theorem fl_put (c : List Pc) (p : Pc) : fl (putp c p) = fl c ++ fl [p] := by
  rcases snoc_cases c with rfl | ⟨d, q, rfl⟩
  · rfl
  · rw [putp_snoc]
    split
    · rename_i e
      rw [fl_app, fl_app, fl_one, fl_one, fl_one, cps_app, List.map_append, List.append_assoc, e]
    · rw [fl_app]
def stepC (c : List Pc) (x : Ch) : List Pc := putp c (chS x.1, x.2)
def cn (xs : Fc) : List Pc := xs.foldl stepC []
theorem put_put (c : List Pc) (s t : Str) (m : Mk3) : putp (putp c (s, m)) (t, m) = putp c (s ++ t, m) := by
  rcases snoc_cases c with rfl | ⟨d, q, rfl⟩
  · rw [putp_nil, putp_nil, show [(s, m)] = ([] : List Pc) ++ [(s, m)] from rfl, putp_snoc, if_pos rfl]; rfl
  · rw [putp_snoc, putp_snoc]
    split
    · rw [putp_snoc, if_pos rfl]
      have e : q.1 ++ s ++ t = q.1 ++ (s ++ t) := cps_inj (by rw [cps_app, cps_app, cps_app, cps_app, List.append_assoc])
      show d ++ [(q.1 ++ s ++ t, m)] = _
      rw [e]
    · rw [putp_snoc, if_pos rfl]
theorem text_fold (m : Mk3) : ∀ (l : List Nat) (c : List Pc) (s : Str), (l.map fun a => ((a, m) : Ch)).foldl stepC (putp c (s, m)) = putp c (s ++ ⟨l.toArray⟩, m)
  | [], c, s => by
    have e : s ++ (⟨([] : List Nat).toArray⟩ : Str) = s := cps_inj (by rw [cps_app]; show cps s ++ [] = _; rw [List.append_nil])
    rw [e]; rfl
  | a :: l, c, s => by
    have e : s ++ chS a ++ (⟨l.toArray⟩ : Str) = s ++ (⟨(a :: l).toArray⟩ : Str) := cps_inj (by rw [cps_app, cps_app, cps_app, List.append_assoc]; rfl)
    rw [List.map_cons, List.foldl_cons, show stepC (putp c (s, m)) (a, m) = putp c (s ++ chS a, m) from put_put _ _ _ _, text_fold m l c, e]
theorem put_fold {p : Pc} (h : cps p.1 ≠ []) (c : List Pc) : (fl [p]).foldl stepC c = putp c p := by
  rw [fl_one]
  obtain ⟨a, l, e⟩ : ∃ a l, cps p.1 = a :: l := by
    cases q : cps p.1 with
    | nil => exact absurd q h
    | cons a l => exact ⟨a, l, rfl⟩
  rw [e, List.map_cons, List.foldl_cons]
  have e2 : chS a ++ (⟨l.toArray⟩ : Str) = p.1 := cps_inj (by rw [cps_app, e]; rfl)
  show (l.map fun b => ((b, p.2) : Ch)).foldl stepC (putp c (chS a, p.2)) = _
  rw [text_fold, e2]
theorem jn_fold : ∀ (ps : List Pc) (c : List Pc), (∀ p ∈ ps, cps p.1 ≠ []) → ps.foldl putp c = (fl ps).foldl stepC c
  | [], _, _ => rfl
  | p :: ps, c, h => by
    rw [List.foldl_cons, jn_fold ps _ fun q hq => h q (List.mem_cons_of_mem _ hq), show fl (p :: ps) = fl [p] ++ fl ps from fl_app [p] ps, List.foldl_append, put_fold (h p List.mem_cons_self)]
theorem jn_cn {ps : List Pc} (h : ∀ p ∈ ps, cps p.1 ≠ []) : ps.foldl putp [] = cn (fl ps) := jn_fold ps [] h
theorem fl_fold : ∀ (xs : Fc) (c : List Pc), fl (xs.foldl stepC c) = fl c ++ xs
  | [], c => (List.append_nil _).symm
  | x :: xs, c => by
    rw [List.foldl_cons, fl_fold xs, show stepC c x = putp c (chS x.1, x.2) from rfl, fl_put, List.append_assoc]; rfl
theorem fl_cn (xs : Fc) : fl (cn xs) = xs := fl_fold xs []
theorem put_ne {c : List Pc} {p : Pc} (h : ∀ q ∈ c, cps q.1 ≠ []) (hp : cps p.1 ≠ []) : ∀ q ∈ putp c p, cps q.1 ≠ [] := by
  rcases snoc_cases c with rfl | ⟨d, r, rfl⟩
  · rw [putp_nil]
    intro q hq
    rw [List.mem_singleton] at hq
    rw [hq]; exact hp
  · rw [putp_snoc]
    intro q hq
    split at hq
    · rcases List.mem_append.mp hq with z | z
      · exact h q (List.mem_append_left _ z)
      · rw [List.mem_singleton] at z
        rw [z, cps_app]
        exact fun e => hp (List.append_eq_nil_iff.mp e).2
    · rcases List.mem_append.mp hq with z | z
      · exact h q z
      · rw [List.mem_singleton] at z
        rw [z]; exact hp
theorem fold_ne : ∀ (xs : Fc) (c : List Pc), (∀ q ∈ c, cps q.1 ≠ []) → ∀ q ∈ xs.foldl stepC c, cps q.1 ≠ []
  | [], _, h => h
  | x :: xs, c, h => fold_ne xs _ (put_ne h (by show [x.1] ≠ []; simp))
theorem cn_ne (xs : Fc) : ∀ q ∈ cn xs, cps q.1 ≠ [] := fold_ne xs [] (by simp)
theorem cn_in {xs : Fc} {p : Pc} (h : p ∈ cn xs) {c : Nat} (hc : c ∈ cps p.1) : (c, p.2) ∈ xs := by
  have e := fl_cn xs
  rw [← e]
  exact List.mem_flatMap.mpr ⟨p, h, List.mem_map.mpr ⟨c, hc, rfl⟩⟩
theorem cn_mk {xs : Fc} {p : Pc} (h : p ∈ cn xs) : ∃ c, (c, p.2) ∈ xs := by
  have q := cn_ne xs p h
  cases e : cps p.1 with
  | nil => exact absurd e q
  | cons c l => exact ⟨c, cn_in h (by rw [e]; simp)⟩
/-! neighbours' marks differ -/
def Adj (c : List Pc) : Prop := ∀ i p q, c[i]? = some p → c[i + 1]? = some q → p.2 ≠ q.2
theorem adj_snoc {c : List Pc} {p : Pc} (h : Adj c) (hl : ∀ q, c.getLast? = some q → q.2 ≠ p.2) : Adj (c ++ [p]) := by
  intro i a b ha hb
  have hb2 := (List.getElem?_eq_some_iff.mp hb).1
  rw [List.length_append, List.length_singleton] at hb2
  rw [List.getElem?_append_left (by omega)] at ha
  by_cases e : i + 1 < c.length
  · rw [List.getElem?_append_left e] at hb
    exact h i a b ha hb
  · have e2 : i + 1 = c.length := by omega
    rw [List.getElem?_append_right (by omega), e2, Nat.sub_self] at hb
    cases hb
    refine hl a ?_
    rw [List.getLast?_eq_getElem?, ← e2]
    exact ha
theorem adj_pre {c d : List Pc} (h : Adj (c ++ d)) : Adj c := fun i p q hp hq => h i p q (by rw [List.getElem?_append_left (List.getElem?_eq_some_iff.mp hp).1]; exact hp) (by rw [List.getElem?_append_left (List.getElem?_eq_some_iff.mp hq).1]; exact hq)
theorem adj_put {c : List Pc} {p : Pc} (h : Adj c) : Adj (putp c p) := by
  rcases snoc_cases c with rfl | ⟨d, r, rfl⟩
  · rw [putp_nil]
    intro i a b ha hb
    simp at hb
  · rw [putp_snoc]
    split
    · rename_i e
      refine adj_snoc (adj_pre h) fun q hq => ?_
      show q.2 ≠ p.2
      rw [← e]
      rw [List.getLast?_eq_getElem?] at hq
      have hi := (List.getElem?_eq_some_iff.mp hq).1
      refine h (d.length - 1) q r (by rw [List.getElem?_append_left hi]; exact hq) ?_
      rw [show d.length - 1 + 1 = d.length by omega, List.getElem?_append_right (Nat.le_refl _), Nat.sub_self]; rfl
    · rename_i e
      refine adj_snoc h fun q hq => ?_
      rw [List.getLast?_concat] at hq
      cases hq
      exact e
theorem adj_fold : ∀ (xs : Fc) (c : List Pc), Adj c → Adj (xs.foldl stepC c)
  | [], _, h => h
  | x :: xs, c, h => adj_fold xs _ (adj_put h)
theorem cn_adj (xs : Fc) : Adj (cn xs) := adj_fold xs [] fun i p q h => by simp at h
/-! ### the data -/
def mkD (m : Mk3) : PyData := .tuple [.str m.1, .bool m.2.1, .bool m.2.2]
def pcD (p : Pc) : PyData := .tuple [.str p.1, mkD p.2]
def ceD (xs : Fc) : PyData := .tuple ((cn xs).map pcD)
def liD (l : Fln) : PyData := .tuple [.int (l.1 : Nat), .tuple (l.2.map ceD)]
def coD (m : Fm) : PyData := .tuple (m.map liD)
/-! ### dropping -/
abbrev Drp : Type := Str → Bool
def NO : Mk3 := ("", false, false)
def um (s : Drp) (m : Mk3) : Mk3 := (if s "link" then "" else m.1, m.2.1 && !s "bold", m.2.2 && !s "slant")
def umC (s : Drp) (xs : Fc) : Fc := xs.map fun x => (x.1, um s x.2)
def gl : List Fc → Fc
  | [] => []
  | x :: r => x ++ r.flatMap fun c => (32, NO) :: c
def opL (s : Drp) (l : Fln) : Fln := (if s "nest" then 0 else l.1, if s "cells" then [gl (l.2.map (umC s))] else l.2.map (umC s))
def op (s : Drp) (m : Fm) : Fm := m.map (opL s)
def orD (s t : Drp) : Drp := fun f => s f || t f
theorem um_um (s t : Drp) (m : Mk3) : um s (um t m) = um (orD s t) m := by
  obtain ⟨l, b, c⟩ := m
  unfold um orD
  cases s "link" <;> cases t "link" <;> cases s "bold" <;> cases t "bold" <;> cases s "slant" <;> cases t "slant" <;> simp
theorem um_NO (s : Drp) : um s NO = NO := by
  unfold um NO
  cases s "link" <;> simp
theorem umC_umC (s t : Drp) (xs : Fc) : umC s (umC t xs) = umC (orD s t) xs := by
  unfold umC
  rw [List.map_map]
  refine List.map_congr_left fun x _ => ?_
  show (x.1, um s (um t x.2)) = _
  rw [um_um]
theorem umC_app (s : Drp) (a b : Fc) : umC s (a ++ b) = umC s a ++ umC s b := List.map_append
theorem umC_flat (s : Drp) : ∀ r : List Fc, umC s (r.flatMap fun c => (32, NO) :: c) = (r.map (umC s)).flatMap fun c => (32, NO) :: c
  | [] => rfl
  | c :: r => by
    rw [List.flatMap_cons, umC_app, umC_flat s r, List.map_cons, List.flatMap_cons]
    show ((32, um s NO) :: umC s c) ++ _ = _
    rw [um_NO]
theorem umC_gl (s : Drp) : ∀ cs : List Fc, umC s (gl cs) = gl (cs.map (umC s))
  | [] => rfl
  | x :: r => by
    show umC s (x ++ _) = umC s x ++ _
    rw [umC_app, umC_flat]
theorem gl_one (x : Fc) : gl [x] = x := List.append_nil x
theorem opL_opL (s t : Drp) (l : Fln) : opL s (opL t l) = opL (orD s t) l := by
  have e1 : (l.2.map (umC t)).map (umC s) = l.2.map (umC (orD s t)) := by
    rw [List.map_map]
    exact List.map_congr_left fun x _ => umC_umC s t x
  have e2 : ([gl (l.2.map (umC t))].map (umC s)) = [gl (l.2.map (umC (orD s t)))] := by
    show [umC s _] = _
    rw [umC_gl, e1]
  unfold opL
  refine Prod.ext ?_ ?_
  · show (if s "nest" = true then 0 else if t "nest" = true then 0 else l.1) = if (s "nest" || t "nest") = true then 0 else l.1
    cases s "nest" <;> cases t "nest" <;> rfl
  · show (if s "cells" = true then _ else _) = if (s "cells" || t "cells") = true then _ else _
    cases hs : s "cells" <;> cases ht : t "cells" <;> simp only [Bool.false_eq_true, if_false, if_true, Bool.or_false, Bool.or_true, Bool.or_self]
    · exact e1
    · exact e2
    · rw [e1]
    · rw [e2, gl_one]
theorem op_op (s t : Drp) (m : Fm) : op s (op t m) = op (orD s t) m := by
  unfold op
  rw [List.map_map]
  exact List.map_congr_left fun l _ => opL_opL s t l
def five : List Str := ["cells", "nest", "link", "bold", "slant"]
theorem op_congr {s t : Drp} (h : ∀ f ∈ five, s f = t f) (m : Fm) : op s m = op t m := by
  have h1 := h "cells" (by simp [five])
  have h2 := h "nest" (by simp [five])
  have h3 := h "link" (by simp [five])
  have h4 := h "bold" (by simp [five])
  have h5 := h "slant" (by simp [five])
  have e : um s = um t := by
    funext m
    unfold um
    rw [h3, h4, h5]
  have e2 : umC s = umC t := by
    funext xs
    unfold umC
    rw [e]
  have e3 : opL s = opL t := by
    funext l
    unfold opL
    rw [h1, h2, e2]
  unfold op
  rw [e3]
def none5 : Drp := fun _ => false
theorem um_none (m : Mk3) : um none5 m = m := by
  obtain ⟨l, b, c⟩ := m
  simp [um, none5]
theorem umC_none (xs : Fc) : umC none5 xs = xs := by
  unfold umC
  conv => rhs; rw [← List.map_id xs]
  refine List.map_congr_left fun x _ => ?_
  rw [um_none]; rfl
theorem op_none (m : Fm) : op none5 m = m := by
  unfold op
  conv => rhs; rw [← List.map_id m]
  refine List.map_congr_left fun l _ => ?_
  obtain ⟨d, cs⟩ := l
  show (if false = true then 0 else d, if false = true then _ else cs.map (umC none5)) = _
  have e : cs.map (umC none5) = cs := by
    conv => rhs; rw [← List.map_id cs]
    exact List.map_congr_left fun x _ => umC_none x
  rw [e]; rfl
def one (f : Str) : Drp := fun g => decide (g = f)
/-! ### what stands of a content -/
def LK4 : List Str := ["", "w", "w1", "abcdefghijk9"]
theorem LK4_ok : ∀ l ∈ LK4, l.length ≤ 12 ∧ aS l = true ∧ (eS (.str l) || isWd (.str l)) = true := by decide +kernel
def OkC (xs : Fc) : Prop := ∀ x ∈ xs, 32 ≤ x.1 ∧ x.1 ≤ 126 ∧ x.2.1 ∈ LK4
structure OkLn (l : Fln) : Prop where
  d : l.1 ≤ 6
  c1 : 1 ≤ l.2.length
  c12 : l.2.length ≤ 12
  g : (gl l.2).length ≤ 491
  s : l.2.length = 1 ∨ ∀ xs ∈ l.2, xs.length ≤ 40
  c : ∀ xs ∈ l.2, OkC xs
structure OkF (m : Fm) : Prop where
  l1 : 1 ≤ m.length
  l2 : m.length ≤ 200
  l : ∀ x ∈ m, OkLn x
theorem OkC.um {xs : Fc} (h : OkC xs) (s : Drp) : OkC (umC s xs) := by
  intro x hx
  obtain ⟨y, hy, rfl⟩ := List.mem_map.mp hx
  obtain ⟨a, b, c⟩ := h y hy
  refine ⟨a, b, ?_⟩
  show (if s "link" = true then ("" : Str) else y.2.1) ∈ LK4
  split
  · simp [LK4]
  · exact c
theorem OkC.gl {cs : List Fc} (h : ∀ xs ∈ cs, OkC xs) : OkC (gl cs) := by
  cases cs with
  | nil => intro x hx; cases hx
  | cons y r =>
    intro x hx
    rcases List.mem_append.mp hx with z | z
    · exact h y List.mem_cons_self x z
    · obtain ⟨c, hc, z⟩ := List.mem_flatMap.mp z
      rcases List.mem_cons.mp z with rfl | z
      · exact ⟨by decide, by decide, by simp [NO, LK4]⟩
      · exact h c (List.mem_cons_of_mem _ hc) x z
theorem umC_len (s : Drp) (xs : Fc) : (umC s xs).length = xs.length := List.length_map _
theorem gl_um_len (s : Drp) (cs : List Fc) : (gl (cs.map (umC s))).length = (gl cs).length := by rw [← umC_gl, umC_len]
theorem OkLn.op {l : Fln} (h : OkLn l) (s : Drp) : OkLn (opL s l) := by
  have hc : ∀ xs ∈ l.2.map (umC s), OkC xs := fun xs hx => by
    obtain ⟨y, hy, rfl⟩ := List.mem_map.mp hx
    exact (h.c y hy).um s
  have hd : (if s "nest" = true then 0 else l.1) ≤ 6 := by
    split
    · omega
    · exact h.d
  cases e : s "cells" with
  | true =>
    have e2 : opL s l = (if s "nest" = true then 0 else l.1, [Vf.gl (l.2.map (umC s))]) := by unfold opL; rw [e]; rfl
    rw [e2]
    refine ⟨hd, Nat.le_refl _, by show 1 ≤ 12; decide, ?_, .inl rfl, fun xs hx => ?_⟩
    · show (Vf.gl [_]).length ≤ 491
      rw [gl_one, gl_um_len]
      exact h.g
    · rw [List.mem_singleton] at hx
      rw [hx]
      exact OkC.gl hc
  | false =>
    have e2 : opL s l = (if s "nest" = true then 0 else l.1, l.2.map (umC s)) := by unfold opL; rw [e]; rfl
    rw [e2]
    refine ⟨hd, by rw [List.length_map]; exact h.c1, by rw [List.length_map]; exact h.c12, by rw [gl_um_len]; exact h.g, ?_, hc⟩
    rcases h.s with z | z
    · exact .inl (by rw [List.length_map]; exact z)
    · refine .inr fun xs hx => ?_
      obtain ⟨y, hy, rfl⟩ := List.mem_map.mp hx
      rw [umC_len]
      exact z y hy
theorem OkF.op {m : Fm} (h : OkF m) (s : Drp) : OkF (op s m) := ⟨by unfold Vf.op; rw [List.length_map]; exact h.l1, by unfold Vf.op; rw [List.length_map]; exact h.l2, fun x hx => by
  obtain ⟨y, hy, rfl⟩ := List.mem_map.mp hx
  exact (h.l y hy).op s⟩
theorem flatten_rep {α β : Type} (f : α → β) (m : List α) : ∀ k, (List.replicate k m).flatten.map f = (List.replicate k (m.map f)).flatten
  | 0 => rfl
  | k + 1 => by rw [List.replicate_succ, List.flatten_cons, List.map_append, flatten_rep f m k, List.replicate_succ, List.flatten_cons]
theorem flatten_rep_len {α : Type} (m : List α) : ∀ k, (List.replicate k m).flatten.length = k * m.length
  | 0 => by simp
  | k + 1 => by rw [List.replicate_succ, List.flatten_cons, List.length_append, flatten_rep_len m k, Nat.add_mul, Nat.one_mul, Nat.add_comm]
theorem op_rep (s : Drp) (m : Fm) (k : Nat) : op s (List.replicate k m).flatten = (List.replicate k (op s m)).flatten := flatten_rep _ _ _
theorem OkF.rep {m : Fm} (h : OkF m) {k : Nat} (h1 : 1 ≤ k) (h2 : k * m.length ≤ 200) : OkF (List.replicate k m).flatten := ⟨by rw [flatten_rep_len]; exact Nat.mul_le_mul h1 h.l1, by rw [flatten_rep_len]; exact h2, fun x hx => by
  obtain ⟨l, hl, hx⟩ := List.mem_flatten.mp hx
  rw [(List.mem_replicate.mp hl).2] at hx
  exact h.l x hx⟩
end Vf
end
section
set_option Elab.async false
set_option linter.all false
set_option maxRecDepth 100000
set_option maxHeartbeats 4000000
namespace Vf
open PySem PySem.Spec PyProof.Rows L2 GxR GenW RZ
/-! ### how large contents are -/
theorem aS_of {x : Str} (h : ∀ c ∈ cps x, c < 128) : aS x = true := by
  unfold aS
  rw [← Array.all_toList, List.all_eq_true]
  exact fun c hc => decide_eq_true (h c hc)
theorem OkC.as {xs : Fc} (h : OkC xs) {p : Pc} (hp : p ∈ cn xs) : aS p.1 = true := aS_of fun c hc => by
  have := (h _ (cn_in hp hc)).2.1
  have q : c ≤ 126 := this
  omega
theorem OkC.mk {xs : Fc} (h : OkC xs) {p : Pc} (hp : p ∈ cn xs) : p.2.1 ∈ LK4 := by
  obtain ⟨c, hc⟩ := cn_mk hp
  exact (h _ hc).2.2
theorem cl_mk {m : Mk3} (h : m.1 ∈ LK4) : Cl 141 1 (mkD m) := by
  obtain ⟨h1, h2, _⟩ := LK4_ok _ h
  refine Cl.tup (b := 138) (n := 0) (fun d hd => ?_) (by show 10 * m.1.length + 2 + 2 + (5 + 2 + (5 + 2 + 0)) ≤ 138; omega)
  simp only [List.mem_cons, List.not_mem_nil, or_false] at hd
  rcases hd with rfl | rfl | rfl
  · exact ⟨(Cl.str h1 h2).hf, (Cl.str h1 h2).hp⟩
  · exact ⟨(Cl.bl _).hf, (Cl.bl _).hp⟩
  · exact ⟨(Cl.bl _).hf, (Cl.bl _).hp⟩
theorem cl_pc {p : Pc} (h : p.2.1 ∈ LK4) (ha : aS p.1 = true) : Cl (10 * p.1.length + 147 + 3) 2 (pcD p) := by
  have q := cl_mk h
  have q1 := Cl.str (Nat.le_refl _) ha
  refine Cl.tup (n := 1) (fun d hd => ?_) (by have := q.hz; show 10 * p.1.length + 2 + 2 + (sz (mkD p.2) + 2 + 0) ≤ _; omega)
  simp only [List.mem_cons, List.not_mem_nil, or_false] at hd
  rcases hd with rfl | rfl
  · exact ⟨q1.hf, by have := q1.hp; omega⟩
  · exact ⟨q.hf, q.hp⟩
theorem szA_pcs : ∀ ps : List Pc, (∀ p ∈ ps, cps p.1 ≠ [] ∧ p.2.1 ∈ LK4 ∧ aS p.1 = true) → szA (ps.map pcD) ≤ 162 * (fl ps).length
  | [], _ => Nat.zero_le _
  | p :: ps, h => by
    obtain ⟨h1, h2, h3⟩ := h p List.mem_cons_self
    have ih := szA_pcs ps fun q hq => h q (List.mem_cons_of_mem _ hq)
    have q := (cl_pc h2 h3).hz
    have e : (fl (p :: ps)).length = p.1.length + (fl ps).length := by
      rw [show fl (p :: ps) = fl [p] ++ fl ps from fl_app [p] ps, List.length_append, fl_one, List.length_map, cps_len]
    have l1 : 1 ≤ p.1.length := by
      rw [← cps_len]
      exact List.length_pos_iff.mpr h1
    show sz (pcD p) + 2 + szA (ps.map pcD) ≤ _
    rw [e]
    omega
theorem cl_ce {xs : Fc} (h : OkC xs) : Cl (162 * xs.length + 3) 3 (ceD xs) := by
  refine Cl.tup (n := 2) (fun d hd => ?_) ?_
  · obtain ⟨p, hp, rfl⟩ := List.mem_map.mp hd
    have q := cl_pc (h.mk hp) (h.as hp)
    exact ⟨q.hf, q.hp⟩
  · have q := szA_pcs (cn xs) fun p hp => ⟨cn_ne xs p hp, h.mk hp, h.as hp⟩
    rw [fl_cn] at q
    exact q
theorem szA_rest : ∀ r : List Fc, (∀ xs ∈ r, OkC xs) → szA (r.map ceD) ≤ 162 * (r.flatMap fun c => (32, NO) :: c).length
  | [], _ => Nat.zero_le _
  | c :: r, h => by
    have ih := szA_rest r fun q hq => h q (List.mem_cons_of_mem _ hq)
    have q := (cl_ce (h c List.mem_cons_self)).hz
    rw [List.flatMap_cons, List.length_append, List.length_cons]
    show sz (ceD c) + 2 + szA (r.map ceD) ≤ _
    omega
theorem szA_gl {cs : List Fc} (h : ∀ xs ∈ cs, OkC xs) : szA (cs.map ceD) ≤ 162 * (gl cs).length + 5 := by
  cases cs with
  | nil => exact Nat.zero_le _
  | cons c r =>
    have ih := szA_rest r fun q hq => h q (List.mem_cons_of_mem _ hq)
    have q := (cl_ce (h c List.mem_cons_self)).hz
    show sz (ceD c) + 2 + szA (r.map ceD) ≤ 162 * (c ++ _).length + 5
    rw [List.length_append]
    omega
theorem int_all {i : Nat} (h : i ≤ 6) : ∀ m : Md, ((i : Nat) : Int) ∈ m.I := by
  have q : ∀ j : Fin 7, ((j.val : Nat) : Int) ∈ okI ∧ ((j.val : Nat) : Int) ∈ ([0, 1, 2, 3, 4, 5, 6] : List Int) := by decide +kernel
  intro m
  obtain ⟨a, b⟩ := q ⟨i, by omega⟩
  cases m
  · exact a
  · exact a
  · exact b
theorem cl_cells {cs : List Fc} (h : ∀ xs ∈ cs, OkC xs) : Cl (162 * (gl cs).length + 8) 4 (.tuple (cs.map ceD)) := by
  refine Cl.tup (n := 3) (fun d hd => ?_) (szA_gl h)
  obtain ⟨c, hc, rfl⟩ := List.mem_map.mp hd
  have q := cl_ce (h c hc)
  exact ⟨q.hf, q.hp⟩
theorem cl_li {l : Fln} (h : OkLn l) : Cl 79597 5 (liD l) := by
  have q := cl_cells h.c
  have q1 := Cl.int (int_all h.d)
  have hg := h.g
  refine Cl.tup (b := 79594) (n := 4) (fun d hd => ?_) (by have := q.hz; show 40 + 2 + (sz (.tuple (l.2.map ceD)) + 2 + 0) ≤ _; omega)
  simp only [List.mem_cons, List.not_mem_nil, or_false] at hd
  rcases hd with rfl | rfl
  · exact ⟨q1.hf, by have := q1.hp; omega⟩
  · exact ⟨q.hf, q.hp⟩
theorem cl_co {m : Fm} (h : OkF m) : Cl 15919803 6 (coD m) := by
  refine Cl.mono (Cl.tups (l := 200) (b := 79597) (n := 5) (fun d hd => ?_) (by rw [List.length_map]; exact h.l2)) (by decide) (Nat.le_refl _)
  obtain ⟨l, hl, rfl⟩ := List.mem_map.mp hd
  exact cl_li (h.l l hl)
theorem OkF.ask {m : Fm} (h : OkF m) : Ask (coD m) := (cl_co h).ask (by decide) (by decide)
theorem OkF.tx {m : Fm} (h : OkF m) : Vf.tx (coD m) = true := h.ask.tx
mutual
theorem tx_lay : ∀ d : PyData, (∀ m, fi m d = true) → PyData.canLay0 d = true
  | .none, _ => rfl
  | .bool _, _ => rfl
  | .int _, _ => rfl
  | .str x, h => Md.lay (m := .l) (h .l)
  | .list ds, h => by
    have h' : (false && fiA .d ds) = true := h .d
    cases h'
  | .tuple ds, h => by
    show PyData.canLayAll0 ds = true
    exact txA_lay ds h
  | .dict kvs, h => by
    have h' : (false && kvs.isEmpty) = true := h .l
    cases h'
theorem txA_lay : ∀ ds : List PyData, (∀ m, fiA m ds = true) → PyData.canLayAll0 ds = true
  | [], _ => rfl
  | d :: ds, h => by
    have h1 : ∀ m, fi m d = true ∧ fiA m ds = true := fun m => Bool.and_eq_true_iff.mp (show (fi m d && fiA m ds) = true from h m)
    show (PyData.canLay0 d && PyData.canLayAll0 ds) = true
    rw [tx_lay d fun m => (h1 m).1, txA_lay ds fun m => (h1 m).2]; rfl
end
theorem Cl.lay {b n : Nat} {d : PyData} (h : Cl b n d) : PyData.canLay0 d = true := tx_lay d h.hf
theorem Cl.shaped {b n : Nat} {d : PyData} (h : Cl b n d) (h2 : n ≤ 64) : SeqAt.shaped d = true := by
  have := h.hp
  unfold SeqAt.shaped
  rw [h.lay, decide_eq_true (by omega)]; rfl
theorem Cl.dp {b n : Nat} {d : PyData} (h : Cl b n d) {K : PySem.W.Frag} {H : Hp} {v : V} (hd : Dd K H v d) : Dp K H v d := dp_dd d v hd h.lay
mutual
theorem eqv_refl : ∀ d : PyData, PyData.canLay0 d = true → PyData.eqv d d = true
  | .none, _ => rfl
  | .bool b, _ => by cases b <;> rfl
  | .int i, _ => by show (i == i) = true; exact beq_self_eq_true i
  | .str x, _ => by show (x == x) = true; exact beq_self_eq_true x
  | .list ds, h => eqvA_refl ds h
  | .tuple ds, h => eqvA_refl ds h
  | .dict kvs, h => by
    simp only [PyData.canLay0] at h
    cases h
theorem eqvA_refl : ∀ ds : List PyData, PyData.canLayAll0 ds = true → PyData.eqvAll ds ds = true
  | [], _ => rfl
  | d :: ds, h => by
    have h' : (PyData.canLay0 d && PyData.canLayAll0 ds) = true := h
    rw [Bool.and_eq_true] at h'
    show (PyData.eqv d d && PyData.eqvAll ds ds) = true
    rw [eqv_refl d h'.1, eqvA_refl ds h'.2]; rfl
end
theorem eqvA_app : ∀ {a c b d : List PyData}, a.length = c.length → PyData.eqvAll (a ++ b) (c ++ d) = (PyData.eqvAll a c && PyData.eqvAll b d)
  | [], [], b, d, _ => by show _ = (true && _); rw [Bool.true_and]; rfl
  | x :: a, y :: c, b, d, h => by
    show (PyData.eqv x y && PyData.eqvAll (a ++ b) (c ++ d)) = ((PyData.eqv x y && PyData.eqvAll a c) && _)
    rw [eqvA_app (Nat.succ.inj h), Bool.and_assoc]
theorem eqvA_rep {a c : List PyData} (h : a.length = c.length) : ∀ k, 1 ≤ k → PyData.eqvAll (List.replicate k a).flatten (List.replicate k c).flatten = PyData.eqvAll a c
  | 1, _ => by simp
  | k + 2, _ => by
    rw [List.replicate_succ, List.flatten_cons, List.replicate_succ (n := k + 1) (a := c), List.flatten_cons, eqvA_app h, eqvA_rep h (k + 1) (by omega), Bool.and_self]
theorem eqv_rep {a c : Fm} (h : a.length = c.length) {k : Nat} (hk : 1 ≤ k) : PyData.eqv (coD (List.replicate k a).flatten) (coD (List.replicate k c).flatten) = PyData.eqv (coD a) (coD c) := by
  show PyData.eqvAll (List.map liD _) (List.map liD _) = PyData.eqvAll (List.map liD a) (List.map liD c)
  rw [flatten_rep, flatten_rep]
  exact eqvA_rep (by rw [List.length_map, List.length_map, h]) k hk
/-! ### a content is a content -/
theorem mk_eqv {a b : Mk3} (h : PyData.eqv (mkD a) (mkD b) = true) : a = b := by
  obtain ⟨a1, a2, a3⟩ := a
  obtain ⟨b1, b2, b3⟩ := b
  have h' : ((a1 == b1) && ((a2 == b2) && ((a3 == b3) && true))) = true := h
  simp only [Bool.and_eq_true, beq_iff_eq, and_true] at h'
  obtain ⟨h1, h2, h3⟩ := h'
  rw [h1, h2, h3]
theorem isMk_mkD {m : Mk3} (h : m.1 ∈ LK4) : isMk (mkD m) = true := by
  show ((eS (.str m.1) || isWd (.str m.1)) && (true && true)) = true
  rw [(LK4_ok _ h).2.2]; rfl
theorem isPc_pcD {p : Pc} (h : p.2.1 ∈ LK4) (hn : cps p.1 ≠ []) (hc : ∀ c ∈ cps p.1, 32 ≤ c ∧ c ≤ 126) : isPc (pcD p) = true := by
  show (true && (!eS (.str p.1) && (isMk (mkD p.2) && p.1.cps.toList.all okC))) = true
  have e1 : eS (.str p.1) = false := by
    show decide (V.str p.1 = V.str "") = false
    refine decide_eq_false fun z => hn ?_
    have e := V.str.inj z
    rw [e]
    decide +kernel
  have e2 : p.1.cps.toList.all okC = true := List.all_eq_true.mpr fun c hc' => by
    obtain ⟨a, b⟩ := hc c hc'
    show (decide (32 ≤ c) && decide (c ≤ 126)) = true
    rw [decide_eq_true a, decide_eq_true b]; rfl
  rw [e1, isMk_mkD h, e2]; rfl
theorem pcLen_sum : ∀ ps : List Pc, ((ps.map pcD).map pcLen).sum = ((fl ps).length : Nat)
  | [] => rfl
  | p :: ps => by
    have ih := pcLen_sum ps
    have e : (fl (p :: ps)).length = p.1.length + (fl ps).length := by
      rw [show fl (p :: ps) = fl [p] ++ fl ps from fl_app [p] ps, List.length_append, fl_one, List.length_map, cps_len]
    rw [e, List.map_cons, List.map_cons, List.sum_cons, ih]
    show ((p.1.length : Nat) : Int) + _ = _
    omega
theorem isCl_ceD {xs : Fc} (h : OkC xs) {n : Int} (hn : (xs.length : Int) ≤ n) : isCl n (ceD xs) = true := by
  show (((cn xs).map pcD).all isPc && (!twin ((cn xs).map pcD) && decide ((((cn xs).map pcD).map pcLen).sum ≤ n))) = true
  have e1 : ((cn xs).map pcD).all isPc = true := List.all_eq_true.mpr fun d hd => by
    obtain ⟨p, hp, rfl⟩ := List.mem_map.mp hd
    exact isPc_pcD (h.mk hp) (cn_ne xs p hp) fun c hc => ⟨(h _ (cn_in hp hc)).1, (h _ (cn_in hp hc)).2.1⟩
  have e2 : twin ((cn xs).map pcD) = false := by
    unfold twin
    rw [List.any_eq_false]
    intro i hi
    have hi : i < ((cn xs).map pcD).length - 1 := List.mem_range.mp hi
    rw [List.length_map] at hi
    have g1 : (cn xs)[i]? = some (cn xs)[i] := List.getElem?_eq_getElem (by omega)
    have g2 : (cn xs)[i + 1]? = some (cn xs)[i + 1] := List.getElem?_eq_getElem (by omega)
    have d1 : ((cn xs).map pcD).getD i .none = pcD (cn xs)[i] := by rw [List.getD_eq_getElem?_getD, List.getElem?_map, g1]; rfl
    have d2 : ((cn xs).map pcD).getD (i + 1) .none = pcD (cn xs)[i + 1] := by rw [List.getD_eq_getElem?_getD, List.getElem?_map, g2]; rfl
    unfold tw
    rw [d1, d2]
    show ¬ PyData.eqv (mkD (cn xs)[i].2) (mkD (cn xs)[i + 1].2) = true
    exact fun z => cn_adj xs i _ _ g1 g2 (mk_eqv z)
  rw [e1, e2, pcLen_sum, fl_cn, decide_eq_true hn]; rfl
theorem gl_ge : ∀ {cs : List Fc} {xs : Fc}, xs ∈ cs → xs.length ≤ (gl cs).length
  | y :: r, xs, h => by
    show _ ≤ (y ++ _).length
    rw [List.length_append]
    rcases List.mem_cons.mp h with rfl | h
    · omega
    · have q : xs.length ≤ (r.flatMap fun c => (32, NO) :: c).length := by
        obtain ⟨a, b, rfl⟩ := List.append_of_mem h
        rw [List.flatMap_append, List.flatMap_cons, List.length_append, List.length_append, List.length_cons]
        omega
      omega
theorem isLn_liD {l : Fln} (h : OkLn l) : isLn (liD l) = true := by
  show (decide (0 ≤ ((l.1 : Nat) : Int) ∧ ((l.1 : Nat) : Int) ≤ 6) && (decide (1 ≤ (l.2.map ceD).length ∧ (l.2.map ceD).length ≤ 12) && (l.2.map ceD).all (isCl (mst (l.2.map ceD))))) = true
  have hd := h.d
  have h1 := h.c1
  have h2 := h.c12
  rw [List.length_map, decide_eq_true (by omega), decide_eq_true ⟨h1, h2⟩, Bool.true_and, Bool.true_and, List.all_eq_true]
  intro d hd
  obtain ⟨xs, hx, rfl⟩ := List.mem_map.mp hd
  refine isCl_ceD (h.c xs hx) ?_
  unfold mst
  rw [List.length_map]
  have g := gl_ge hx
  have hg := h.g
  split
  · omega
  · rename_i e
    rcases h.s with z | z
    · exact absurd z e
    · have := z xs hx
      omega
theorem isCt_coD {m : Fm} (h : OkF m) : isCt (coD m) = true := by
  show (decide (1 ≤ (m.map liD).length ∧ (m.map liD).length ≤ 200) && (m.map liD).all isLn) = true
  rw [List.length_map, decide_eq_true ⟨h.l1, h.l2⟩, Bool.true_and, List.all_eq_true]
  intro d hd
  obtain ⟨l, hl, rfl⟩ := List.mem_map.mp hd
  exact isLn_liD (h.l l hl)
end Vf
end
section
set_option Elab.async false
set_option linter.all false
set_option maxRecDepth 100000
set_option maxHeartbeats 4000000
namespace Vf
open PySem PySem.Spec PyProof.Rows L2 GxR GenW RZ
theorem ixN_last {α : Type} {xs : List α} {y : α} : ixN (xs ++ [y]).length (-1) = some xs.length := by
  unfold ixN
  rw [if_neg (by omega), if_pos (by rw [List.length_append]; show -(((xs.length + 1 : Nat)) : Int) ≤ -1; omega), List.length_append]
  show some ((-1 : Int) + ((xs.length + 1 : Nat) : Int)).toNat = some xs.length
  congr 1
  omega
theorem atI_last {α : Type} {xs : List α} {y : α} : atI (xs ++ [y]) (-1) = some y := by
  unfold atI
  rw [ixN_last]
  simp
theorem set_last {α : Type} {xs : List α} {y z : α} : (xs ++ [y]).set xs.length z = xs ++ [z] := by simp
theorem ddA_last {K : PySem.W.Frag} {H : Hp} : ∀ {xs : List V} {y : V} {ds : List PyData}, DdAll K H (xs ++ [y]) ds → ∃ es e, ds = es ++ [e] ∧ DdAll K H xs es ∧ Dd K H y e
  | [], y, ds, h => by
    cases h with
    | cons a b =>
      cases b
      exact ⟨[], _, rfl, .nil, a⟩
  | x :: xs, y, ds, h => by
    cases h with
    | cons a b =>
      obtain ⟨es, e, rfl, h1, h2⟩ := ddA_last b
      exact ⟨_ :: es, e, rfl, .cons a h1, h2⟩
/-! ### data without lists stand whatever is written into lists -/
def GrN (H H' : Hp) : Prop := ∀ b o, (∀ xs, o ≠ .lst xs) → H b = some o → (H' b = some o ∨ ∃ ps more, o = .tbl ps ∧ H' b = some (.tbl (ps ++ more)) ∧ (TriplesOk ps.toList → TriplesOk (ps ++ more).toList))
theorem GrN.refl (H : Hp) : GrN H H := fun _ _ _ h => .inl h
theorem Gr.n {H H' : Hp} (g : Gr H H') : GrN H H' := fun b o _ h => g b o h
theorem GrU.n {u c : Addr} {H H' : Hp} (g : GrU u H H') (hu : Urn c H u) : GrN H H' := fun b o hn h => by
  refine g b o ?_ h
  rintro rfl
  obtain ⟨ns, p, a, r, h1, _⟩ := hu
  rw [h1] at h
  cases h
  exact hn _ rfl
theorem GrN.trans {H H1 H2 : Hp} (a : GrN H H1) (b : GrN H1 H2) : GrN H H2 := by
  intro c o hn h
  rcases a c o hn h with h1 | ⟨ps, m1, rfl, h1, t1⟩
  · exact b c o hn h1
  · rcases b c _ (fun xs z => by cases z) h1 with h2 | ⟨qs, m2, e, h2, t2⟩
    · exact .inr ⟨ps, m1, rfl, h2, t1⟩
    · cases e
      exact .inr ⟨ps, m1 ++ m2, rfl, by rw [← Array.append_assoc]; exact h2, fun z => by rw [← Array.append_assoc]; exact t2 (t1 z)⟩
theorem GrN.upd {H : Hp} {D : Addr} {xs ys : List V} (h : H D = some (.lst xs)) : GrN H (upd H D (.lst ys)) := fun b o hn e => by
  have hb : b ≠ D := fun z => by
    rw [z, h] at e
    cases e
    exact hn _ rfl
  rw [upd_ne hb]
  exact .inl e
theorem GrN.wo {H : Hp} {D : Addr} {xs : List V} (h : H D = some (.lst xs)) : GrN H (Wo [D] H) := fun b o hn e => by
  refine .inl (wo_some ?_ e)
  simp only [List.mem_singleton]
  intro z
  rw [z, h] at e
  cases e
  exact hn _ rfl
theorem GrN.keep {H H' : Hp} (g : GrN H H') {b : Addr} {o : HO} (h : H b = some o) (n1 : ∀ xs, o ≠ .lst xs) (n2 : ∀ ps, o ≠ .tbl ps) : H' b = some o := by
  rcases g b o n1 h with h1 | ⟨ps, _, rfl, _⟩
  · exact h1
  · exact absurd rfl (n2 ps)
theorem GrN.seqT {K : PySem.W.Frag} {H H' : Hp} (g : GrN H H') {a : Addr} {xs : List V} (h : SqT K H a xs) : SqT K H' a xs := by
  rcases h with (h | ⟨o, h⟩) | h
  · exact .inl (.inl (g.keep h (fun _ z => by cases z) (fun _ z => by cases z)))
  · exact .inl (.inr ⟨o, g.keep h (fun _ z => by cases z) (fun _ z => by cases z)⟩)
  · exact .inr h
mutual
theorem GrN.dd {K : PySem.W.Frag} {H H' : Hp} (g : GrN H H') : ∀ (d : PyData) (v : V), noLst d = true → Dd K H v d → Dd K H' v d
  | .none, _, _, h => by cases h; exact .non
  | .bool _, _, _, h => by cases h; exact .bl _
  | .int _, _, _, h => by cases h; exact .int _
  | .str _, _, _, h => by cases h; exact .str _
  | .list ds, _, n, h => by cases n
  | .tuple ds, _, n, h => by
    cases h with
    | tup a b => exact .tup (g.seqT a) (GrN.ddA g ds _ n b)
  | .dict _, _, _, h => by
    cases h with
    | dct a => exact .dct (g.keep a (fun _ z => by cases z) (fun _ z => by cases z))
theorem GrN.ddA {K : PySem.W.Frag} {H H' : Hp} (g : GrN H H') : ∀ (ds : List PyData) (vs : List V), noLstA ds = true → DdAll K H vs ds → DdAll K H' vs ds
  | [], _, _, h => by cases h; exact .nil
  | d :: ds, _, n, h => by
    have n' : (noLst d && noLstA ds) = true := n
    rw [Bool.and_eq_true] at n'
    cases h with
    | cons a b => exact .cons (GrN.dd g d _ n'.1 a) (GrN.ddA g ds _ n'.2 b)
end
theorem mt_extK {X : Cx} {K : PySem.W.Frag} (hK : X.K = K) : MtR X "list.extend" (rExtT K) := by
  subst hK
  exact mt_extT
theorem Cl.nl {b n : Nat} {d : PyData} (h : Cl b n d) : noLst d = true := fi_nl d (h.hf .d)
theorem noLstA_cl {ds : List PyData} (h : ∀ d ∈ ds, noLst d = true) : noLstA ds = true := by
  induction ds with
  | nil => rfl
  | cons d ds ih =>
    show (noLst d && noLstA ds) = true
    rw [h d List.mem_cons_self, ih fun e he => h e (List.mem_cons_of_mem _ he)]; rfl
theorem nl_pc (p : Pc) : noLst (pcD p) = true := rfl
theorem nl_pcs (ps : List Pc) : noLstA (ps.map pcD) = true := noLstA_cl fun d hd => by
  obtain ⟨p, _, rfl⟩ := List.mem_map.mp hd
  rfl
theorem nl_ce (xs : Fc) : noLst (ceD xs) = true := nl_pcs _
theorem nl_ces (cs : List Fc) : noLstA (cs.map ceD) = true := noLstA_cl fun d hd => by
  obtain ⟨p, _, rfl⟩ := List.mem_map.mp hd
  exact nl_ce p
theorem nl_li (l : Fln) : noLst (liD l) = true := by
  show (true && (noLstA (l.2.map ceD) && true)) = true
  rw [nl_ces]; rfl
theorem nl_lis (m : Fm) : noLstA (m.map liD) = true := noLstA_cl fun d hd => by
  obtain ⟨p, _, rfl⟩ := List.mem_map.mp hd
  exact nl_li p
theorem nl_co (m : Fm) : noLst (coD m) = true := nl_lis m
/-- a piece at hand -/
theorem dd_pc {K : PySem.W.Frag} {H : Hp} {v : V} {p : Pc} (h : Dd K H v (pcD p)) : ∃ b w, v = .ref b ∧ SqT K H b [.str p.1, w] ∧ Dd K H w (mkD p.2) := by
  cases h with
  | tup h1 h2 =>
    cases h2 with
    | cons a1 h2 =>
      cases h2 with
      | cons a2 h2 =>
        cases h2
        cases a1
        exact ⟨_, _, rfl, h1, a2⟩
theorem dd_mk {K : PySem.W.Frag} {H : Hp} {v : V} {m : Mk3} (h : Dd K H v (mkD m)) : ∃ b, v = .ref b ∧ SqT K H b [.str m.1, .bl m.2.1, .bl m.2.2] := by
  cases h with
  | tup h1 h2 =>
    cases h2 with
    | cons a1 h2 =>
      cases h2 with
      | cons a2 h2 =>
        cases h2 with
        | cons a3 h2 =>
          cases h2
          cases a1; cases a2; cases a3
          exact ⟨_, rfl, h1⟩
theorem dd_li {K : PySem.W.Frag} {H : Hp} {v : V} {l : Fln} (h : Dd K H v (liD l)) : ∃ b a xs, v = .ref b ∧ SqT K H b [.int (l.1 : Nat), .ref a] ∧ SqT K H a xs ∧ DdAll K H xs (l.2.map ceD) := by
  cases h with
  | tup h1 h2 =>
    cases h2 with
    | cons a1 h2 =>
      cases h2 with
      | cons a2 h2 =>
        cases h2
        cases a1
        cases a2 with
        | tup b1 b2 => exact ⟨_, _, _, rfl, h1, b1, b2⟩
theorem dd_tup {K : PySem.W.Frag} {H : Hp} {v : V} {ds : List PyData} (h : Dd K H v (.tuple ds)) : ∃ b xs, v = .ref b ∧ SqT K H b xs ∧ DdAll K H xs ds := by
  cases h with
  | tup h1 h2 => exact ⟨_, _, rfl, h1, h2⟩
theorem ddA_map {α : Type} {f : α → PyData} {K : PySem.W.Frag} {H : Hp} {xs : List V} {ps : List α} (h : DdAll K H xs (ps.map f)) {i : Nat} {x : V} (hx : xs[i]? = some x) : ∃ p, ps[i]? = some p ∧ Dd K H x (f p) := by
  obtain ⟨d, e, q⟩ := ddA_at h hx
  rw [List.getElem?_map] at e
  cases hp : ps[i]? with
  | none => rw [hp] at e; cases e
  | some p =>
    rw [hp] at e
    cases e
    exact ⟨p, rfl, q⟩
theorem take_snoc {α : Type} {l : List α} {i : Nat} {x : α} (h : l[i]? = some x) : l.take (i + 1) = l.take i ++ [x] := by rw [List.take_succ, h]; rfl
abbrev s_drop : Stmt := top 18
abbrev n_drop : List Str := ["content", "feature", "depth", "cells", "_"]
abbrev p_drop : List Str := ["content", "feature"]
theorem sc_drop : FnScope n_drop p_drop (defScope s_drop) := ⟨rfl, rfl, rfl, by decide +kernel, rfl, by decide +kernel, by decide +kernel⟩

abbrev s_keep : Stmt := top 19
abbrev n_keep : List Str := ["content", "features", "kept", "feature"]
abbrev p_keep : List Str := ["content", "features"]
theorem sc_keep : FnScope n_keep p_keep (defScope s_keep) := ⟨rfl, rfl, rfl, by decide +kernel, rfl, by decide +kernel, by decide +kernel⟩

abbrev s_used : Stmt := top 20
abbrev n_used : List Str := ["content", "feature"]
abbrev p_used : List Str := ["content"]
theorem sc_used : FnScope n_used p_used (defScope s_used) := ⟨rfl, rfl, rfl, by decide +kernel, rfl, by decide +kernel, by decide +kernel⟩

abbrev s_one_cell : Stmt := top 21
abbrev n_one_cell : List Str := ["cells", "pieces", "cell"]
abbrev p_one_cell : List Str := ["cells"]
theorem sc_one_cell : FnScope n_one_cell p_one_cell (defScope s_one_cell) := ⟨rfl, rfl, rfl, by decide +kernel, rfl, by decide +kernel, by decide +kernel⟩

abbrev s_unmarked_cells : Stmt := top 22
abbrev n_unmarked_cells : List Str := ["cells", "feature", "cell"]
abbrev p_unmarked_cells : List Str := ["cells", "feature"]
theorem sc_unmarked_cells : FnScope n_unmarked_cells p_unmarked_cells (defScope s_unmarked_cells) := ⟨rfl, rfl, rfl, by decide +kernel, rfl, by decide +kernel, by decide +kernel⟩

abbrev s_unmarked_cell : Stmt := top 23
abbrev n_unmarked_cell : List Str := ["cell", "feature", "text", "marks"]
abbrev p_unmarked_cell : List Str := ["cell", "feature"]
theorem sc_unmarked_cell : FnScope n_unmarked_cell p_unmarked_cell (defScope s_unmarked_cell) := ⟨rfl, rfl, rfl, by decide +kernel, rfl, by decide +kernel, by decide +kernel⟩

abbrev s_unmarked : Stmt := top 24
abbrev n_unmarked : List Str := ["marks", "feature", "link", "bold", "slant"]
abbrev p_unmarked : List Str := ["marks", "feature"]
theorem sc_unmarked : FnScope n_unmarked p_unmarked (defScope s_unmarked) := ⟨rfl, rfl, rfl, by decide +kernel, rfl, by decide +kernel, by decide +kernel⟩

abbrev s_merged : Stmt := top 25
abbrev n_merged : List Str := ["pieces", "cell", "text", "marks"]
abbrev p_merged : List Str := ["pieces"]
theorem sc_merged : FnScope n_merged p_merged (defScope s_merged) := ⟨rfl, rfl, rfl, by decide +kernel, rfl, by decide +kernel, by decide +kernel⟩

/-- more of the module's names -/
structure TD (K : PySem.W.Frag) (mg : Str → Option Value) : Prop extends TC K mg where
  c_FEATURES : ∃ a, mg "FEATURES" = some (.ref a) ∧ ∀ H, SqT K H a (strV five)
  c_NO_MARKS : ∃ a, mg "NO_MARKS" = some (.ref a) ∧ ∀ H, SqT K H a [.str "", .bl false, .bl false]
def OkP (p : Pc) : Prop := cps p.1 ≠ [] ∧ p.2.1 ∈ LK4
theorem put_len {c : List Pc} {p : Pc} : (putp c p).length ≤ c.length + 1 := by
  rcases snoc_cases c with rfl | ⟨d, q, rfl⟩
  · exact Nat.le_refl _
  · rw [putp_snoc]
    split
    · simp
    · simp
theorem put_mk {c : List Pc} {p : Pc} (h : ∀ q ∈ c, q.2.1 ∈ LK4) (hp : p.2.1 ∈ LK4) : ∀ q ∈ putp c p, q.2.1 ∈ LK4 := by
  rcases snoc_cases c with rfl | ⟨d, r, rfl⟩
  · rw [putp_nil]
    intro q hq
    rw [List.mem_singleton] at hq
    rw [hq]; exact hp
  · rw [putp_snoc]
    intro q hq
    split at hq
    · rcases List.mem_append.mp hq with z | z
      · exact h q (List.mem_append_left _ z)
      · rw [List.mem_singleton] at z
        rw [z]; exact hp
    · rcases List.mem_append.mp hq with z | z
      · exact h q z
      · rw [List.mem_singleton] at z
        rw [z]; exact hp
def spMerged (K : PySem.W.Frag) : Sp := fun vs H Q _ => ∃ (a : Addr) (xs : List V) (ps : List Pc), vs = [.ref a] ∧ H a = some (.lst xs) ∧ DdAll K H xs (ps.map pcD) ∧ (∀ p ∈ ps, OkP p) ∧ (fl ps).length ≤ 1000 ∧ ∀ p H', Gr H H' → Dd K H' (.ref p) (ceD (fl ps)) → Q (.ref p) H'
theorem pcs_len {ps : List Pc} (h : ∀ p ∈ ps, OkP p) : ps.length ≤ (fl ps).length := by
  induction ps with
  | nil => exact Nat.zero_le _
  | cons p ps ih =>
    have := ih fun q hq => h q (List.mem_cons_of_mem _ hq)
    have l1 := List.length_pos_iff.mpr (h p List.mem_cons_self).1
    rw [show fl (p :: ps) = fl [p] ++ fl ps from fl_app [p] ps, List.length_append, fl_one, List.length_map, List.length_cons]
    omega
theorem pc_len {ps : List Pc} {p : Pc} (h : p ∈ ps) : p.1.length ≤ (fl ps).length := by
  obtain ⟨a, b, rfl⟩ := List.append_of_mem h
  rw [fl_app, show fl (p :: b) = fl [p] ++ fl b from fl_app [p] b, fl_one, List.length_append, List.length_append, List.length_map, cps_len]
  omega
theorem fl_take (ps : List Pc) (i : Nat) : (fl (ps.take i)).length ≤ (fl ps).length := by
  conv => rhs; rw [← List.take_append_drop i ps]
  rw [fl_app, List.length_append]
  omega
section
variable {P : Program} {w : World} {K : PySem.W.Frag} {mg : Str → Option Value} {base : Heap}
theorem ok_merged {fd : FuncData} (F : FnP K "merged" s_merged fd) (T : TD K mg) : FnOk P w K mg base CX0 1 (He.fAd K ("merged", none)) fd p_merged (spMerged K) := by
  refine okP F sc_merged (fun vs H Q E h => by obtain ⟨a, xs, ps, rfl, _⟩ := h; rfl) (fun A outer s H vs Q E hr h => ?_)
  obtain ⟨a, xs, ps, rfl, hL, hA, hp, hz, k⟩ := h
  have hl : xs.length = ps.length := by rw [ddA_len hA, List.length_map]
  have hpl := pcs_len hp
  refine ⟨_, (pss_cons (ps_set (i := 1) sc_merged.nd rfl (by first | exact Or.inl rfl | exact Or.inr rfl) (pe_lst pa_nil))
      (pss_cons (ps_for PassesOwn.never rfl (k_list (K := K) rfl (pv 0)) (kg_tup 2 (K := K) rfl rfl (pgs_cons (pg_name (i := 2) sc_merged.nd rfl (by first | exact Or.inl rfl | exact Or.inr rfl)) (pgs_cons (pg_name (i := 3) sc_merged.nd rfl (by first | exact Or.inl rfl | exact Or.inr rfl)) pgs_nil)))
      (pss_one (ps_if (PW.pt (pw_and (k_truth (K := K) rfl (pv 1) (by intro _; rfl)) (pw_and1 (pt_cmpR (u_eq (K := K) rfl hr.units) (pe_ix (u_ix (K := K) rfl) (pe_ix (u_ix (K := K) rfl) (pv 1) (pe_un un_neg pe_int) (fun _ _ => rfl)) pe_int (fun _ _ => rfl)) (pv 3) (nomark _)))))
      (pss_one (ps_asg (pe_tup (pa_cons (pe_op (u_add (K := K) rfl) (pe_ix (u_ix (K := K) rfl) (pe_ix (u_ix (K := K) rfl) (pv 1) (pe_un un_neg pe_int) (fun _ _ => rfl)) pe_int (fun _ _ => rfl)) (pv 2)) (pa_cons (pv 3) pa_nil))) (pg_sub (pv 1) (pe_un un_neg pe_int) set_list)))
      (pss_one (ps_expr (k_bm (K := K) rfl PySem.F.plainAttrs_list PySem.F.slot_list_append PySem.F.type_list_append mt_append (pv 1) (pa_cons (pe_tup (pa_cons (pv 2) (pa_cons (pv 3) pa_nil))) pa_nil)))))))
      (pss_one (ps_ret (k_tuple (K := K) rfl rfl T.b_tuple (pv 1)))))), ?_⟩
  refine ⟨Nat.zero_le _, fun D hD => ?_⟩
  have aD : a ≠ D := ne_of_none hL hD
  refine ⟨_, rfl, a, rfl, ⟨_, SqL.of (by rw [upd_ne aD]; exact hL)⟩, ?_⟩
  refine for_list (K := K) (a := a) (xs := xs) (fun i σ H' => ∃ (o2 o3 : Option V) (ys : List V), σ = [some (.ref a), some (.ref D), o2, o3] ∧ Gr H H' ∧ H' D = some (.lst ys) ∧ DdAll K H' ys (((ps.take i).foldl putp []).map pcD))
    ⟨none, none, [], rfl, Gr.new hD, upd_same, .nil⟩ ?_ ?_ ?_
  · rintro i σ H' _ ⟨o2, o3, ys, rfl, g, _⟩
    exact SqL.of (g.lst hL)
  · rintro i x σ H' hx ⟨o2, o3, ys, rfl, g, hLd, hE⟩
    obtain ⟨p, hpi, dp⟩ := ddA_map hA hx
    have hpm := List.mem_of_getElem? hpi
    have il := (List.getElem?_eq_some_iff.mp hpi).1
    obtain ⟨b, w1, rfl, q1, dm⟩ := dd_pc (g.dd _ _ dp)
    have e1 : (ps.take (i + 1)).foldl putp [] = putp ((ps.take i).foldl putp []) p := by rw [take_snoc hpi, List.foldl_append]; rfl
    have ec : (ps.take i).foldl putp [] = cn (fl (ps.take i)) := jn_cn fun q hq => (hp q (List.mem_of_mem_take hq)).1
    have lp := pc_len hpm
    have ft := fl_take ps i
    generalize hC : (ps.take i).foldl putp [] = C at hE e1 ec
    have mkC : ∀ q ∈ C, q.2.1 ∈ LK4 := by
      intro q hq
      rw [ec] at hq
      obtain ⟨c, hc⟩ := cn_mk hq
      obtain ⟨r, hr, z⟩ := List.mem_flatMap.mp hc
      obtain ⟨c2, _, z⟩ := List.mem_map.mp z
      have z2 : r.2 = q.2 := congrArg (fun y : Ch => y.2) z
      rw [← z2]
      exact (hp r (List.mem_of_mem_take hr)).2
    have lC : ∀ q ∈ C, q.1.length ≤ 1000 := by
      intro q hq
      have := pc_len hq
      rw [ec, fl_cn] at this
      omega
    have lC2 : C.length ≤ 1000 := by
      rw [ec]
      have := pcs_len (ps := cn (fl (ps.take i))) fun q hq => ⟨cn_ne _ q hq, mkC q (by rw [ec]; exact hq)⟩
      rw [fl_cn] at this
      omega
    have sl : ∀ {n : Nat}, n ≤ 3000 → n ≤ sizeLine := fun h => by rw [sizeLine_eq]; omega
    have yl : ys.length = C.length := by rw [ddA_len hE, List.length_map]
    have hDH : ∀ {H2 : Hp} {q : Addr}, Gr H' H2 → H2 q = none → q ≠ D := fun g2 hq z => by
      rw [z, g2.lst hLd] at hq
      cases hq
    have w1dp : Dp K H' w1 (mkD p.2) := (cl_mk (hp p hpm).2).dp dm
    have w1sh : SeqAt.shaped (mkD p.2) = true := (cl_mk (hp p hpm).2).shaped (by decide)
    refine ⟨b, _, rfl, q1, rfl, _, _, rfl, _, _, rfl, rfl, ?_⟩
    refine ⟨_, rfl, _, .inl ⟨ys, SqL.of hLd, rfl⟩, ?_⟩
    rcases snoc_cases C with rfl | ⟨C0, q0, rfl⟩
    · cases hE
      refine iteF (iteF ?_)
      refine ⟨_, rfl, .inl ⟨rfl, _, SqL.of hLd⟩, _, rfl, _, rfl, sl (by show 2 ≤ 3000; decide), fun p9 hp9 => ?_⟩
      have n9 := hDH (Gr.refl _) hp9
      refine newH hp9 fun H9 g9 s9 => ?_
      refine ⟨D, _, .ref p9, rfl, rfl, g9.lst hLd, sl (by show 0 < 3000; decide), ?_⟩
      have g10 := GrN.upd (ys := ([] : List V) ++ [.ref p9]) (g9.lst hLd)
      refine ⟨_, _, [] ++ [.ref p9], rfl, (g.trans g9).upd' hD, upd_same, ?_⟩
      rw [e1, putp_nil]
      exact .cons (g10.dd _ _ (nl_pc p) (.tup (SqT.of s9) (.cons (.str _) (.cons (g9.dd _ _ dm) .nil)))) .nil
    obtain ⟨ys0, y1, rfl⟩ : ∃ ys0 y1, ys = ys0 ++ [y1] := by
      rcases snoc_cases ys with rfl | h
      · rw [List.length_append] at yl
        simp at yl
      · exact h
    rw [List.map_append] at hE
    obtain ⟨es, e, he, hE0, dd1⟩ := ddA_last hE
    obtain ⟨rfl, he2⟩ := List.append_inj' he rfl
    cases he2
    obtain ⟨b1, w2, rfl, r1, dm1⟩ := dd_pc dd1
    have mq := mkC q0 (by simp)
    have lq := lC q0 (by simp)
    have e0 : (!(ys0 ++ [V.ref b1]).isEmpty) = true := by simp
    rw [e0]
    refine iteT ?_
    refine ⟨_, rfl, _, rfl, x_l (SqL.of hLd) atI_last (x_t r1 rfl ⟨_, rfl, e_data ((cl_mk mq).dp dm1) w1dp ((cl_mk mq).shaped (by decide)) w1sh ⟨_, rfl, ite2 (fun h3 => ?_) (fun h3 => ?_)⟩⟩)⟩
    · have e2 : q0.2 = p.2 := mk_eqv h3
      refine ⟨_, rfl, _, rfl, x_l (SqL.of hLd) atI_last (x_t r1 rfl ⟨_, rfl, a_ss (sl (by omega)) ⟨_, rfl, sl (by show 2 ≤ 3000; decide), fun p9 hp9 => ?_⟩⟩)⟩
      refine newH hp9 fun H9 g9 s9 => ?_
      refine ⟨_, rfl, _, rfl, D, _, -1, _, rfl, rfl, g9.lst hLd, ixN_last, ?_⟩
      rw [set_last]
      have g10 := GrN.upd (ys := ys0 ++ [.ref p9]) (g9.lst hLd)
      refine ⟨_, _, ys0 ++ [.ref p9], rfl, (g.trans g9).upd' hD, upd_same, ?_⟩
      rw [e1, putp_snoc, if_pos e2, List.map_append]
      exact ddA_app (g10.ddA _ _ (nl_pcs _) (g9.ddA _ _ hE0)) (.cons (g10.dd _ _ rfl (.tup (SqT.of s9) (.cons (.str _) (.cons (g9.dd _ _ dm) .nil)))) .nil)
    · have e2 : ¬ q0.2 = p.2 := fun z => h3 (by rw [z]; exact eqv_refl _ (cl_mk (hp p hpm).2).lay)
      refine ⟨_, rfl, .inl ⟨rfl, _, SqL.of hLd⟩, _, rfl, _, rfl, sl (by show 2 ≤ 3000; decide), fun p9 hp9 => ?_⟩
      refine newH hp9 fun H9 g9 s9 => ?_
      refine ⟨D, _, .ref p9, rfl, rfl, g9.lst hLd, by rw [sizeLine_eq]; omega, ?_⟩
      have g10 := GrN.upd (ys := (ys0 ++ [V.ref b1]) ++ [.ref p9]) (g9.lst hLd)
      refine ⟨_, _, (ys0 ++ [V.ref b1]) ++ [.ref p9], rfl, (g.trans g9).upd' hD, upd_same, ?_⟩
      rw [e1, putp_snoc, if_neg e2, List.map_append, List.map_append]
      exact ddA_app (g10.ddA _ _ (noLstA_cl fun d hd => by
        rcases List.mem_append.mp hd with z | z
        · obtain ⟨q, _, rfl⟩ := List.mem_map.mp z
          rfl
        · obtain ⟨q, _, rfl⟩ := List.mem_map.mp z
          rfl) (g9.ddA _ _ hE)) (.cons (g10.dd _ _ rfl (.tup (SqT.of s9) (.cons (.str _) (.cons (g9.dd _ _ dm) .nil)))) .nil)
  · rintro σ H' ⟨o2, o3, ys, rfl, g, hLd, hE⟩
    rw [hl, List.take_length, jn_cn fun p hp2 => (hp p hp2).1] at hE
    refine ⟨_, rfl, ⟨.inl ⟨D, _, rfl, SqL.of hLd, fun p hp => ?_⟩⟩⟩
    refine newH hp fun H1 g1 s1 => ?_
    exact k p H1 (g.trans g1) (.tup (SqT.of s1) (g1.ddA _ _ hE))
end
end Vf
end
section
set_option Elab.async false
set_option linter.all false
set_option maxRecDepth 100000
set_option maxHeartbeats 4000000
namespace Vf
open PySem PySem.Spec PyProof.Rows L2 GxR GenW RZ
def three : List Str := ["link", "bold", "slant"]
theorem um_link (m : Mk3) : um (one "link") m = ((("" : Str), m.2.1, m.2.2) : Mk3) := by
  obtain ⟨l, b, c⟩ := m
  have h1 : one "link" "link" = true := by decide +kernel
  have h2 : one "link" "bold" = false := by decide +kernel
  have h3 : one "link" "slant" = false := by decide +kernel
  unfold um
  rw [h1, h2, h3]
  simp
theorem um_bold (m : Mk3) : um (one "bold") m = (m.1, false, m.2.2) := by
  obtain ⟨l, b, c⟩ := m
  have h1 : one "bold" "link" = false := by decide +kernel
  have h2 : one "bold" "bold" = true := by decide +kernel
  have h3 : one "bold" "slant" = false := by decide +kernel
  unfold um
  rw [h1, h2, h3]
  simp
theorem um_slant (m : Mk3) : um (one "slant") m = (m.1, m.2.1, false) := by
  obtain ⟨l, b, c⟩ := m
  have h1 : one "slant" "link" = false := by decide +kernel
  have h2 : one "slant" "bold" = false := by decide +kernel
  have h3 : one "slant" "slant" = true := by decide +kernel
  unfold um
  rw [h1, h2, h3]
  simp
theorem um_LK (s : Drp) {m : Mk3} (h : m.1 ∈ LK4) : (um s m).1 ∈ LK4 := by
  show (if s "link" = true then ("" : Str) else m.1) ∈ LK4
  split
  · simp [LK4]
  · exact h
theorem fl_um (s : Drp) (ps : List Pc) : fl (ps.map fun p => (p.1, um s p.2)) = umC s (fl ps) := by
  unfold fl umC
  rw [List.flatMap_map, List.map_flatMap]
  congr 1
  funext p
  rw [List.map_map]; rfl
section
variable {K : PySem.W.Frag}
theorem sl_t1 {H : Hp} {Q : VK} {a : Addr} {xs : List V} (h : SqT K H a xs) (q : ∀ p H', Gr H H' → SqT K H' p (xs.drop 1) → Q (.ref p) H') : rSlU K (.ref a) (some 1) none H Q := by
  have e1 : HT.sIx xs.length 0 (some 1) = min 1 xs.length := HT.sIx_nat _ _ 1
  refine sl_t h (fun z => ?_) (fun _ p hp => ?_)
  · rw [e1] at z
    have e : xs = [] := List.eq_nil_of_length_eq_zero (by omega)
    subst e
    exact q a H (Gr.refl H) h
  · have e : cutV xs (some 1) none = xs.drop 1 := by
      unfold cutV
      rw [e1, HT.sIx_none]
      by_cases hx : xs = []
      · subst hx; rfl
      · have : 1 ≤ xs.length := List.length_pos_iff.mpr hx
        rw [Nat.min_eq_left this]
        exact List.take_of_length_le (by rw [List.length_drop]; exact Nat.le_refl _)
    rw [e]
    exact newH hp fun H1 g1 s1 => q p H1 g1 (SqT.of s1)
end
/-- [t for x in a tuple of data]: data again -/
theorem lc_dd {α β : Type} {f : α → PyData} {f2 : β → PyData} {h : α → β} {K : PySem.W.Frag} {a : Addr} {xs : List V} {as : List α} {g : TG} {te : TE} {vs : List Nat} {σ : L2.St} {H : Hp} {D : Addr} {Qd : Hp → Prop} (hD : H D = none) (hS : SqT K H a xs) (hA : DdAll K H xs (as.map f)) (hn : as.length ≤ 4000) (nl : ∀ b, noLst (f2 b) = true)
    (step : ∀ (i : Nat) (x : V) (e : α) (H' : Hp) (C : VK), xs[i]? = some x → as[i]? = some e → Gr H H' → Dd K H' x (f e) → (∀ v H4, Gr H' H4 → Dd K H4 v (f2 (h e)) → C v H4) → g x (wipe σ vs) H' fun σ2 H2 => wipe σ2 vs = wipe σ vs ∧ te σ2 H2 C)
    (done : ∀ (H' : Hp) (ys : List V), Gr H H' → H' D = some (.lst ys) → DdAll K H' ys ((as.map h).map f2) → Qd H') :
    ∃ W : Nat → Nat → Hp → Prop, (∃ m, W 0 m (upd H D (.lst []))) ∧ ∀ i m H, W i m H →
      ((Itt K a).stop i H ∧ Qd H) ∨ ((Itt K a).go i H ∧ ∃ Nx : Hp → Prop, (∀ H', Nx H' → ∃ m', m' < m ∧ W (i + 1) m' H') ∧ ∀ x H', (Itt K a).yld i H x H' → g x (wipe σ vs) H' fun σ2 H2 => wipe σ2 vs = wipe σ vs ∧ tYes σ2 H2 fun b H3 =>
        if b = true then te σ2 H3 fun y H4 => ∃ acc, H4 D = some (.lst acc) ∧ acc.length < sizeLine ∧ Nx (upd H4 D (.lst (acc ++ [y]))) else Nx H3) := by
  have xl : xs.length = as.length := by rw [ddA_len hA, List.length_map]
  refine lc_tup (K := K) (a := a) (xs := xs) (fun i H' => ∃ ys, Gr H H' ∧ H' D = some (.lst ys) ∧ DdAll K H' ys (((as.take i).map h).map f2)) ⟨[], Gr.new hD, upd_same, .nil⟩ ?_ ?_ ?_
  · rintro i H' _ ⟨ys, g, _⟩
    exact g.seqT hS
  · rintro i x H' hx ⟨ys, g1, hL, hE⟩
    obtain ⟨e, he, de⟩ := ddA_map hA hx
    have il := (List.getElem?_eq_some_iff.mp he).1
    have yl : ys.length = i := by
      have q := ddA_len hE
      rw [List.length_map, List.length_map, List.length_take] at q
      omega
    refine step i x e H' _ hx he g1 (g1.dd _ _ de) fun v H4 g4 dv => ?_
    have g5 := GrN.upd (ys := ys ++ [v]) (g4.lst hL)
    refine ⟨ys, g4.lst hL, by rw [yl, sizeLine_eq]; omega, ys ++ [v], (g1.trans g4).upd' hD, upd_same, ?_⟩
    rw [take_snoc he, List.map_append, List.map_append]
    exact ddA_app (g5.ddA _ _ (noLstA_cl fun d hd => by
      obtain ⟨b, _, rfl⟩ := List.mem_map.mp hd
      exact nl b) (g4.ddA _ _ hE)) (.cons (g5.dd _ _ (nl _) dv) .nil)
  · rintro H' ⟨ys, g1, hL, hE⟩
    rw [xl, List.take_length] at hE
    exact done H' ys g1 hL hE
def SP : Pc := (" ", NO)
theorem atI_zero {α : Type} {x : α} {l : List α} : atI (x :: l) 0 = some x := by
  unfold atI
  rw [show (0 : Int) = ((0 : Nat) : Int) from rfl, ixN_nat (by show 0 < l.length + 1; omega)]
  rfl
def joinP (c : Fc) (r : List Fc) : List Pc := cn c ++ r.flatMap fun d => SP :: cn d
theorem joinP_snoc (c : Fc) (r : List Fc) (d : Fc) : joinP c (r ++ [d]) = joinP c r ++ [SP] ++ cn d := by
  unfold joinP
  rw [List.flatMap_append, List.append_assoc, List.append_assoc]
  simp
theorem fl_rest : ∀ r : List Fc, fl (r.flatMap fun d => SP :: cn d) = r.flatMap fun d => (32, NO) :: d
  | [] => rfl
  | d :: r => by
    rw [List.flatMap_cons, List.flatMap_cons, fl_app, fl_rest r, show (SP :: cn d : List Pc) = [SP] ++ cn d from rfl, fl_app, fl_cn, fl_one]
    rfl
theorem fl_joinP (c : Fc) (r : List Fc) : fl (joinP c r) = gl (c :: r) := by
  unfold joinP
  rw [fl_app, fl_cn, fl_rest]
  rfl
theorem joinP_ok {c : Fc} {r : List Fc} (h : ∀ xs ∈ c :: r, OkC xs) : ∀ p ∈ joinP c r, OkP p := by
  intro p hp
  rcases List.mem_append.mp hp with z | z
  · exact ⟨cn_ne c p z, (h c List.mem_cons_self).mk z⟩
  · obtain ⟨d, hd, z⟩ := List.mem_flatMap.mp z
    rcases List.mem_cons.mp z with rfl | z
    · exact ⟨by decide +kernel, by simp [SP, NO, LK4]⟩
    · exact ⟨cn_ne d p z, (h d (List.mem_cons_of_mem _ hd)).mk z⟩
theorem gl_take (c : Fc) (r : List Fc) (i : Nat) : (gl (c :: r.take i)).length ≤ (gl (c :: r)).length := by
  show (c ++ _).length ≤ (c ++ _).length
  conv => rhs; rw [← List.take_append_drop i r]
  rw [List.length_append, List.length_append, List.flatMap_append, List.length_append]
  omega
def spUnm (K : PySem.W.Frag) : Sp := fun vs H Q _ => ∃ (v : V) (f : Str) (m : Mk3), vs = [v, .str f] ∧ f ∈ three ∧ Dd K H v (mkD m) ∧ ∀ p H', Gr H H' → Dd K H' (.ref p) (mkD (um (one f) m)) → Q (.ref p) H'
def spUCell (K : PySem.W.Frag) : Sp := fun vs H Q _ => ∃ (v : V) (f : Str) (xs : Fc), vs = [v, .str f] ∧ f ∈ three ∧ Dd K H v (ceD xs) ∧ OkC xs ∧ xs.length ≤ 491 ∧ ∀ p H', Gr H H' → Dd K H' (.ref p) (ceD (umC (one f) xs)) → Q (.ref p) H'
def spUCells (K : PySem.W.Frag) : Sp := fun vs H Q _ => ∃ (v : V) (f : Str) (cs : List Fc), vs = [v, .str f] ∧ f ∈ three ∧ Dd K H v (.tuple (cs.map ceD)) ∧ (∀ xs ∈ cs, OkC xs ∧ xs.length ≤ 491) ∧ cs.length ≤ 12 ∧ ∀ p H', Gr H H' → Dd K H' (.ref p) (.tuple ((cs.map (umC (one f))).map ceD)) → Q (.ref p) H'
def spOne (K : PySem.W.Frag) : Sp := fun vs H Q _ => ∃ (v : V) (cs : List Fc), vs = [v] ∧ Dd K H v (.tuple (cs.map ceD)) ∧ (∀ xs ∈ cs, OkC xs) ∧ cs ≠ [] ∧ cs.length ≤ 12 ∧ (gl cs).length ≤ 491 ∧ ∀ p H', Gr H H' → Dd K H' (.ref p) (ceD (gl cs)) → Q (.ref p) H'
section
variable {P : Program} {w : World} {K : PySem.W.Frag} {mg : Str → Option Value} {base : Heap}
theorem dd_newmk {H1 : Hp} {p : Addr} {m : Mk3} (h : H1 p = some (.tup [.str m.1, .bl m.2.1, .bl m.2.2])) : Dd K H1 (.ref p) (mkD m) := .tup (SqT.of h) (.cons (.str _) (.cons (.bl _) (.cons (.bl _) .nil)))
theorem ok_unm {fd : FuncData} (F : FnP K "unmarked" s_unmarked fd) (T : TD K mg) : FnOk P w K mg base CX0 1 (He.fAd K ("unmarked", none)) fd p_unmarked (spUnm K) := by
  refine okP F sc_unmarked (fun vs H Q E h => by obtain ⟨v, f, m, rfl, _⟩ := h; rfl) (fun A outer s H vs Q E hr h => ?_)
  obtain ⟨v, f, m, rfl, hf, hd, k⟩ := h
  obtain ⟨b, rfl, sq⟩ := dd_mk hd
  have sl : ∀ {n : Nat}, n ≤ 3000 → n ≤ sizeLine := fun h => by rw [sizeLine_eq]; omega
  have d1 : decide (V.str "bold" = V.str "link") = false := by decide +kernel
  have d2 : decide (V.str "slant" = V.str "link") = false := by decide +kernel
  have d3 : decide (V.str "slant" = V.str "bold") = false := by decide +kernel
  have d4 : decide (V.str "bold" = V.str "bold") = true := by decide +kernel
  have d5 : decide (V.str "link" = V.str "link") = true := by decide +kernel
  refine ⟨_, (pss_cons (ps_asg (pv 0) (kg_tup 3 (K := K) rfl rfl (pgs_cons (pg_name (i := 2) sc_unmarked.nd rfl (by first | exact Or.inl rfl | exact Or.inr rfl)) (pgs_cons (pg_name (i := 3) sc_unmarked.nd rfl (by first | exact Or.inl rfl | exact Or.inr rfl)) (pgs_cons (pg_name (i := 4) sc_unmarked.nd rfl (by first | exact Or.inl rfl | exact Or.inr rfl)) pgs_nil)))))
      (pss_cons (ps_if (pt_cmpR (u_eq (K := K) rfl hr.units) (pv 1) pe_str (nomark _))
      (pss_one (ps_ret (pe_tup (pa_cons pe_str (pa_cons (pv 3) (pa_cons (pv 4) pa_nil))))))
      pss_nil)
      (pss_cons (ps_if (pt_cmpR (u_eq (K := K) rfl hr.units) (pv 1) pe_str (nomark _))
      (pss_one (ps_ret (pe_tup (pa_cons (pv 2) (pa_cons pe_bl (pa_cons (pv 4) pa_nil))))))
      pss_nil)
      (pss_one (ps_ret (pe_tup (pa_cons (pv 2) (pa_cons (pv 3) (pa_cons pe_bl pa_nil))))))))), ?_⟩
  refine ⟨_, rfl, b, _, rfl, sq, rfl, _, _, rfl, _, _, rfl, _, _, rfl, rfl, ?_⟩
  simp only [three, List.mem_cons, List.not_mem_nil, or_false] at hf
  rcases hf with rfl | rfl | rfl
  · refine ⟨_, rfl, e_flat rfl ⟨_, rfl, ?_⟩⟩
    rw [d5]
    refine iteT ⟨_, rfl, _, rfl, sl (by show 3 ≤ 3000; decide), fun p hp => ?_⟩
    refine newH hp fun H1 g1 s1 => ?_
    exact k p H1 g1 (by rw [um_link]; exact dd_newmk s1)
  · refine ⟨_, rfl, e_flat rfl ⟨_, rfl, ?_⟩⟩
    rw [d1]
    refine iteF ⟨_, rfl, e_flat rfl ⟨_, rfl, ?_⟩⟩
    rw [d4]
    refine iteT ⟨_, rfl, _, rfl, sl (by show 3 ≤ 3000; decide), fun p hp => ?_⟩
    refine newH hp fun H1 g1 s1 => ?_
    exact k p H1 g1 (by rw [um_bold]; exact dd_newmk s1)
  · refine ⟨_, rfl, e_flat rfl ⟨_, rfl, ?_⟩⟩
    rw [d2]
    refine iteF ⟨_, rfl, e_flat rfl ⟨_, rfl, ?_⟩⟩
    rw [d3]
    refine iteF ⟨_, rfl, _, rfl, sl (by show 3 ≤ 3000; decide), fun p hp => ?_⟩
    refine newH hp fun H1 g1 s1 => ?_
    exact k p H1 g1 (by rw [um_slant]; exact dd_newmk s1)
theorem ok_ucell {fd : FuncData} (F : FnP K "unmarked_cell" s_unmarked_cell fd) (T : TD K mg) (D_unmarked : Df P w K mg base "unmarked" 1 p_unmarked (spUnm K)) (D_merged : Df P w K mg base "merged" 1 p_merged (spMerged K)) : FnOk P w K mg base CX0 2 (He.fAd K ("unmarked_cell", none)) fd p_unmarked_cell (spUCell K) := by
  refine okP F sc_unmarked_cell (fun vs H Q E h => by obtain ⟨v, f, xs, rfl, _⟩ := h; rfl) (fun A outer s H vs Q E hr h => ?_)
  obtain ⟨v, f, fs, rfl, hf, hd, ok, hl, k⟩ := h
  obtain ⟨b, xs, rfl, sq, dA⟩ := dd_tup hd
  have okp : ∀ p ∈ cn fs, OkP p := fun p hp => ⟨cn_ne fs p hp, ok.mk hp⟩
  have cl : (cn fs).length ≤ 491 := by
    have := pcs_len okp
    rw [fl_cn] at this
    omega
  have xl : xs.length = (cn fs).length := by rw [ddA_len dA, List.length_map]
  have sl : ∀ {n : Nat}, n ≤ 3000 → n ≤ sizeLine := fun h => by rw [sizeLine_eq]; omega
  refine ⟨_, (pss_one (ps_ret (pe_fn D_merged hr (by decide) rfl (pa_cons (pe_lc (own := [("text", 2), ("marks", 3)])  (tt := tYes) rfl sc_unmarked_cell.nd (k_tup (K := K) rfl (pv 0)) (blkOk_by (own := [("text", 2), ("marks", 3)]) (N := n_unmarked_cell) (sc := defScope s_unmarked_cell) (by decide +kernel)) (fun _ _ _ _ _ => (kg_tup 2 (K := K) rfl rfl (pgs_cons (pg_name (i := 2) sc_unmarked_cell.nd rfl (by first | exact Or.inl rfl | exact Or.inr rfl)) (pgs_cons (pg_name (i := 3) sc_unmarked_cell.nd rfl (by first | exact Or.inl rfl | exact Or.inr rfl)) pgs_nil)))) (fun _ _ _ _ _ => pts_nil) (fun _ _ _ _ _ => (pe_tup (pa_cons (pv 2) (pa_cons (pe_fn D_unmarked hr (by decide) rfl (pa_cons (pv 3) (pa_cons (pv 1) pa_nil))) pa_nil))))) pa_nil)))), ?_⟩
  refine ⟨_, rfl, b, rfl, ⟨_, sq⟩, fun D hD => ?_⟩
  refine lc_dd (K := K) (f2 := pcD) (h := fun p => (p.1, um (one f) p.2)) hD sq dA (by omega) nl_pc ?_ ?_
  · intro i x p H' C hx hp g1 dp hC
    have pm := List.mem_of_getElem? hp
    obtain ⟨b1, w1, rfl, q1, dm⟩ := dd_pc dp
    refine ⟨b1, _, rfl, q1, rfl, _, _, rfl, _, _, rfl, rfl, rfl, ?_⟩
    refine ⟨_, rfl, _, rfl, _, rfl, w1, f, p.2, rfl, hf, dm, fun p2 H2 g2 d2 => ?_⟩
    refine ⟨sl (by show 2 ≤ 3000; decide), fun p9 hp9 => ?_⟩
    refine newH hp9 fun H9 g9 s9 => ?_
    exact hC _ _ (g2.trans g9) (.tup (SqT.of s9) (.cons (.str _) (.cons (g9.dd _ _ d2) .nil)))
  · intro H' ys g1 hL hE
    refine ⟨D, ys, (cn fs).map fun p => (p.1, um (one f) p.2), rfl, hL, hE, ?_, ?_, ?_⟩
    · intro q hq
      obtain ⟨p, hp, rfl⟩ := List.mem_map.mp hq
      exact ⟨(okp p hp).1, um_LK _ (okp p hp).2⟩
    · rw [fl_um, fl_cn, umC_len]
      omega
    · intro p H2 g2 d2
      rw [fl_um, fl_cn] at d2
      exact k p H2 (g1.trans g2) d2
theorem ok_ucells {fd : FuncData} (F : FnP K "unmarked_cells" s_unmarked_cells fd) (T : TD K mg) (D_unmarked_cell : Df P w K mg base "unmarked_cell" 2 p_unmarked_cell (spUCell K)) : FnOk P w K mg base CX0 3 (He.fAd K ("unmarked_cells", none)) fd p_unmarked_cells (spUCells K) := by
  refine okP F sc_unmarked_cells (fun vs H Q E h => by obtain ⟨v, f, cs, rfl, _⟩ := h; rfl) (fun A outer s H vs Q E hr h => ?_)
  obtain ⟨v, f, cs, rfl, hf, hd, ok, hl, k⟩ := h
  obtain ⟨b, xs, rfl, sq, dA⟩ := dd_tup hd
  refine ⟨_, (pss_one (ps_ret (k_tuple (K := K) rfl rfl T.b_tuple (pe_lc (own := [("cell", 2)]) (g := gName 2) (tt := tYes) rfl sc_unmarked_cells.nd (k_tup (K := K) rfl (pv 0)) (blkOk_by (own := [("cell", 2)]) (N := n_unmarked_cells) (sc := defScope s_unmarked_cells) (by decide +kernel)) (fun _ _ _ _ _ => (pg_name (i := 2) sc_unmarked_cells.nd rfl (by first | exact Or.inl rfl | exact Or.inr rfl))) (fun _ _ _ _ _ => pts_nil) (fun _ _ _ _ _ => (pe_fn D_unmarked_cell hr (by decide) rfl (pa_cons (pv 2) (pa_cons (pv 1) pa_nil)))))))), ?_⟩
  refine ⟨_, rfl, b, rfl, ⟨_, sq⟩, fun D hD => ?_⟩
  refine lc_dd (K := K) (f2 := ceD) (h := umC (one f)) hD sq dA (by omega) nl_ce ?_ ?_
  · intro i x c H' C hx hc g1 dc hC
    have cm := ok c (List.mem_of_getElem? hc)
    refine ⟨rfl, ?_⟩
    exact ⟨_, rfl, _, rfl, x, f, c, rfl, hf, dc, cm.1, cm.2, fun p2 H2 g2 d2 => hC _ _ g2 d2⟩
  · intro H' ys g1 hL hE
    refine ⟨.inl ⟨D, _, rfl, SqL.of hL, fun p hp => ?_⟩⟩
    refine newH hp fun H1 g2 s1 => ?_
    exact k p H1 (g1.trans g2) (.tup (SqT.of s1) (g2.ddA _ _ hE))
theorem ok_one {fd : FuncData} (F : FnP K "one_cell" s_one_cell fd) (T : TD K mg) (D_merged : Df P w K mg base "merged" 1 p_merged (spMerged K)) : FnOk P w K mg base CX0 2 (He.fAd K ("one_cell", none)) fd p_one_cell (spOne K) := by
  obtain ⟨aN, m_NO_MARKS, sN⟩ := T.c_NO_MARKS
  refine okP F sc_one_cell (fun vs H Q E h => by obtain ⟨v, cs, rfl, _⟩ := h; rfl) (fun A outer s H vs Q E hr h => ?_)
  obtain ⟨v, cs, rfl, hd, ok, hne, hl, hg, k⟩ := h
  obtain ⟨b, xs, rfl, sq, dA⟩ := dd_tup hd
  refine ⟨_, (pss_cons (ps_set (i := 1) sc_one_cell.nd rfl (by first | exact Or.inl rfl | exact Or.inr rfl) (pe_callTy (call_listU (K := K) rfl rfl) rfl T.b_list (by decide +kernel) (pa_cons (pe_ix (u_ix (K := K) rfl) (pv 0) pe_int (fun _ _ => rfl)) pa_nil)))
      (pss_cons (ps_for PassesOwn.never rfl (k_tup (K := K) rfl (pe_slice (u_sl (K := K) rfl) (pv 0) (po_some pe_int) po_none)) (pg_name (i := 2) sc_one_cell.nd rfl (by first | exact Or.inl rfl | exact Or.inr rfl))
      (pss_cons (ps_expr (k_bm (K := K) rfl PySem.F.plainAttrs_list PySem.F.slot_list_append PySem.F.type_list_append mt_append (pv 1) (pa_cons (pe_tup (pa_cons pe_str (pa_cons (pe_ref rfl m_NO_MARKS) pa_nil))) pa_nil)))
      (pss_one (ps_expr (k_bm (K := K) rfl PySem.F.plainAttrs_list PySem.F.slot_list_extend PySem.F.type_list_extend (mt_extK (K := K) rfl) (pv 1) (pa_cons (pv 2) pa_nil))))))
      (pss_one (ps_ret (pe_fn D_merged hr (by decide) rfl (pa_cons (pv 1) pa_nil)))))), ?_⟩
  cases cs with
  | nil => exact absurd rfl hne
  | cons c0 r =>
  cases xs with
  | nil => cases dA
  | cons x0 rest =>
  have dA' : DdAll K H (x0 :: rest) (ceD c0 :: r.map ceD) := dA
  cases dA' with
  | cons d0 dR =>
  obtain ⟨b0, ys0, rfl, sq0, dA0⟩ := dd_tup d0
  have rl : rest.length = r.length := by rw [ddA_len dR, List.length_map]
  have sl : ∀ {n : Nat}, n ≤ 3000 → n ≤ sizeLine := fun h => by rw [sizeLine_eq]; omega
  refine ⟨_, rfl, x_t sq atI_zero (lsU_q (.inr sq0) fun D hD => ?_)⟩
  refine newH hD fun H1 g1 s1 => ?_
  refine ⟨_, rfl, _, rfl, sl_t1 (g1.seqT sq) fun p1 H2 g2 sq2 => ?_⟩
  have g02 := g1.trans g2
  refine ⟨p1, rfl, ⟨_, sq2⟩, ?_⟩
  refine for_tup (K := K) (a := p1) (xs := rest) (fun i σ H' => ∃ (o2 : Option V) (ys : List V), σ = [some (.ref b), some (.ref D), o2] ∧ Gr H H' ∧ SqT K H' p1 rest ∧ H' D = some (.lst ys) ∧ DdAll K H' ys ((joinP c0 (r.take i)).map pcD))
    ⟨none, ys0, rfl, g02, sq2, g2.lst s1, by unfold joinP; rw [List.take_zero, List.flatMap_nil, List.append_nil]; exact g02.ddA _ _ dA0⟩ ?_ ?_ ?_
  · rintro i σ H' _ ⟨o2, ys, rfl, g, sq, _⟩
    exact sq
  · rintro i x σ H' hx ⟨o2, ys, rfl, g, sq, hL, hE⟩
    obtain ⟨d, hd, dd⟩ := ddA_map (g.ddA _ _ dR) hx
    have il := (List.getElem?_eq_some_iff.mp hd).1
    obtain ⟨b2, zs, rfl, sqz, dz⟩ := dd_tup dd
    have jo : ∀ xs ∈ c0 :: r.take (i + 1), OkC xs := fun xs hx => ok xs (by
      rcases List.mem_cons.mp hx with rfl | hx
      · exact List.mem_cons_self
      · exact List.mem_cons_of_mem _ (List.mem_of_mem_take hx))
    have l1 := pcs_len (joinP_ok jo)
    rw [fl_joinP] at l1
    have l2 := gl_take c0 r (i + 1)
    have e1 : joinP c0 (r.take (i + 1)) = joinP c0 (r.take i) ++ [SP] ++ cn d := by rw [take_snoc hd, joinP_snoc]
    have l3 : ys.length + 1 + zs.length ≤ 491 := by
      have q1 := ddA_len hE
      have q2 := ddA_len dz
      rw [List.length_map] at q1 q2
      rw [e1, List.length_append, List.length_append, List.length_singleton] at l1
      omega
    refine ⟨_, rfl, .inl ⟨rfl, _, SqL.of hL⟩, sl (by show 2 ≤ 3000; decide), fun p9 hp9 => ?_⟩
    refine newH hp9 fun H9 g9 s9 => ?_
    refine ⟨D, _, .ref p9, rfl, rfl, g9.lst hL, sl (by omega), ?_⟩
    have g10 := GrN.upd (ys := ys ++ [.ref p9]) (g9.lst hL)
    have n1 : Dd K H9 (.ref p9) (pcD SP) := .tup (SqT.of s9) (.cons (.str _) (.cons (.tup (sN _) (.cons (.str _) (.cons (.bl _) (.cons (.bl _) .nil)))) .nil))
    have hz10 : SqT K (upd H9 D (.lst (ys ++ [.ref p9]))) b2 zs := g10.seqT (g9.seqT sqz)
    refine ⟨_, rfl, .inl ⟨rfl, _, SqL.of upd_same⟩, _, rfl, D, b2, _, zs, rfl, rfl, upd_same, hz10, sl (by rw [List.length_append, List.length_singleton]; omega), ?_⟩
    have g11 := GrN.upd (H := upd H9 D (.lst (ys ++ [.ref p9]))) (ys := (ys ++ [.ref p9]) ++ zs) upd_same
    refine ⟨_, _, rfl, ((g.trans g9).upd' hD).upd' hD, g11.seqT (g10.seqT (g9.seqT sq)), upd_same, ?_⟩
    rw [e1, List.map_append, List.map_append]
    exact g11.ddA _ _ (noLstA_cl fun q hq => by
      simp only [List.mem_append, List.mem_map] at hq
      rcases hq with (⟨q, _, rfl⟩ | ⟨q, _, rfl⟩) | ⟨q, _, rfl⟩ <;> rfl) (ddA_app (ddA_app (g10.ddA _ _ (nl_pcs _) (g9.ddA _ _ hE)) (.cons (g10.dd _ _ rfl n1) .nil)) (g10.ddA _ _ (nl_pcs _) (g9.ddA _ _ dz)))
  · rintro σ H' ⟨o2, ys, rfl, g, sq, hL, hE⟩
    rw [rl, List.take_length] at hE
    refine ⟨_, rfl, D, ys, joinP c0 r, rfl, hL, hE, joinP_ok ok, by rw [fl_joinP]; omega, fun p H3 g3 d3 => ?_⟩
    rw [fl_joinP] at d3
    exact k p H3 (g.trans g3) d3
end
end Vf
end
section
set_option Elab.async false
set_option linter.all false
set_option maxRecDepth 100000
set_option maxHeartbeats 4000000
namespace Vf
open PySem PySem.Spec PyProof.Rows L2 GxR GenW RZ
theorem umC_eq {s t : Drp} (h3 : s "link" = t "link") (h4 : s "bold" = t "bold") (h5 : s "slant" = t "slant") : umC s = umC t := by
  funext xs
  unfold umC um
  rw [h3, h4, h5]
theorem map_umC_none {s : Drp} (h3 : s "link" = false) (h4 : s "bold" = false) (h5 : s "slant" = false) (cs : List Fc) : cs.map (umC s) = cs := by
  rw [umC_eq (t := none5) h3 h4 h5]
  conv => rhs; rw [← List.map_id cs]
  exact List.map_congr_left fun x _ => umC_none x
theorem opL_cells (l : Fln) : opL (one "cells") l = (l.1, [gl l.2]) := by
  unfold opL
  rw [show one "cells" "nest" = false by decide +kernel, show one "cells" "cells" = true by decide +kernel, map_umC_none (by decide +kernel) (by decide +kernel) (by decide +kernel)]
  rfl
theorem opL_nest (l : Fln) : opL (one "nest") l = (0, l.2) := by
  unfold opL
  rw [show one "nest" "nest" = true by decide +kernel, show one "nest" "cells" = false by decide +kernel, map_umC_none (by decide +kernel) (by decide +kernel) (by decide +kernel)]
  rfl
theorem opL_three {f : Str} (h : f ∈ three) (l : Fln) : opL (one f) l = (l.1, l.2.map (umC (one f))) := by
  have h1 : one f "nest" = false := by
    simp only [three, List.mem_cons, List.not_mem_nil, or_false] at h
    rcases h with rfl | rfl | rfl <;> decide +kernel
  have h2 : one f "cells" = false := by
    simp only [three, List.mem_cons, List.not_mem_nil, or_false] at h
    rcases h with rfl | rfl | rfl <;> decide +kernel
  unfold opL
  rw [h1, h2]
  rfl
def spDrop (K : PySem.W.Frag) : Sp := fun vs H Q _ => ∃ (v : V) (f : Str) (m : Fm), vs = [v, .str f] ∧ f ∈ five ∧ Dd K H v (coD m) ∧ OkF m ∧ ∀ p H', Gr H H' → Dd K H' (.ref p) (coD (op (one f) m)) → Q (.ref p) H'
theorem dd_line {K : PySem.W.Frag} {H : Hp} {p a : Addr} {d : Nat} {cs : List Fc} (h : H p = some (.tup [.int (d : Nat), .ref a])) (h2 : Dd K H (.ref a) (.tuple (cs.map ceD))) : Dd K H (.ref p) (liD (d, cs)) := .tup (SqT.of h) (.cons (.int _) (.cons h2 .nil))
section
variable {P : Program} {w : World} {K : PySem.W.Frag} {mg : Str → Option Value} {base : Heap}
theorem ok_drop {fd : FuncData} (F : FnP K "drop" s_drop fd) (T : TD K mg) (D_one_cell : Df P w K mg base "one_cell" 2 p_one_cell (spOne K)) (D_unmarked_cells : Df P w K mg base "unmarked_cells" 3 p_unmarked_cells (spUCells K)) : FnOk P w K mg base CX0 4 (He.fAd K ("drop", none)) fd p_drop (spDrop K) := by
  refine okP F sc_drop (fun vs H Q E h => by obtain ⟨v, f, m, rfl, _⟩ := h; rfl) (fun A outer s H vs Q E hr h => ?_)
  obtain ⟨v, f, m, rfl, hf, hd, ok, k⟩ := h
  obtain ⟨b, xs, rfl, sq, dA⟩ := dd_tup hd
  have sl : ∀ {n : Nat}, n ≤ 3000 → n ≤ sizeLine := fun h => by rw [sizeLine_eq]; omega
  have hm2 := ok.l2
  refine ⟨_, (pss_cons (ps_if (pt_cmpR (u_eq (K := K) rfl hr.units) (pv 1) pe_str (nomark _))
      (pss_one (ps_ret (k_tuple (K := K) rfl rfl T.b_tuple (pe_lc (own := [("depth", 2), ("cells", 3)])  (tt := tYes) rfl sc_drop.nd (k_tup (K := K) rfl (pv 0)) (blkOk_by (own := [("depth", 2), ("cells", 3)]) (N := n_drop) (sc := defScope s_drop) (by decide +kernel)) (fun _ _ _ _ _ => (kg_tup 2 (K := K) rfl rfl (pgs_cons (pg_name (i := 2) sc_drop.nd rfl (by first | exact Or.inl rfl | exact Or.inr rfl)) (pgs_cons (pg_name (i := 3) sc_drop.nd rfl (by first | exact Or.inl rfl | exact Or.inr rfl)) pgs_nil)))) (fun _ _ _ _ _ => pts_nil) (fun _ _ _ _ _ => (pe_tup (pa_cons (pv 2) (pa_cons (pe_tup (pa_cons (pe_fn D_one_cell hr (by decide) rfl (pa_cons (pv 3) pa_nil)) pa_nil)) pa_nil))))))))
      pss_nil)
      (pss_cons (ps_if (pt_cmpR (u_eq (K := K) rfl hr.units) (pv 1) pe_str (nomark _))
      (pss_one (ps_ret (k_tuple (K := K) rfl rfl T.b_tuple (pe_lc (own := [("_", 4), ("cells", 3)])  (tt := tYes) rfl sc_drop.nd (k_tup (K := K) rfl (pv 0)) (blkOk_by (own := [("_", 4), ("cells", 3)]) (N := n_drop) (sc := defScope s_drop) (by decide +kernel)) (fun _ _ _ _ _ => (kg_tup 2 (K := K) rfl rfl (pgs_cons (pg_name (i := 4) sc_drop.nd rfl (by first | exact Or.inl rfl | exact Or.inr rfl)) (pgs_cons (pg_name (i := 3) sc_drop.nd rfl (by first | exact Or.inl rfl | exact Or.inr rfl)) pgs_nil)))) (fun _ _ _ _ _ => pts_nil) (fun _ _ _ _ _ => (pe_tup (pa_cons pe_int (pa_cons (pv 3) pa_nil))))))))
      pss_nil)
      (pss_one (ps_ret (k_tuple (K := K) rfl rfl T.b_tuple (pe_lc (own := [("depth", 2), ("cells", 3)])  (tt := tYes) rfl sc_drop.nd (k_tup (K := K) rfl (pv 0)) (blkOk_by (own := [("depth", 2), ("cells", 3)]) (N := n_drop) (sc := defScope s_drop) (by decide +kernel)) (fun _ _ _ _ _ => (kg_tup 2 (K := K) rfl rfl (pgs_cons (pg_name (i := 2) sc_drop.nd rfl (by first | exact Or.inl rfl | exact Or.inr rfl)) (pgs_cons (pg_name (i := 3) sc_drop.nd rfl (by first | exact Or.inl rfl | exact Or.inr rfl)) pgs_nil)))) (fun _ _ _ _ _ => pts_nil) (fun _ _ _ _ _ => (pe_tup (pa_cons (pv 2) (pa_cons (pe_fn D_unmarked_cells hr (by decide) rfl (pa_cons (pv 3) (pa_cons (pv 1) pa_nil))) pa_nil)))))))))), ?_⟩
  by_cases f1 : f = "cells"
  · subst f1
    have d1 : decide (V.str "cells" = V.str "cells") = true := by decide +kernel
    refine ⟨_, rfl, e_flat rfl ⟨_, rfl, ?_⟩⟩
    rw [d1]
    refine iteT ⟨_, rfl, b, rfl, ⟨_, sq⟩, fun D hD => ?_⟩
    refine lc_dd (K := K) (f2 := liD) (h := opL (one "cells")) hD sq dA (by omega) nl_li ?_ ?_
    · intro i x l H' C hx hl g1 dl hC
      have ol := ok.l l (List.mem_of_getElem? hl)
      obtain ⟨b1, a1, ys, rfl, q1, q2, dA1⟩ := dd_li dl
      have c1 := ol.c1
      refine ⟨b1, _, rfl, q1, rfl, _, _, rfl, _, _, rfl, rfl, rfl, ?_⟩
      refine ⟨_, rfl, _, rfl, .ref a1, l.2, rfl, .tup q2 dA1, ol.c, (fun z => by rw [z] at c1; exact absurd c1 (by decide)), ol.c12, ol.g, fun p2 H2 g2 d2 => ?_⟩
      refine ⟨sl (by show 1 ≤ 3000; decide), fun p8 hp8 => ?_⟩
      refine newH hp8 fun H8 g8 s8 => ?_
      refine ⟨sl (by show 2 ≤ 3000; decide), fun p9 hp9 => ?_⟩
      refine newH hp9 fun H9 g9 s9 => ?_
      refine hC _ _ ((g2.trans g8).trans g9) ?_
      rw [opL_cells]
      exact .tup (SqT.of s9) (.cons (.int _) (.cons (.tup (SqT.of (g9.tup s8)) (.cons ((g8.trans g9).dd _ _ d2) .nil)) .nil))
    · intro H' ys g1 hL hE
      refine ⟨.inl ⟨D, _, rfl, SqL.of hL, fun p hp => ?_⟩⟩
      refine newH hp fun H1 g2 s1 => ?_
      exact k p H1 (g1.trans g2) (.tup (SqT.of s1) (g2.ddA _ _ hE))
  have d1 : decide (V.str f = V.str "cells") = false := decide_eq_false fun z => f1 (V.str.inj z)
  refine ⟨_, rfl, e_flat rfl ⟨_, rfl, ?_⟩⟩
  rw [d1]
  refine iteF ?_
  by_cases f2 : f = "nest"
  · subst f2
    have d2 : decide (V.str "nest" = V.str "nest") = true := by decide +kernel
    refine ⟨_, rfl, e_flat rfl ⟨_, rfl, ?_⟩⟩
    rw [d2]
    refine iteT ⟨_, rfl, b, rfl, ⟨_, sq⟩, fun D hD => ?_⟩
    refine lc_dd (K := K) (f2 := liD) (h := opL (one "nest")) hD sq dA (by omega) nl_li ?_ ?_
    · intro i x l H' C hx hl g1 dl hC
      obtain ⟨b1, a1, ys, rfl, q1, q2, dA1⟩ := dd_li dl
      refine ⟨b1, _, rfl, q1, rfl, _, _, rfl, _, _, rfl, rfl, rfl, ?_⟩
      refine ⟨_, rfl, sl (by show 2 ≤ 3000; decide), fun p9 hp9 => ?_⟩
      refine newH hp9 fun H9 g9 s9 => ?_
      refine hC _ _ g9 ?_
      rw [opL_nest]
      exact .tup (SqT.of s9) (.cons (.int _) (.cons (g9.dd _ _ (.tup q2 dA1)) .nil))
    · intro H' ys g1 hL hE
      refine ⟨.inl ⟨D, _, rfl, SqL.of hL, fun p hp => ?_⟩⟩
      refine newH hp fun H1 g2 s1 => ?_
      exact k p H1 (g1.trans g2) (.tup (SqT.of s1) (g2.ddA _ _ hE))
  have d2 : decide (V.str f = V.str "nest") = false := decide_eq_false fun z => f2 (V.str.inj z)
  have f3 : f ∈ three := by
    simp only [five, List.mem_cons, List.not_mem_nil, or_false] at hf
    rcases hf with h | h | h | h | h
    · exact absurd h f1
    · exact absurd h f2
    · rw [h]; simp [three]
    · rw [h]; simp [three]
    · rw [h]; simp [three]
  refine ⟨_, rfl, e_flat rfl ⟨_, rfl, ?_⟩⟩
  rw [d2]
  refine iteF ⟨_, rfl, b, rfl, ⟨_, sq⟩, fun D hD => ?_⟩
  refine lc_dd (K := K) (f2 := liD) (h := opL (one f)) hD sq dA (by omega) nl_li ?_ ?_
  · intro i x l H' C hx hl g1 dl hC
    have ol := ok.l l (List.mem_of_getElem? hl)
    obtain ⟨b1, a1, ys, rfl, q1, q2, dA1⟩ := dd_li dl
    refine ⟨b1, _, rfl, q1, rfl, _, _, rfl, _, _, rfl, rfl, rfl, ?_⟩
    refine ⟨_, rfl, _, rfl, _, rfl, .ref a1, f, l.2, rfl, f3, .tup q2 dA1, (fun xs hx => ⟨ol.c xs hx, Nat.le_trans (gl_ge hx) ol.g⟩), ol.c12, fun p2 H2 g2 d2 => ?_⟩
    refine ⟨sl (by show 2 ≤ 3000; decide), fun p9 hp9 => ?_⟩
    refine newH hp9 fun H9 g9 s9 => ?_
    refine hC _ _ (g2.trans g9) ?_
    rw [opL_three f3]
    exact .tup (SqT.of s9) (.cons (.int _) (.cons (g9.dd _ _ d2) .nil))
  · intro H' ys g1 hL hE
    refine ⟨.inl ⟨D, _, rfl, SqL.of hL, fun p hp => ?_⟩⟩
    refine newH hp fun H1 g2 s1 => ?_
    exact k p H1 (g1.trans g2) (.tup (SqT.of s1) (g2.ddA _ _ hE))
end
end Vf
end
section
set_option Elab.async false
set_option linter.all false
set_option maxRecDepth 100000
set_option maxHeartbeats 4000000
namespace Vf
open PySem PySem.Spec PyProof.Rows L2 GxR GenW RZ
abbrev s__law_keeping : Stmt := top 39
abbrev n__law_keeping : List Str := ["content", "features", "feature"]
abbrev p__law_keeping : List Str := ["content", "features"]
theorem sc__law_keeping : FnScope n__law_keeping p__law_keeping (defScope s__law_keeping) := ⟨rfl, rfl, rfl, by decide +kernel, rfl, by decide +kernel, by decide +kernel⟩

abbrev s__law_features_of : Stmt := top 40
abbrev n__law_features_of : List Str := ["content", "some", "feature"]
abbrev p__law_features_of : List Str := ["content"]
theorem sc__law_features_of : FnScope n__law_features_of p__law_features_of (defScope s__law_features_of) := ⟨rfl, rfl, rfl, by decide +kernel, rfl, by decide +kernel, by decide +kernel⟩

abbrev s__law_dropped : Stmt := top 38
abbrev n__law_dropped : List Str := ["content", "feature", "found", "depth", "cells", "parts", "cell", "place", "bare", "rows", "text", "marks"]
abbrev p__law_dropped : List Str := ["content", "feature"]
theorem sc__law_dropped : FnScope n__law_dropped p__law_dropped (defScope s__law_dropped) := ⟨rfl, rfl, rfl, by decide +kernel, rfl, by decide +kernel, by decide +kernel⟩

def keepS (L fs : List Str) : Drp := fun g => decide (g ∈ L) && !decide (g ∈ fs)
theorem keep_step {L fs : List Str} {f : Str} (h : f ∉ fs) (m : Fm) : op (one f) (op (keepS L fs) m) = op (keepS (L ++ [f]) fs) m := by
  rw [op_op]
  refine op_congr (fun g _ => ?_) m
  unfold orD one keepS
  by_cases e : g = f
  · subst e
    simp [h]
  · simp [e]
theorem keep_skip {L fs : List Str} {f : Str} (h : f ∈ fs) (m : Fm) : op (keepS L fs) m = op (keepS (L ++ [f]) fs) m := by
  refine op_congr (fun g _ => ?_) m
  unfold keepS
  by_cases e : g = f
  · subst e
    simp [h]
  · simp [e]
theorem keep_nil (fs : List Str) (m : Fm) : op (keepS [] fs) m = m := by
  rw [show keepS [] fs = none5 from by funext g; simp [keepS, none5], op_none]
def keepM (fs : List Str) (m : Fm) : Fm := op (keepS five fs) m
theorem keep_any {L : List Str} (h : ∀ f, f ∈ L ↔ f ∈ five) (fs : List Str) (m : Fm) : op (keepS L fs) m = keepM fs m := by
  refine op_congr (fun g _ => ?_) m
  unfold keepS
  rw [decide_eq_decide.mpr (h g)]
def usedF (m : Fm) : List Str := five.filter fun f => !PyData.eqv (coD (op (one f) m)) (coD m)
def spKeep (K : PySem.W.Frag) : Sp := fun vs H Q _ => ∃ (v : V) (a : Addr) (fs : List Str) (m : Fm), vs = [v, .ref a] ∧ SqT K H a (strV fs) ∧ Dd K H v (coD m) ∧ OkF m ∧ ∀ v' H', Gr H H' → Dd K H' v' (coD (keepM fs m)) → Q v' H'
def spUsed (K : PySem.W.Frag) : Sp := fun vs H Q _ => ∃ (v : V) (m : Fm), vs = [v] ∧ Dd K H v (coD m) ∧ OkF m ∧ ∀ p H', Gr H H' → SqT K H' p (strV (usedF m)) → Q (.ref p) H'
def other5 : List Str := ["slant", "link", "cells", "bold", "nest"]
theorem other_five (f : Str) : f ∈ other5 ↔ f ∈ five := by
  simp only [other5, five, List.mem_cons, List.not_mem_nil, or_false]
  constructor
  · rintro (h | h | h | h | h) <;> simp [h]
  · rintro (h | h | h | h | h) <;> simp [h]
theorem strV_get {l : List Str} {i : Nat} {x : V} (h : (strV l)[i]? = some x) : ∃ f, l[i]? = some f ∧ x = .str f := by
  unfold strV at h
  rw [List.getElem?_map] at h
  cases e : l[i]? with
  | none => rw [e] at h; cases h
  | some f =>
    rw [e] at h
    cases h
    exact ⟨f, rfl, rfl⟩
theorem strV_flat (l : List Str) : (strV l).all flatV = true := flat_strs l
section
variable {P : Program} {w : World} {K : PySem.W.Frag} {mg : Str → Option Value} {base : Heap}
theorem ok_keep {fd : FuncData} (F : FnP K "keep" s_keep fd) (T : TD K mg) (D_drop : Df P w K mg base "drop" 4 p_drop (spDrop K)) : FnOk P w K mg base CX0 5 (He.fAd K ("keep", none)) fd p_keep (spKeep K) := by
  obtain ⟨aF, m_FEATURES, sF⟩ := T.c_FEATURES
  refine okP F sc_keep (fun vs H Q E h => by obtain ⟨v, a, fs, m, rfl, _⟩ := h; rfl) (fun A outer s H vs Q E hr h => ?_)
  obtain ⟨v, a, fs, m, rfl, hf, hd, ok, k⟩ := h
  refine ⟨_, (pss_cons (ps_set (i := 2) sc_keep.nd rfl (by first | exact Or.inl rfl | exact Or.inr rfl) (pv 0))
      (pss_cons (ps_for PassesOwn.never rfl (k_tup (K := K) rfl (pe_ref rfl m_FEATURES)) (pg_name (i := 3) sc_keep.nd rfl (by first | exact Or.inl rfl | exact Or.inr rfl))
      (pss_one (ps_if (pt_cmpR (u_ni (K := K) rfl) (pv 3) (pv 1) (by first | exact nomark _ | rfl))
      (pss_one (ps_set (i := 2) sc_keep.nd rfl (by first | exact Or.inl rfl | exact Or.inr rfl) (pe_fn D_drop hr (by decide) rfl (pa_cons (pv 2) (pa_cons (pv 3) pa_nil)))))
      pss_nil)))
      (pss_one (ps_ret (pv 2))))), ?_⟩
  refine ⟨_, rfl, aF, rfl, ⟨_, sF _⟩, ?_⟩
  refine for_tup (K := K) (a := aF) (xs := strV five) (fun i σ H' => ∃ (v' : V) (o3 : Option V), σ = [some v, some (.ref a), some v', o3] ∧ Gr H H' ∧ Dd K H' v' (coD (op (keepS (five.take i) fs) m)))
    ⟨v, none, rfl, Gr.refl _, by rw [List.take_zero, keep_nil]; exact hd⟩ (fun i σ H' _ _ => sF _) ?_ ?_
  · rintro i x σ H' hx ⟨v', o3, rfl, g, d⟩
    obtain ⟨f, hfi, rfl⟩ := strV_get hx
    refine ⟨_, rfl, _, rfl, ni_seq (.inr (g.seqT hf)) rfl (strV_flat _) ⟨_, rfl, ?_⟩⟩
    by_cases hin : f ∈ fs
    · rw [inV_str.mpr hin]
      refine iteF ⟨_, _, rfl, g, ?_⟩
      rw [take_snoc hfi, ← keep_skip hin]
      exact d
    · have e : inV (.str f) (strV fs) = false := Bool.eq_false_iff.mpr fun z => hin (inV_str.mp z)
      rw [e]
      refine iteT ⟨_, rfl, _, rfl, v', f, _, rfl, List.mem_of_getElem? hfi, d, ok.op _, fun p H2 g2 d2 => ?_⟩
      refine ⟨_, _, rfl, g.trans g2, ?_⟩
      rw [take_snoc hfi, ← keep_step hin]
      exact d2
  · rintro σ H' ⟨v', o3, rfl, g, d⟩
    exact ⟨_, rfl, k v' H' g d⟩
theorem ok_lkeep {fd : FuncData} (F : FnP K "_law_keeping" s__law_keeping fd) (T : TD K mg) (D__law_dropped : Df P w K mg base "_law_dropped" 2 p__law_dropped (spDrop K)) : FnOk P w K mg base CX0 3 (He.fAd K ("_law_keeping", none)) fd p__law_keeping (spKeep K) := by
  refine okP F sc__law_keeping (fun vs H Q E h => by obtain ⟨v, a, fs, m, rfl, _⟩ := h; rfl) (fun A outer s H vs Q E hr h => ?_)
  obtain ⟨v, a, fs, m, rfl, hf, hd, ok, k⟩ := h
  refine ⟨_, (pss_cons (ps_for PassesOwn.never rfl (k_tup (K := K) rfl (pe_tup (pa_cons pe_str (pa_cons pe_str (pa_cons pe_str (pa_cons pe_str (pa_cons pe_str pa_nil))))))) (pg_name (i := 2) sc__law_keeping.nd rfl (by first | exact Or.inl rfl | exact Or.inr rfl))
      (pss_one (ps_if (pt_cmpR (u_ni (K := K) rfl) (pv 2) (pv 1) (by first | exact nomark _ | rfl))
      (pss_one (ps_set (i := 0) sc__law_keeping.nd rfl (by first | exact Or.inl rfl | exact Or.inr rfl) (pe_fn D__law_dropped hr (by decide) rfl (pa_cons (pv 0) (pa_cons (pv 2) pa_nil)))))
      pss_nil)))
      (pss_one (ps_ret (pv 0)))), ?_⟩
  refine ⟨by show 5 ≤ sizeLine; rw [sizeLine_eq]; decide, fun p0 hp0 => ?_⟩
  refine newH hp0 fun H0 g0 s0 => ?_
  refine ⟨p0, rfl, ⟨_, SqT.of s0⟩, ?_⟩
  refine for_tup (K := K) (a := p0) (xs := strV other5) (fun i σ H' => ∃ (v' : V) (o3 : Option V), σ = [some v', some (.ref a), o3] ∧ Gr H0 H' ∧ Dd K H' v' (coD (op (keepS (other5.take i) fs) m)))
    ⟨v, none, rfl, Gr.refl _, by rw [List.take_zero, keep_nil]; exact g0.dd _ _ hd⟩ (fun i σ H' _ ⟨_, _, _, g, _⟩ => SqT.of (g.tup s0)) ?_ ?_
  · rintro i x σ H' hx ⟨v', o3, rfl, g, d⟩
    obtain ⟨f, hfi, rfl⟩ := strV_get hx
    refine ⟨_, rfl, _, rfl, ni_seq (.inr ((g0.trans g).seqT hf)) rfl (strV_flat _) ⟨_, rfl, ?_⟩⟩
    by_cases hin : f ∈ fs
    · rw [inV_str.mpr hin]
      refine iteF ⟨_, _, rfl, g, ?_⟩
      rw [take_snoc hfi, ← keep_skip hin]
      exact d
    · have e : inV (.str f) (strV fs) = false := Bool.eq_false_iff.mpr fun z => hin (inV_str.mp z)
      rw [e]
      refine iteT ⟨_, rfl, _, rfl, v', f, _, rfl, (other_five f).mp (List.mem_of_getElem? hfi), d, ok.op _, fun p H2 g2 d2 => ?_⟩
      refine ⟨_, _, rfl, g.trans g2, ?_⟩
      rw [take_snoc hfi, ← keep_step hin]
      exact d2
  · rintro σ H' ⟨v', o3, rfl, g, d⟩
    refine ⟨_, rfl, k v' H' (g0.trans g) ?_⟩
    rw [← keep_any other_five]
    exact d
theorem ok_used {fd : FuncData} (F : FnP K "used" s_used fd) (T : TD K mg) (D_drop : Df P w K mg base "drop" 4 p_drop (spDrop K)) : FnOk P w K mg base CX0 5 (He.fAd K ("used", none)) fd p_used (spUsed K) := by
  obtain ⟨aF, m_FEATURES, sF⟩ := T.c_FEATURES
  refine okP F sc_used (fun vs H Q E h => by obtain ⟨v, m, rfl, _⟩ := h; rfl) (fun A outer s H vs Q E hr h => ?_)
  obtain ⟨v, m, rfl, hd, ok, k⟩ := h
  refine ⟨_, (pss_one (ps_ret (k_tuple (K := K) rfl rfl T.b_tuple (pe_lc (own := [("feature", 1)]) (g := gName 1) rfl sc_used.nd (k_tup (K := K) rfl (pe_ref rfl m_FEATURES)) (blkOk_by (own := [("feature", 1)]) (N := n_used) (sc := defScope s_used) (by decide +kernel)) (fun _ _ _ _ _ => (pg_name (i := 1) sc_used.nd rfl (by first | exact Or.inl rfl | exact Or.inr rfl))) (fun _ _ _ _ _ => (pts_one (pt_cmpR (u_ne (K := K) rfl hr.units) (pe_fn D_drop hr (by decide) rfl (pa_cons (pv 0) (pa_cons (pv 1) pa_nil))) (pv 0) (nomark _)))) (fun _ _ _ _ _ => (pv 1)))))), ?_⟩
  refine ⟨aF, rfl, ⟨_, sF _⟩, fun D hD => ?_⟩
  refine lc_tup (K := K) (a := aF) (xs := strV five) (fun i H' => Gr H H' ∧ H' D = some (.lst (strV ((five.take i).filter fun f => !PyData.eqv (coD (op (one f) m)) (coD m))))) ⟨Gr.new hD, upd_same⟩ (fun i H' _ _ => sF _) ?_ ?_
  · rintro i x H' hx ⟨g, hL⟩
    obtain ⟨f, hfi, rfl⟩ := strV_get hx
    have okd := ok.op (one f)
    refine ⟨rfl, ?_⟩
    refine ⟨_, rfl, _, rfl, v, f, m, rfl, List.mem_of_getElem? hfi, g.dd _ _ hd, ok, fun p H2 g2 d2 => ?_⟩
    refine ⟨_, rfl, n_data ((cl_co okd).dp d2) ((cl_co ok).dp ((g.trans g2).dd _ _ hd)) ((cl_co okd).shaped (by decide)) ((cl_co ok).shaped (by decide)) ⟨_, rfl, ?_⟩⟩
    have ll : ((five.take i).filter fun f => !PyData.eqv (coD (op (one f) m)) (coD m)).length < 100 := by
      have q1 := List.length_filter_le (fun f => !PyData.eqv (coD (op (one f) m)) (coD m)) (five.take i)
      have q2 : (five.take i).length ≤ 5 := by rw [List.length_take]; exact Nat.min_le_right _ _
      omega
    cases hb : PyData.eqv (coD (op (one f) m)) (coD m) with
    | true =>
      refine iteF ⟨g.trans g2, ?_⟩
      rw [take_snoc hfi, List.filter_append, List.filter_cons_of_neg (by simp [hb]), List.filter_nil, List.append_nil]
      exact g2.lst hL
    | false =>
      refine iteT ⟨_, rfl, _, g2.lst hL, by show (List.map V.str _).length < _; rw [List.length_map, sizeLine_eq]; omega, (g.trans g2).upd' hD, ?_⟩
      rw [upd_same, take_snoc hfi, List.filter_append, List.filter_cons_of_pos (by simp [hb]), List.filter_nil]
      unfold strV
      rw [List.map_append]; rfl
  · rintro H' ⟨g, hL⟩
    refine ⟨.inl ⟨D, _, rfl, SqL.of hL, fun p hp => ?_⟩⟩
    refine newH hp fun H1 g2 s1 => ?_
    exact k p H1 (g.trans g2) (SqT.of s1)
theorem ok_feat {fd : FuncData} (F : FnP K "_law_features_of" s__law_features_of fd) (T : TD K mg) (D__law_dropped : Df P w K mg base "_law_dropped" 2 p__law_dropped (spDrop K)) : FnOk P w K mg base CX0 3 (He.fAd K ("_law_features_of", none)) fd p__law_features_of (spUsed K) := by
  refine okP F sc__law_features_of (fun vs H Q E h => by obtain ⟨v, m, rfl, _⟩ := h; rfl) (fun A outer s H vs Q E hr h => ?_)
  obtain ⟨v, m, rfl, hd, ok, k⟩ := h
  refine ⟨_, (pss_cons (ps_set (i := 1) sc__law_features_of.nd rfl (by first | exact Or.inl rfl | exact Or.inr rfl) (pe_tup (pa_cons pe_str (pa_cons pe_str (pa_cons pe_str (pa_cons pe_str (pa_cons pe_str pa_nil)))))))
      (pss_one (ps_ret (k_tuple (K := K) rfl rfl T.b_tuple (pe_lc (own := [("feature", 2)]) (g := gName 2) rfl sc__law_features_of.nd (k_tup (K := K) rfl (pv 1)) (blkOk_by (own := [("feature", 2)]) (N := n__law_features_of) (sc := defScope s__law_features_of) (by decide +kernel)) (fun _ _ _ _ _ => (pg_name (i := 2) sc__law_features_of.nd rfl (by first | exact Or.inl rfl | exact Or.inr rfl))) (fun _ _ _ _ _ => (pts_one (pt_cmpR (u_ne (K := K) rfl hr.units) (pe_fn D__law_dropped hr (by decide) rfl (pa_cons (pv 0) (pa_cons (pv 2) pa_nil))) (pv 0) (nomark _)))) (fun _ _ _ _ _ => (pv 2))))))), ?_⟩
  refine ⟨by show 5 ≤ sizeLine; rw [sizeLine_eq]; decide, fun p0 hp0 => ?_⟩
  refine newH hp0 fun H0 g0 s0 => ?_
  have hd0 := g0.dd _ _ hd
  refine ⟨_, rfl, p0, rfl, ⟨_, SqT.of s0⟩, fun D hD => ?_⟩
  refine lc_tup (K := K) (a := p0) (xs := strV five) (fun i H' => Gr H0 H' ∧ H' D = some (.lst (strV ((five.take i).filter fun f => !PyData.eqv (coD (op (one f) m)) (coD m))))) ⟨Gr.new hD, upd_same⟩ (fun i H' _ ⟨g, _⟩ => SqT.of (g.tup s0)) ?_ ?_
  · rintro i x H' hx ⟨g, hL⟩
    obtain ⟨f, hfi, rfl⟩ := strV_get hx
    have okd := ok.op (one f)
    refine ⟨rfl, ?_⟩
    refine ⟨_, rfl, _, rfl, v, f, m, rfl, List.mem_of_getElem? hfi, g.dd _ _ hd0, ok, fun p H2 g2 d2 => ?_⟩
    refine ⟨_, rfl, n_data ((cl_co okd).dp d2) ((cl_co ok).dp ((g.trans g2).dd _ _ hd0)) ((cl_co okd).shaped (by decide)) ((cl_co ok).shaped (by decide)) ⟨_, rfl, ?_⟩⟩
    have ll : ((five.take i).filter fun f => !PyData.eqv (coD (op (one f) m)) (coD m)).length < 100 := by
      have q1 := List.length_filter_le (fun f => !PyData.eqv (coD (op (one f) m)) (coD m)) (five.take i)
      have q2 : (five.take i).length ≤ 5 := by rw [List.length_take]; exact Nat.min_le_right _ _
      omega
    cases hb : PyData.eqv (coD (op (one f) m)) (coD m) with
    | true =>
      refine iteF ⟨g.trans g2, ?_⟩
      rw [take_snoc hfi, List.filter_append, List.filter_cons_of_neg (by simp [hb]), List.filter_nil, List.append_nil]
      exact g2.lst hL
    | false =>
      refine iteT ⟨_, rfl, _, g2.lst hL, by show (List.map V.str _).length < _; rw [List.length_map, sizeLine_eq]; omega, (g.trans g2).upd' hD, ?_⟩
      rw [upd_same, take_snoc hfi, List.filter_append, List.filter_cons_of_pos (by simp [hb]), List.filter_nil]
      unfold strV
      rw [List.map_append]; rfl
  · rintro H' ⟨g, hL⟩
    refine ⟨.inl ⟨D, _, rfl, SqL.of hL, fun p hp => ?_⟩⟩
    refine newH hp fun H1 g2 s1 => ?_
    exact k p H1 ((g0.trans g).trans g2) (SqT.of s1)
end
end Vf
end
section
set_option Elab.async false
set_option linter.all false
set_option maxRecDepth 100000
set_option maxHeartbeats 4000000
namespace Vf
open PySem PySem.Spec PyProof.Rows L2 GxR GenW RZ
abbrev s__law_joined : Stmt := top 34
abbrev n__law_joined : List Str := ["parts", "found", "text", "marks"]
abbrev p__law_joined : List Str := ["parts"]
theorem sc__law_joined : FnScope n__law_joined p__law_joined (defScope s__law_joined) := ⟨rfl, rfl, rfl, by decide +kernel, rfl, by decide +kernel, by decide +kernel⟩

theorem sl_any {K : PySem.W.Frag} {H : Hp} {Q : VK} {a : Addr} {xs : List V} {lo hi : Option Int} (h : SqT K H a xs) (q : ∀ p H', Gr H H' → SqT K H' p (cutV xs lo hi) → Q (.ref p) H') : rSlU K (.ref a) lo hi H Q := by
  refine sl_t h (fun z => ?_) (fun _ p hp => ?_)
  · have e : cutV xs lo hi = xs := by
      unfold cutV
      rw [z.1, z.2]
      simp
    exact q a H (Gr.refl H) (by rw [e]; exact h)
  · exact newH hp fun H1 g1 s1 => q p H1 g1 (SqT.of s1)
theorem a_tA {K : PySem.W.Frag} {H : Hp} {Q : VK} {a b : Addr} {xs ys : List V} (h1 : SqT K H a xs) (h2 : SqT K H b ys) (h : xs.length + ys.length ≤ sizeLine) (q : ∀ p H', Gr H H' → SqT K H' p (xs ++ ys) → Q (.ref p) H') : rAdd K (.ref a) (.ref b) H Q := by
  refine a_tt h1 h2 h (fun z => ?_) (fun _ z => ?_) (fun _ _ p hp => ?_)
  · subst z
    exact q b H (Gr.refl H) h2
  · subst z
    rw [List.append_nil] at q
    exact q a H (Gr.refl H) h1
  · exact newH hp fun H1 g1 s1 => q p H1 g1 (SqT.of s1)
/-- mark j of a text's marks, cleared -/
def bareV (j : Nat) : V := match j with
  | 0 => .str ""
  | 1 => .bl false
  | _ => .bl false
def mkV (m : Mk3) : List V := [.str m.1, .bl m.2.1, .bl m.2.2]
theorem three_ix {f : Str} (h : f ∈ three) : ∃ j : Nat, j < 3 ∧ three[j]? = some f ∧ (∀ n, n < j → three[n]? ≠ some f) ∧ atI [V.str "", V.bl false, V.bl false] (j : Int) = some (bareV j) ∧
    ∀ m : Mk3, (cutV (mkV m) none (some (j : Int)) ++ [bareV j]) ++ cutV (mkV m) (some ((j : Int) + 1)) none = mkV (um (one f) m) := by
  simp only [three, List.mem_cons, List.not_mem_nil, or_false] at h
  rcases h with rfl | rfl | rfl
  · refine ⟨0, by decide, rfl, (fun n hn => absurd hn (Nat.not_lt_zero _)), rfl, fun m => ?_⟩
    rw [um_link]; rfl
  · refine ⟨1, by decide, rfl, ?_, rfl, fun m => ?_⟩
    · intro n hn
      have e : n = 0 := by omega
      subst e
      decide +kernel
    · rw [um_bold]; rfl
  · refine ⟨2, by decide, rfl, ?_, rfl, fun m => ?_⟩
    · intro n hn
      rcases (show n = 0 ∨ n = 1 by omega) with rfl | rfl <;> decide +kernel
    · rw [um_slant]; rfl
theorem dd_mkV {K : PySem.W.Frag} {H : Hp} {p : Addr} {m : Mk3} (h : SqT K H p (mkV m)) : Dd K H (.ref p) (mkD m) := .tup h (.cons (.str _) (.cons (.bl _) (.cons (.bl _) .nil)))
section
variable {P : Program} {w : World} {K : PySem.W.Frag} {mg : Str → Option Value} {base : Heap}
theorem ok_joined {fd : FuncData} (F : FnP K "_law_joined" s__law_joined fd) (T : TD K mg) : FnOk P w K mg base CX0 1 (He.fAd K ("_law_joined", none)) fd p__law_joined (spMerged K) := by
  refine okP F sc__law_joined (fun vs H Q E h => by obtain ⟨a, xs, ps, rfl, _⟩ := h; rfl) (fun A outer s H vs Q E hr h => ?_)
  obtain ⟨a, xs, ps, rfl, hL, hA, hp, hz, k⟩ := h
  have hl : xs.length = ps.length := by rw [ddA_len hA, List.length_map]
  have hpl := pcs_len hp
  refine ⟨_, (pss_cons (ps_set (i := 1) sc__law_joined.nd rfl (by first | exact Or.inl rfl | exact Or.inr rfl) (pe_lst pa_nil))
      (pss_cons (ps_for PassesOwn.never rfl (k_list (K := K) rfl (pv 0)) (kg_tup 2 (K := K) rfl rfl (pgs_cons (pg_name (i := 2) sc__law_joined.nd rfl (by first | exact Or.inl rfl | exact Or.inr rfl)) (pgs_cons (pg_name (i := 3) sc__law_joined.nd rfl (by first | exact Or.inl rfl | exact Or.inr rfl)) pgs_nil)))
      (pss_one (ps_if (PW.pt (pw_and (pt_cmpR (u_neW (K := K) rfl hr.units) (pv 2) pe_str (nomark _)) (pw_and (pt_cmpR (u_neW (K := K) rfl hr.units) (pv 1) (pe_lst pa_nil) (nomark _)) (pw_and1 (pt_cmpR (u_eqW (K := K) rfl hr.units) (pe_ix (u_ix (K := K) rfl) (pe_ix (u_ix (K := K) rfl) (pv 1) (pe_un un_neg pe_int) (fun _ _ => rfl)) pe_int (fun _ _ => rfl)) (pv 3) (nomark _))))))
      (pss_one (ps_asg (pe_tup (pa_cons (pe_op (u_add (K := K) rfl) (pe_ix (u_ix (K := K) rfl) (pe_ix (u_ix (K := K) rfl) (pv 1) (pe_un un_neg pe_int) (fun _ _ => rfl)) pe_int (fun _ _ => rfl)) (pv 2)) (pa_cons (pv 3) pa_nil))) (pg_sub (pv 1) (pe_un un_neg pe_int) set_list)))
      (pss_one (ps_if (pt_cmpR (u_neW (K := K) rfl hr.units) (pv 2) pe_str (nomark _))
      (pss_one (ps_expr (k_bm (K := K) rfl PySem.F.plainAttrs_list PySem.F.slot_list_append PySem.F.type_list_append mt_append (pv 1) (pa_cons (pe_tup (pa_cons (pv 2) (pa_cons (pv 3) pa_nil))) pa_nil))))
      pss_nil)))))
      (pss_one (ps_ret (k_tuple (K := K) rfl rfl T.b_tuple (pv 1)))))), ?_⟩
  refine ⟨Nat.zero_le _, fun D hD => ?_⟩
  have aD : a ≠ D := ne_of_none hL hD
  refine ⟨_, rfl, a, rfl, ⟨_, SqL.of (by rw [upd_ne aD]; exact hL)⟩, ?_⟩
  refine for_list (K := K) (a := a) (xs := xs) (fun i σ H' => ∃ (o2 o3 : Option V) (ys : List V), σ = [some (.ref a), some (.ref D), o2, o3] ∧ Gr H H' ∧ H' D = some (.lst ys) ∧ DdAll K H' ys (((ps.take i).foldl putp []).map pcD))
    ⟨none, none, [], rfl, Gr.new hD, upd_same, .nil⟩ ?_ ?_ ?_
  · rintro i σ H' _ ⟨o2, o3, ys, rfl, g, _⟩
    exact SqL.of (g.lst hL)
  · rintro i x σ H' hx ⟨o2, o3, ys, rfl, g, hLd, hE⟩
    obtain ⟨p, hpi, dp⟩ := ddA_map hA hx
    have hpm := List.mem_of_getElem? hpi
    have il := (List.getElem?_eq_some_iff.mp hpi).1
    obtain ⟨b, w1, rfl, q1, dm⟩ := dd_pc (g.dd _ _ dp)
    have e1 : (ps.take (i + 1)).foldl putp [] = putp ((ps.take i).foldl putp []) p := by rw [take_snoc hpi, List.foldl_append]; rfl
    have ec : (ps.take i).foldl putp [] = cn (fl (ps.take i)) := jn_cn fun q hq => (hp q (List.mem_of_mem_take hq)).1
    have lp := pc_len hpm
    have ft := fl_take ps i
    generalize hC : (ps.take i).foldl putp [] = C at hE e1 ec
    have mkC : ∀ q ∈ C, q.2.1 ∈ LK4 := by
      intro q hq
      rw [ec] at hq
      obtain ⟨c, hc⟩ := cn_mk hq
      obtain ⟨r, hr, z⟩ := List.mem_flatMap.mp hc
      obtain ⟨c2, _, z⟩ := List.mem_map.mp z
      have z2 : r.2 = q.2 := congrArg (fun y : Ch => y.2) z
      rw [← z2]
      exact (hp r (List.mem_of_mem_take hr)).2
    have lC : ∀ q ∈ C, q.1.length ≤ 1000 := by
      intro q hq
      have := pc_len hq
      rw [ec, fl_cn] at this
      omega
    have lC2 : C.length ≤ 1000 := by
      rw [ec]
      have := pcs_len (ps := cn (fl (ps.take i))) fun q hq => ⟨cn_ne _ q hq, mkC q (by rw [ec]; exact hq)⟩
      rw [fl_cn] at this
      omega
    have sl : ∀ {n : Nat}, n ≤ 3000 → n ≤ sizeLine := fun h => by rw [sizeLine_eq]; omega
    have yl : ys.length = C.length := by rw [ddA_len hE, List.length_map]
    have ne0 : (!decide (V.str p.1 = V.str "")) = true := by
      have : ¬ V.str p.1 = V.str "" := fun z => (hp p hpm).1 (by rw [V.str.inj z]; decide +kernel)
      simp [this]
    refine ⟨b, _, rfl, q1, rfl, _, _, rfl, _, _, rfl, rfl, ?_⟩
    refine ⟨_, rfl, wn_flat rfl ⟨_, rfl, ?_⟩⟩
    rw [ne0]
    refine iteT ⟨_, rfl, Nat.zero_le _, fun l2 hl2 => ?_⟩
    refine newH hl2 fun H2 g2 s2 => ?_
    have hL2 := g2.lst hLd
    have hE2 := g2.ddA _ _ hE
    have dm2 := g2.dd _ _ dm
    have w1dp : Dp K H2 w1 (mkD p.2) := (cl_mk (hp p hpm).2).dp dm2
    have w1sh : SeqAt.shaped (mkD p.2) = true := (cl_mk (hp p hpm).2).shaped (by decide)
    refine wn_nil (SqL.of hL2) (SqL.of s2) ⟨_, rfl, ?_⟩
    rcases snoc_cases C with rfl | ⟨C0, q0, rfl⟩
    · cases hE
      refine iteF (iteF ?_)
      refine ⟨_, rfl, wn_flat rfl ⟨_, rfl, ?_⟩⟩
      rw [ne0]
      refine iteT ⟨_, rfl, .inl ⟨rfl, _, SqL.of hL2⟩, _, rfl, _, rfl, sl (by show 2 ≤ 3000; decide), fun p9 hp9 => ?_⟩
      refine newH hp9 fun H9 g9 s9 => ?_
      refine ⟨D, _, .ref p9, rfl, rfl, g9.lst hL2, sl (by show 0 < 3000; decide), ?_⟩
      have g10 := GrN.upd (ys := ([] : List V) ++ [.ref p9]) (g9.lst hL2)
      refine ⟨_, _, [] ++ [.ref p9], rfl, ((g.trans g2).trans g9).upd' hD, upd_same, ?_⟩
      rw [e1, putp_nil]
      exact .cons (g10.dd _ _ (nl_pc p) (.tup (SqT.of s9) (.cons (.str _) (.cons (g9.dd _ _ dm2) .nil)))) .nil
    obtain ⟨ys0, y1, rfl⟩ : ∃ ys0 y1, ys = ys0 ++ [y1] := by
      rcases snoc_cases ys with rfl | h
      · rw [List.length_append] at yl
        simp at yl
      · exact h
    rw [List.map_append] at hE2
    obtain ⟨es, e, he, hE0, dd1⟩ := ddA_last hE2
    obtain ⟨rfl, he2⟩ := List.append_inj' he rfl
    cases he2
    obtain ⟨b1, w2, rfl, r1, dm1⟩ := dd_pc dd1
    have mq := mkC q0 (by simp)
    have lq := lC q0 (by simp)
    have e0 : (!decide (ys0 ++ [V.ref b1] = [])) = true := by simp
    rw [e0]
    refine iteT ?_
    refine ⟨_, rfl, _, rfl, x_l (SqL.of hL2) atI_last (x_t r1 rfl ⟨_, rfl, we_data ((cl_mk mq).dp dm1) w1dp ((cl_mk mq).shaped (by decide)) w1sh ⟨_, rfl, ite2 (fun h3 => ?_) (fun h3 => ?_)⟩⟩)⟩
    · have e2 : q0.2 = p.2 := mk_eqv h3
      refine ⟨_, rfl, _, rfl, x_l (SqL.of hL2) atI_last (x_t r1 rfl ⟨_, rfl, a_ss (sl (by omega)) ⟨_, rfl, sl (by show 2 ≤ 3000; decide), fun p9 hp9 => ?_⟩⟩)⟩
      refine newH hp9 fun H9 g9 s9 => ?_
      refine ⟨_, rfl, _, rfl, D, _, -1, _, rfl, rfl, g9.lst hL2, ixN_last, ?_⟩
      rw [set_last]
      have g10 := GrN.upd (ys := ys0 ++ [.ref p9]) (g9.lst hL2)
      refine ⟨_, _, ys0 ++ [.ref p9], rfl, ((g.trans g2).trans g9).upd' hD, upd_same, ?_⟩
      rw [e1, putp_snoc, if_pos e2, List.map_append]
      exact ddA_app (g10.ddA _ _ (nl_pcs _) (g9.ddA _ _ hE0)) (.cons (g10.dd _ _ rfl (.tup (SqT.of s9) (.cons (.str _) (.cons (g9.dd _ _ dm2) .nil)))) .nil)
    · have e2 : ¬ q0.2 = p.2 := fun z => h3 (by rw [z]; exact eqv_refl _ (cl_mk (hp p hpm).2).lay)
      refine ⟨_, rfl, wn_flat rfl ⟨_, rfl, ?_⟩⟩
      rw [ne0]
      refine iteT ⟨_, rfl, .inl ⟨rfl, _, SqL.of hL2⟩, _, rfl, _, rfl, sl (by show 2 ≤ 3000; decide), fun p9 hp9 => ?_⟩
      refine newH hp9 fun H9 g9 s9 => ?_
      refine ⟨D, _, .ref p9, rfl, rfl, g9.lst hL2, by rw [sizeLine_eq]; omega, ?_⟩
      have g10 := GrN.upd (ys := (ys0 ++ [V.ref b1]) ++ [.ref p9]) (g9.lst hL2)
      refine ⟨_, _, (ys0 ++ [V.ref b1]) ++ [.ref p9], rfl, ((g.trans g2).trans g9).upd' hD, upd_same, ?_⟩
      rw [e1, putp_snoc, if_neg e2, List.map_append, List.map_append]
      exact ddA_app (g10.ddA _ _ (noLstA_cl fun d hd => by
        rcases List.mem_append.mp hd with z | z
        · obtain ⟨q, _, rfl⟩ := List.mem_map.mp z
          rfl
        · obtain ⟨q, _, rfl⟩ := List.mem_map.mp z
          rfl) (g9.ddA _ _ hE2)) (.cons (g10.dd _ _ rfl (.tup (SqT.of s9) (.cons (.str _) (.cons (g9.dd _ _ dm2) .nil)))) .nil)
  · rintro σ H' ⟨o2, o3, ys, rfl, g, hLd, hE⟩
    rw [hl, List.take_length, jn_cn fun p hp2 => (hp p hp2).1] at hE
    refine ⟨_, rfl, ⟨.inl ⟨D, _, rfl, SqL.of hLd, fun p hp => ?_⟩⟩⟩
    refine newH hp fun H1 g1 s1 => ?_
    exact k p H1 (g.trans g1) (.tup (SqT.of s1) (g1.ddA _ _ hE))
theorem ok_ldrop {fd : FuncData} (F : FnP K "_law_dropped" s__law_dropped fd) (T : TD K mg) (D__law_joined : Df P w K mg base "_law_joined" 1 p__law_joined (spMerged K)) : FnOk P w K mg base CX0 2 (He.fAd K ("_law_dropped", none)) fd p__law_dropped (spDrop K) := by
  refine okP F sc__law_dropped (fun vs H Q E h => by obtain ⟨v, f, m, rfl, _⟩ := h; rfl) (fun A outer s H vs Q E hr h => ?_)
  obtain ⟨v, f, m, rfl, hf, hd, ok, k⟩ := h
  obtain ⟨b, xs, rfl, sq, dA⟩ := dd_tup hd
  have sl : ∀ {n : Nat}, n ≤ 3000 → n ≤ sizeLine := fun h => by rw [sizeLine_eq]; omega
  have hm2 := ok.l2
  have xl : xs.length = m.length := by rw [ddA_len dA, List.length_map]
  refine ⟨_, (pss_cons (ps_set (i := 2) sc__law_dropped.nd rfl (by first | exact Or.inl rfl | exact Or.inr rfl) (pe_lst pa_nil))
      (pss_cons (ps_for PassesOwn.never rfl (k_tup (K := K) rfl (pv 0)) (kg_tup 2 (K := K) rfl rfl (pgs_cons (pg_name (i := 3) sc__law_dropped.nd rfl (by first | exact Or.inl rfl | exact Or.inr rfl)) (pgs_cons (pg_name (i := 4) sc__law_dropped.nd rfl (by first | exact Or.inl rfl | exact Or.inr rfl)) pgs_nil)))
      (C8.pss_cut (ps_if (pt_cmpR (u_eqW (K := K) rfl hr.units) (pv 1) pe_str (nomark _))
      (pss_cons (ps_set (i := 5) sc__law_dropped.nd rfl (by first | exact Or.inl rfl | exact Or.inr rfl) (pe_callTy (call_listU (K := K) rfl rfl) rfl T.b_list (by decide +kernel) (pa_cons (pe_ix (u_ix (K := K) rfl) (pv 4) pe_int (fun _ _ => rfl)) pa_nil)))
      (pss_cons (ps_for PassesOwn.never rfl (k_tup (K := K) rfl (pe_slice (u_sl (K := K) rfl) (pv 4) (po_some pe_int) po_none)) (pg_name (i := 6) sc__law_dropped.nd rfl (by first | exact Or.inl rfl | exact Or.inr rfl))
      (pss_one (ps_set (i := 5) sc__law_dropped.nd rfl (by first | exact Or.inl rfl | exact Or.inr rfl) (pe_op (u_add (K := K) rfl) (pe_op (u_add (K := K) rfl) (pv 5) (pe_lst (pa_cons (pe_tup (pa_cons pe_str (pa_cons (pe_tup (pa_cons pe_str (pa_cons pe_bl (pa_cons pe_bl pa_nil)))) pa_nil))) pa_nil))) (pe_callTy (call_listU (K := K) rfl rfl) rfl T.b_list (by decide +kernel) (pa_cons (pv 6) pa_nil))))))
      (pss_one (ps_set (i := 4) sc__law_dropped.nd rfl (by first | exact Or.inl rfl | exact Or.inr rfl) (pe_tup (pa_cons (pe_fn D__law_joined hr (by decide) rfl (pa_cons (pv 5) pa_nil)) pa_nil))))))
      (pss_one (ps_if (pt_cmpR (u_eqW (K := K) rfl hr.units) (pv 1) pe_str (nomark _))
      (pss_one (ps_set (i := 3) sc__law_dropped.nd rfl (by first | exact Or.inl rfl | exact Or.inr rfl) pe_int))
      (pss_cons (ps_set (i := 7) sc__law_dropped.nd rfl (by first | exact Or.inl rfl | exact Or.inr rfl) (pe_tupIx (K := K) rfl (pa_cons pe_str (pa_cons pe_str (pa_cons pe_str pa_nil))) (pa_cons (pv 1) pa_nil)))
      (pss_cons (ps_set (i := 8) sc__law_dropped.nd rfl (by first | exact Or.inl rfl | exact Or.inr rfl) (pe_ix (u_ix (K := K) rfl) (pe_tup (pa_cons pe_str (pa_cons pe_bl (pa_cons pe_bl pa_nil)))) (pv 7) (fun _ _ => rfl)))
      (pss_cons (ps_set (i := 9) sc__law_dropped.nd rfl (by first | exact Or.inl rfl | exact Or.inr rfl) (pe_lst pa_nil))
      (pss_cons (ps_for PassesOwn.never rfl (k_tup (K := K) rfl (pv 4)) (pg_name (i := 6) sc__law_dropped.nd rfl (by first | exact Or.inl rfl | exact Or.inr rfl))
      (pss_cons (ps_setLc (i := 5) (own := [("text", 10), ("marks", 11)])  (tt := tYes) rfl sc__law_dropped.nd rfl rfl (sw_true rfl rfl rfl (by decide +kernel)) (k_tup (K := K) rfl (pv 6)) (blkOk_by (own := [("text", 10), ("marks", 11)]) (N := n__law_dropped) (sc := defScope s__law_dropped) (by decide +kernel)) (fun _ _ _ _ _ => (kg_tup 2 (K := K) rfl rfl (pgs_cons (pg_name (i := 10) sc__law_dropped.nd rfl (by first | exact Or.inl rfl | exact Or.inr rfl)) (pgs_cons (pg_name (i := 11) sc__law_dropped.nd rfl (by first | exact Or.inl rfl | exact Or.inr rfl)) pgs_nil)))) (fun _ _ _ _ _ => pts_nil) (fun _ _ _ _ _ => (pe_tup (pa_cons (pv 10) (pa_cons (pe_op (u_add (K := K) rfl) (pe_op (u_add (K := K) rfl) (pe_slice (u_sl (K := K) rfl) (pv 11) po_none (po_some (pv 7))) (pe_tup (pa_cons (pv 8) pa_nil))) (pe_slice (u_sl (K := K) rfl) (pv 11) (po_some (pe_op (u_add (K := K) rfl) (pv 7) pe_int)) po_none)) pa_nil)))))
      (pss_one (ps_expr (k_bm (K := K) rfl PySem.F.plainAttrs_list PySem.F.slot_list_append PySem.F.type_list_append mt_append (pv 9) (pa_cons (pe_fn D__law_joined hr (by decide) rfl (pa_cons (pv 5) pa_nil)) pa_nil))))))
      (pss_one (ps_set (i := 4) sc__law_dropped.nd rfl (by first | exact Or.inl rfl | exact Or.inr rfl) (k_tuple (K := K) rfl rfl T.b_tuple (pv 9)))))))))))
      (pss_one (ps_expr (k_bm (K := K) rfl PySem.F.plainAttrs_list PySem.F.slot_list_append PySem.F.type_list_append mt_append (pv 2) (pa_cons (pe_tup (pa_cons (pv 3) (pa_cons (pv 4) pa_nil))) pa_nil))))))
      (pss_one (ps_ret (k_tuple (K := K) rfl rfl T.b_tuple (pv 2)))))), ?_⟩
  refine ⟨Nat.zero_le _, fun D hD => ?_⟩
  refine newH hD fun H0 g0 s0 => ?_
  refine ⟨_, rfl, b, rfl, ⟨_, g0.seqT sq⟩, ?_⟩
  refine for_tup (K := K) (a := b) (xs := xs) (fun i σ H' => ∃ (o3 o4 o5 o6 o7 o8 o9 : Option V) (ys : List V), σ = [some (.ref b), some (.str f), some (.ref D), o3, o4, o5, o6, o7, o8, o9, none, none] ∧ Gr H H' ∧ H' D = some (.lst ys) ∧ DdAll K H' ys ((op (one f) (m.take i)).map liD))
    ⟨none, none, none, none, none, none, none, [], rfl, g0, s0, .nil⟩ ?_ ?_ ?_
  · rintro i σ H' _ ⟨o3, o4, o5, o6, o7, o8, o9, ys, rfl, g, _⟩
    exact g.seqT sq
  · rintro i x σ H' hx ⟨o3, o4, o5, o6, o7, o8, o9, ys, rfl, g, hL, hE⟩
    obtain ⟨l, hli, dl⟩ := ddA_map (g.ddA _ _ dA) hx
    have ol := ok.l l (List.mem_of_getElem? hli)
    have il := (List.getElem?_eq_some_iff.mp hli).1
    obtain ⟨b1, a1, zs, rfl, q1, q2, dA1⟩ := dd_li dl
    have yl : ys.length = i := by
      have q := ddA_len hE
      unfold op at q
      rw [List.length_map, List.length_map, List.length_take] at q
      omega
    refine ⟨b1, _, rfl, q1, rfl, _, _, rfl, _, _, rfl, rfl, ?_⟩
    refine ⟨fun σ2 H2 => ∃ (p5 p6 p7 p8 p9 : Option V) (a2 : Addr), σ2 = [some (.ref b), some (.str f), some (.ref D), some (.int ((opL (one f) l).1 : Nat)), some (.ref a2), p5, p6, p7, p8, p9, none, none] ∧ Gr H' H2 ∧ Dd K H2 (.ref a2) (.tuple ((opL (one f) l).2.map ceD)), ?_, ?_⟩
    · by_cases f1 : f = "cells"
      · subst f1
        have dd1 : decide (V.str "cells" = V.str "cells") = true := by decide +kernel
        refine ⟨_, rfl, we_flat rfl ⟨_, rfl, ?_⟩⟩
        rw [dd1]
        refine iteT ?_
        have c1 := ol.c1
        obtain ⟨ld, lcs⟩ := l
        cases lcs with
        | nil => exact absurd c1 (by show ¬ 1 ≤ 0; decide)
        | cons c0 r =>
        cases zs with
        | nil => cases dA1
        | cons x0 rest =>
        have dA' : DdAll K H' (x0 :: rest) (ceD c0 :: r.map ceD) := dA1
        cases dA' with
        | cons d0 dR =>
        obtain ⟨b0, ys0, rfl, sq0, dA0⟩ := dd_tup d0
        have rl : rest.length = r.length := by rw [ddA_len dR, List.length_map]
        have og : (gl (c0 :: r)).length ≤ 491 := ol.g
        have oc : ∀ xs ∈ c0 :: r, OkC xs := ol.c
        refine ⟨_, rfl, x_t q2 atI_zero (lsU_q (.inr sq0) fun D5 hD5 => ?_)⟩
        refine newH hD5 fun H1 g1 s1 => ?_
        refine ⟨_, rfl, _, rfl, sl_t1 (g1.seqT q2) fun p1 H2 g2 sq2 => ?_⟩
        have g02 := g1.trans g2
        refine ⟨p1, rfl, ⟨_, sq2⟩, ?_⟩
        refine for_tup (K := K) (a := p1) (xs := rest) (fun i σ H3 => ∃ (o6 : Option V) (q5 : Addr) (ys : List V), σ = [some (.ref b), some (.str "cells"), some (.ref D), some (.int (ld : Nat)), some (.ref a1), some (.ref q5), o6, o7, o8, o9, none, none] ∧ Gr H' H3 ∧ SqT K H3 p1 rest ∧ H3 q5 = some (.lst ys) ∧ DdAll K H3 ys ((joinP c0 (r.take i)).map pcD))
          ⟨_, D5, ys0, rfl, g02, sq2, g2.lst s1, by unfold joinP; rw [List.take_zero, List.flatMap_nil, List.append_nil]; exact g02.ddA _ _ dA0⟩ ?_ ?_ ?_
        · rintro i σ H3 _ ⟨o6, q5, ys, rfl, g, sq, _⟩
          exact sq
        · rintro i x σ H3 hx ⟨o6, q5, ys, rfl, g3, sq3, hL3, hE3⟩
          obtain ⟨d, hd, dd⟩ := ddA_map (g3.ddA _ _ dR) hx
          obtain ⟨b2, zs, rfl, sqz, dz⟩ := dd_tup dd
          have jo : ∀ xs ∈ c0 :: r.take (i + 1), OkC xs := fun xs hx => oc xs (by
            rcases List.mem_cons.mp hx with rfl | hx
            · exact List.mem_cons_self
            · exact List.mem_cons_of_mem _ (List.mem_of_mem_take hx))
          have l1 := pcs_len (joinP_ok jo)
          rw [fl_joinP] at l1
          have l2 := gl_take c0 r (i + 1)
          have e1 : joinP c0 (r.take (i + 1)) = joinP c0 (r.take i) ++ [SP] ++ cn d := by rw [take_snoc hd, joinP_snoc]
          have l3 : ys.length + 1 + zs.length ≤ 491 := by
            have q1 := ddA_len hE3
            have q2 := ddA_len dz
            rw [List.length_map] at q1 q2
            rw [e1, List.length_append, List.length_append, List.length_singleton] at l1
            omega
          refine ⟨_, rfl, sl (by show 3 ≤ 3000; decide), fun p6 hp6 => ?_⟩
          refine newH hp6 fun H6 g6 s6 => ?_
          refine ⟨sl (by show 2 ≤ 3000; decide), fun p7 hp7 => ?_⟩
          refine newH hp7 fun H7 g7 s7 => ?_
          refine ⟨sl (by show 1 ≤ 3000; decide), fun p8 hp8 => ?_⟩
          refine newH hp8 fun H8 g8 s8 => ?_
          have g38 := (g6.trans g7).trans g8
          refine a_ll (g38.lst hL3) s8 (sl (by show ys.length + 1 ≤ 3000; omega)) fun p9 hp9 => ?_
          refine newH hp9 fun H9 g9 s9 => ?_
          have g39 := g38.trans g9
          refine ⟨_, rfl, lsU_q (.inr (g39.seqT sqz)) fun p10 hp10 => ?_⟩
          refine newH hp10 fun H10 g10 s10 => ?_
          refine a_ll (g10.lst s9) s10 (sl (by rw [List.length_append, List.length_singleton]; omega)) fun p11 hp11 => ?_
          refine newH hp11 fun H11 g11 s11 => ?_
          have g311 := (g39.trans g10).trans g11
          have n1 : Dd K H11 (.ref p7) (pcD SP) := .tup (SqT.of ((((g8.trans g9).trans g10).trans g11).tup s7)) (.cons (.str _) (.cons (.tup (SqT.of (((((g7.trans g8).trans g9).trans g10).trans g11).tup s6)) (.cons (.str _) (.cons (.bl _) (.cons (.bl _) .nil)))) .nil))
          refine ⟨_, p11, _, rfl, g3.trans g311, g311.seqT sq3, s11, ?_⟩
          rw [e1, List.map_append, List.map_append]
          exact ddA_app (ddA_app (g311.ddA _ _ hE3) (.cons n1 .nil)) (g311.ddA _ _ dz)
        · rintro σ H3 ⟨o6, q5, ys, rfl, g3, sq3, hL3, hE3⟩
          rw [rl, List.take_length] at hE3
          refine ⟨_, rfl, q5, ys, joinP c0 r, rfl, hL3, hE3, joinP_ok oc, by rw [fl_joinP]; omega, fun p H4 g4 d4 => ?_⟩
          rw [fl_joinP] at d4
          refine ⟨sl (by show 1 ≤ 3000; decide), fun p5 hp5 => ?_⟩
          refine newH hp5 fun H5 g5 s5 => ?_
          rw [opL_cells]
          exact ⟨_, _, _, _, _, p5, rfl, (g3.trans g4).trans g5, .tup (SqT.of s5) (.cons (g5.dd _ _ d4) .nil)⟩
      have dd1 : decide (V.str f = V.str "cells") = false := decide_eq_false fun z => f1 (V.str.inj z)
      refine ⟨_, rfl, we_flat rfl ⟨_, rfl, ?_⟩⟩
      rw [dd1]
      refine iteF ?_
      by_cases f2 : f = "nest"
      · subst f2
        have dd2 : decide (V.str "nest" = V.str "nest") = true := by decide +kernel
        refine ⟨_, rfl, we_flat rfl ⟨_, rfl, ?_⟩⟩
        rw [dd2]
        refine iteT ?_
        rw [opL_nest]
        exact ⟨_, _, _, _, _, a1, rfl, Gr.refl _, .tup q2 dA1⟩
      have dd2 : decide (V.str f = V.str "nest") = false := decide_eq_false fun z => f2 (V.str.inj z)
      have f3 : f ∈ three := by
        simp only [five, List.mem_cons, List.not_mem_nil, or_false] at hf
        rcases hf with h | h | h | h | h
        · exact absurd h f1
        · exact absurd h f2
        · rw [h]; simp [three]
        · rw [h]; simp [three]
        · rw [h]; simp [three]
      refine ⟨_, rfl, we_flat rfl ⟨_, rfl, ?_⟩⟩
      rw [dd2]
      refine iteF ?_
      obtain ⟨j, hj, j1, j2, j3, j4⟩ := three_ix f3
      refine ⟨sl (by show 3 ≤ 3000; decide), fun p1 hp1 => ?_⟩
      refine newH hp1 fun H1 g1 s1 => ?_
      refine ⟨_, rfl, p1, three, f, j, rfl, rfl, SqT.of s1, j1, j2, ?_⟩
      refine ⟨sl (by show 3 ≤ 3000; decide), fun p2 hp2 => ?_⟩
      refine newH hp2 fun H2 g2 s2 => ?_
      refine ⟨_, rfl, x_t (SqT.of s2) j3 ⟨Nat.zero_le _, fun D9 hD9 => ?_⟩⟩
      refine newH hD9 fun H3 g3 s3 => ?_
      have g03 := (g1.trans g2).trans g3
      have zl : zs.length = l.2.length := by rw [ddA_len dA1, List.length_map]
      have oc12 := ol.c12
      refine ⟨_, rfl, a1, rfl, ⟨_, g03.seqT q2⟩, ?_⟩
      refine for_tup (K := K) (a := a1) (xs := zs) (fun i σ H4 => ∃ (o5 o6 : Option V) (ys : List V), σ = [some (.ref b), some (.str f), some (.ref D), some (.int (l.1 : Nat)), some (.ref a1), o5, o6, some (.int (j : Nat)), some (bareV j), some (.ref D9), none, none] ∧ Gr H' H4 ∧ H4 D9 = some (.lst ys) ∧ DdAll K H4 ys (((l.2.take i).map (umC (one f))).map ceD))
        ⟨_, _, [], rfl, g03, s3, .nil⟩ ?_ ?_ ?_
      · rintro i σ H4 _ ⟨o5, o6, ys, rfl, g, _⟩
        exact g.seqT q2
      · rintro i2 x σ H4 hx2 ⟨o5, o6, ys2, rfl, g4, hL4, hE4⟩
        obtain ⟨c, hc, dc⟩ := ddA_map (g4.ddA _ _ dA1) hx2
        have cm := ol.c c (List.mem_of_getElem? hc)
        have cl := Nat.le_trans (gl_ge (List.mem_of_getElem? hc)) ol.g
        have ic := (List.getElem?_eq_some_iff.mp hc).1
        obtain ⟨b2, ws, rfl, sqz, dz⟩ := dd_tup dc
        have okp : ∀ p ∈ cn c, OkP p := fun p hp => ⟨cn_ne c p hp, cm.mk hp⟩
        have cl2 : (cn c).length ≤ 491 := by
          have := pcs_len okp
          rw [fl_cn] at this
          omega
        have yl2 : ys2.length = i2 := by
          have q := ddA_len hE4
          rw [List.length_map, List.length_map, List.length_take] at q
          omega
        refine ⟨_, rfl, b2, rfl, ⟨_, sqz⟩, fun D5 hD5 => ?_⟩
        refine lc_dd (K := K) (f2 := pcD) (h := fun p => (p.1, um (one f) p.2)) hD5 sqz dz (by omega) nl_pc ?_ ?_
        · intro i3 x p H5 C hx hp g5 dp hC
          obtain ⟨b3, w3, rfl, q3, dm⟩ := dd_pc dp
          obtain ⟨b4, rfl, q4⟩ := dd_mk dm
          refine ⟨b3, _, rfl, q3, rfl, _, _, rfl, _, _, rfl, rfl, rfl, ?_⟩
          refine ⟨_, rfl, _, rfl, _, rfl, _, rfl, sl_any q4 fun p6 H6 g6 s6 => ?_⟩
          refine ⟨_, rfl, sl (by show 1 ≤ 3000; decide), fun p7 hp7 => ?_⟩
          refine newH hp7 fun H7 g7 s7 => ?_
          refine a_tA (g7.seqT s6) (SqT.of s7) (sl ?_) fun p8 H8 g8 s8 => ?_
          · have := cut_len (mkV p.2) none (some (j : Int))
            show (cutV (mkV p.2) none (some (j : Int))).length + 1 ≤ 3000
            have e3 : (mkV p.2).length = 3 := rfl
            omega
          have g68 := (g6.trans g7).trans g8
          refine ⟨_, rfl, _, rfl, a_ii ⟨_, rfl, sl_any (g68.seqT q4) fun p9 H9 g9 s9 => ?_⟩⟩
          refine a_tA (g9.seqT s8) s9 (sl ?_) fun p10 H10 g10 s10 => ?_
          · have h1 := cut_len (mkV p.2) none (some (j : Int))
            have h2 := cut_len (mkV p.2) (some ((j : Int) + 1)) none
            have e3 : (mkV p.2).length = 3 := rfl
            rw [List.length_append]
            show _ + 1 + (cutV (mkV p.2) (some ((j : Int) + 1)) none).length ≤ 3000
            have h3 : (cutV (mkV p.2) none (some (j : Int))).length ≤ 3 := by omega
            show (cutV (mkV p.2) none (some (j : Int))).length + 1 + _ ≤ 3000
            omega
          refine ⟨sl (by show 2 ≤ 3000; decide), fun p11 hp11 => ?_⟩
          refine newH hp11 fun H11 g11 s11 => ?_
          have e10 : SqT K H10 p10 (mkV (um (one f) p.2)) := by rw [← j4 p.2]; exact s10
          exact hC _ _ (((g68.trans g9).trans g10).trans g11) (.tup (SqT.of s11) (.cons (.str _) (.cons (g11.dd _ _ (dd_mkV e10)) .nil)))
        · intro H5 ys5 g5 hL5 hE5
          refine ⟨_, rfl, .inl ⟨rfl, _, SqL.of (g5.lst hL4)⟩, _, rfl, D5, ys5, (cn c).map fun p => (p.1, um (one f) p.2), rfl, hL5, hE5, ?_, ?_, ?_⟩
          · intro q hq
            obtain ⟨p, hp, rfl⟩ := List.mem_map.mp hq
            exact ⟨(okp p hp).1, um_LK _ (okp p hp).2⟩
          · rw [fl_um, fl_cn, umC_len]
            omega
          · intro p H6 g6 d6
            rw [fl_um, fl_cn] at d6
            refine ⟨D9, _, .ref p, rfl, rfl, (g5.trans g6).lst hL4, sl (by omega), ?_⟩
            have g10 := GrN.upd (ys := ys2 ++ [.ref p]) ((g5.trans g6).lst hL4)
            refine ⟨_, _, ys2 ++ [.ref p], rfl, ((g4.trans g5).trans g6).upd' ?_, upd_same, ?_⟩
            · exact (g1.trans g2).free hD9
            · rw [take_snoc hc, List.map_append, List.map_append]
              exact ddA_app (g10.ddA _ _ (nl_ces _) ((g5.trans g6).ddA _ _ hE4)) (.cons (g10.dd _ _ (nl_ce _) d6) .nil)
      · rintro σ H4 ⟨o5, o6, ys2, rfl, g4, hL4, hE4⟩
        rw [zl, List.take_length] at hE4
        refine ⟨_, rfl, ⟨.inl ⟨D9, _, rfl, SqL.of hL4, fun p hp => ?_⟩⟩⟩
        refine newH hp fun H5 g5 s5 => ?_
        rw [opL_three f3]
        exact ⟨_, _, _, _, _, p, rfl, g4.trans g5, .tup (SqT.of s5) (g5.ddA _ _ hE4)⟩
    · rintro σ2 H2 ⟨p5, p6, p7, p8, p9, a2, rfl, g2, d2⟩
      refine ⟨_, rfl, .inl ⟨rfl, _, SqL.of (g2.lst hL)⟩, _, rfl, _, rfl, sl (by show 2 ≤ 3000; decide), fun p10 hp10 => ?_⟩
      refine newH hp10 fun H3 g3 s3 => ?_
      refine ⟨D, _, .ref p10, rfl, rfl, (g2.trans g3).lst hL, sl (by omega), ?_⟩
      have g10 := GrN.upd (ys := ys ++ [.ref p10]) ((g2.trans g3).lst hL)
      refine ⟨_, _, _, _, _, _, _, ys ++ [.ref p10], rfl, ((g.trans g2).trans g3).upd' hD, upd_same, ?_⟩
      rw [take_snoc hli]
      unfold op
      rw [List.map_append, List.map_append]
      exact ddA_app (g10.ddA _ _ (nl_lis _) ((g2.trans g3).ddA _ _ hE)) (.cons (g10.dd _ _ (nl_li _) (dd_line s3 (g3.dd _ _ d2))) .nil)
  · rintro σ H' ⟨o3, o4, o5, o6, o7, o8, o9, ys, rfl, g, hL, hE⟩
    rw [xl, List.take_length] at hE
    refine ⟨_, rfl, ⟨.inl ⟨D, _, rfl, SqL.of hL, fun p hp => ?_⟩⟩⟩
    refine newH hp fun H1 g1 s1 => ?_
    exact k p H1 (g.trans g1) (.tup (SqT.of s1) (g1.ddA _ _ hE))
end
end Vf
end
section
set_option Elab.async false
set_option linter.all false
set_option maxRecDepth 100000
set_option maxHeartbeats 4000000
namespace Vf
open PySem PySem.Spec PyProof.Rows L2 GxR GenW RZ
abbrev s__law_some_text : Stmt := top 32
abbrev n__law_some_text : List Str := ["urn", "many", "signs", "turn"]
abbrev p__law_some_text : List Str := ["urn", "many", "signs"]
theorem sc__law_some_text : FnScope n__law_some_text p__law_some_text (defScope s__law_some_text) := ⟨rfl, rfl, rfl, by decide +kernel, rfl, by decide +kernel, by decide +kernel⟩

abbrev s__law_some_marks : Stmt := top 33
abbrev n__law_some_marks : List Str := ["urn", "link"]
abbrev p__law_some_marks : List Str := ["urn"]
theorem sc__law_some_marks : FnScope n__law_some_marks p__law_some_marks (defScope s__law_some_marks) := ⟨rfl, rfl, rfl, by decide +kernel, rfl, by decide +kernel, by decide +kernel⟩

abbrev s__law_some_cell : Stmt := top 35
abbrev n__law_some_cell : List Str := ["urn", "most", "signs", "parts", "left", "many"]
abbrev p__law_some_cell : List Str := ["urn", "most", "signs"]
theorem sc__law_some_cell : FnScope n__law_some_cell p__law_some_cell (defScope s__law_some_cell) := ⟨rfl, rfl, rfl, by decide +kernel, rfl, by decide +kernel, by decide +kernel⟩

abbrev s__law_some_line : Stmt := top 36
abbrev n__law_some_line : List Str := ["urn", "signs", "many", "most", "cell"]
abbrev p__law_some_line : List Str := ["urn", "signs"]
theorem sc__law_some_line : FnScope n__law_some_line p__law_some_line (defScope s__law_some_line) := ⟨rfl, rfl, rfl, by decide +kernel, rfl, by decide +kernel, by decide +kernel⟩

abbrev s__law_some_content : Stmt := top 37
abbrev n__law_some_content : List Str := ["urn", "signs", "line"]
abbrev p__law_some_content : List Str := ["urn", "signs"]
theorem sc__law_some_content : FnScope n__law_some_content p__law_some_content (defScope s__law_some_content) := ⟨rfl, rfl, rfl, by decide +kernel, rfl, by decide +kernel, by decide +kernel⟩

abbrev s__law_some_set : Stmt := top 41
abbrev n__law_some_set : List Str := ["urn", "feature"]
abbrev p__law_some_set : List Str := ["urn"]
theorem sc__law_some_set : FnScope n__law_some_set p__law_some_set (defScope s__law_some_set) := ⟨rfl, rfl, rfl, by decide +kernel, rfl, by decide +kernel, by decide +kernel⟩

/-! ### random contents -/
theorem cps_join : ∀ ys : List Str, cps (Str.join "" ys) = ys.flatMap cps
  | [] => by decide +kernel
  | [y] => by
    show cps y = cps y ++ []
    rw [List.append_nil]
  | y :: z :: zs => by
    have ih := cps_join (z :: zs)
    show cps (y ++ "" ++ Str.join "" (z :: zs)) = cps y ++ _
    rw [cps_app, cps_app, ih, show cps "" = [] by decide +kernel, List.append_nil]
    rfl
def OkSg (s : Str) : Prop := ∃ c, s = chS c ∧ 32 ≤ c ∧ c ≤ 126
theorem join_ok {ys : List Str} (h : ∀ y ∈ ys, OkSg y) : (cps (Txt.join "" ys)).length = ys.length ∧ ∀ c ∈ cps (Txt.join "" ys), 32 ≤ c ∧ c ≤ 126 := by
  have e : Txt.join "" ys = Str.join "" ys := StrLaws.glued_eq_join _ _
  rw [e, cps_join]
  constructor
  · clear e
    induction ys with
    | nil => rfl
    | cons y ys ih =>
      obtain ⟨c, rfl, _⟩ := h y List.mem_cons_self
      rw [List.flatMap_cons, List.length_append, ih fun z hz => h z (List.mem_cons_of_mem _ hz), List.length_cons]
      show 1 + ys.length = _
      omega
  · intro c hc
    obtain ⟨y, hy, hc⟩ := List.mem_flatMap.mp hc
    obtain ⟨d, rfl, h1, h2⟩ := h y hy
    have e2 : cps (chS d) = [d] := rfl
    rw [e2, List.mem_singleton] at hc
    rw [hc]; exact ⟨h1, h2⟩
/-- the signs that texts are drawn from -/
def Sgs (K : PySem.W.Frag) (H : Hp) (u sg : Addr) : Prop := sg ≠ u ∧ ∃ ss : List Str, SqL K H sg (strV ss) ∧ ss ≠ [] ∧ ss.length ≤ 1000 ∧ ∀ s ∈ ss, OkSg s
theorem Sgs.gr {K : PySem.W.Frag} {H H' : Hp} {u sg : Addr} (h : Sgs K H u sg) (g : GrU u H H') : Sgs K H' u sg := by
  obtain ⟨n, ss, h1, h2⟩ := h
  refine ⟨n, ss, ?_, h2⟩
  rcases h1 with (h1 | ⟨o, h1⟩) | h1
  · exact .inl (.inl (g.keep n h1 (fun _ z => by cases z)))
  · exact .inl (.inr ⟨o, g.keep n h1 (fun _ z => by cases z)⟩)
  · exact .inr h1
def LK : List Str := ["", "", "", "w", "w1", "abcdefghijk9"]
theorem LK_in : ∀ l ∈ LK, l ∈ LK4 := by
  intro l h
  simp only [LK, List.mem_cons, List.not_mem_nil, or_false] at h
  simp only [LK4, List.mem_cons, List.not_mem_nil, or_false]
  rcases h with h | h | h | h | h | h <;> simp [h]
def spText (K : PySem.W.Frag) : Sp := fun vs H Q _ => ∃ (u c sg : Addr) (n : Int), vs = [.ref u, .int n, .ref sg] ∧ Urn c H u ∧ Sgs K H u sg ∧ 0 ≤ n ∧ n ≤ 1000 ∧ ∀ (x : Str) H', (cps x).length = n.toNat → (∀ c ∈ cps x, 32 ≤ c ∧ c ≤ 126) → GrU u H H' → Urn c H' u → Q (.str x) H'
def spMarks (K : PySem.W.Frag) : Sp := fun vs H Q _ => ∃ (u c : Addr), vs = [.ref u] ∧ Urn c H u ∧ ∀ p (m : Mk3) H', m.1 ∈ LK4 → GrU u H H' → Urn c H' u → Dd K H' (.ref p) (mkD m) → Q (.ref p) H'
def spSCell (K : PySem.W.Frag) : Sp := fun vs H Q _ => ∃ (u c sg : Addr) (most : Int), vs = [.ref u, .int most, .ref sg] ∧ Urn c H u ∧ Sgs K H u sg ∧ 0 ≤ most ∧ most ≤ 60 ∧ ∀ p (xs : Fc) H', OkC xs → (xs.length : Int) ≤ most → GrU u H H' → Urn c H' u → Dd K H' (.ref p) (ceD xs) → Q (.ref p) H'
def spSLine (K : PySem.W.Frag) : Sp := fun vs H Q _ => ∃ (u c sg : Addr), vs = [.ref u, .ref sg] ∧ Urn c H u ∧ Sgs K H u sg ∧ ∀ p (l : Fln) H', OkLn l → GrU u H H' → Urn c H' u → Dd K H' (.ref p) (liD l) → Q (.ref p) H'
def spSContent (K : PySem.W.Frag) : Sp := fun vs H Q _ => ∃ (u c sg : Addr), vs = [.ref u, .ref sg] ∧ Urn c H u ∧ Sgs K H u sg ∧ ∀ p (m : Fm) H', OkF m → m.length ≤ 4 → GrU u H H' → Urn c H' u → Dd K H' (.ref p) (coD m) → Q (.ref p) H'
def spSomeSet (K : PySem.W.Frag) : Sp := fun vs H Q _ => ∃ (u c : Addr), vs = [.ref u] ∧ Urn c H u ∧ ∀ p (fs : List Str) H', GrU u H H' → Urn c H' u → SqT K H' p (strV fs) → Q (.ref p) H'
theorem fl_ok {ps : List Pc} (h : ∀ p ∈ ps, (∀ c ∈ cps p.1, 32 ≤ c ∧ c ≤ 126) ∧ p.2.1 ∈ LK4) : OkC (fl ps) := by
  intro x hx
  obtain ⟨p, hp, hx⟩ := List.mem_flatMap.mp hx
  obtain ⟨c, hc, rfl⟩ := List.mem_map.mp hx
  exact ⟨((h p hp).1 c hc).1, ((h p hp).1 c hc).2, (h p hp).2⟩
section
variable {P : Program} {w : World} {K : PySem.W.Frag} {mg : Str → Option Value} {base : Heap}
theorem ok_text {fd : FuncData} (F : FnP K "_law_some_text" s__law_some_text fd) (T : TD K mg) (D__law_choice : Df P w K mg base "_law_choice" 3 p__law_choice (spChoice K)) : FnOk P w K mg base CX0 4 (He.fAd K ("_law_some_text", none)) fd p__law_some_text (spText K) := by
  refine okP F sc__law_some_text (fun vs H Q E h => by obtain ⟨u, c, sg, n, rfl, _⟩ := h; rfl) (fun A outer s H vs Q E hr h => ?_)
  obtain ⟨u, c, sg, n, rfl, hu, hs, hn0, hn, k⟩ := h
  obtain ⟨m, rfl⟩ := Int.eq_ofNat_of_zero_le hn0
  refine ⟨_, (pss_one (ps_ret (k_join (K := K) rfl pe_str (pe_lc (own := [("turn", 3)]) (g := gName 3) (tt := tYes) rfl sc__law_some_text.nd (pi_range1 rfl T.b_range (pa_cons (pv 1) pa_nil)) (blkOk_by (own := [("turn", 3)]) (N := n__law_some_text) (sc := defScope s__law_some_text) (by decide +kernel)) (fun _ _ _ _ _ => (pg_name (i := 3) sc__law_some_text.nd rfl (by first | exact Or.inl rfl | exact Or.inr rfl))) (fun _ _ _ _ _ => pts_nil) (fun _ _ _ _ _ => (pe_fn D__law_choice hr (by decide) rfl (pa_cons (pv 0) (pa_cons (pv 2) pa_nil)))))))), ?_⟩
  refine ⟨⟨_, rfl⟩, _, rfl, m, rfl, by omega, by omega, fun D hD => ?_⟩
  have Du := hu.ou hD
  have Dc := hu.oc hD
  rw [Int.toNat_natCast]
  refine lc_range (lo := 0) (n := m) (fun i H' => ∃ ys : List Str, ys.length = i ∧ (∀ y ∈ ys, OkSg y) ∧ GrU u H H' ∧ Urn c H' u ∧ H' D = some (.lst (strV ys))) ⟨[], rfl, by simp, gruD (GrU.refl _ _) hD, hu.gr (Gr.new hD), upd_same⟩ ?_ ?_
  · rintro i H' hi ⟨ys, hl, hy, g, hu', hL⟩
    obtain ⟨sn, ss, h1, h2, h3, h4⟩ := hs.gr g
    refine ⟨rfl, ?_⟩
    refine ⟨_, rfl, _, rfl, u, c, sg, _, rfl, hu', sn, .inl h1, fun z => h2 (List.map_eq_nil_iff.mp z), by unfold strV; rw [List.length_map]; omega, fun x H2 hx g2 hu2 => ?_⟩
    obtain ⟨t, ht, rfl⟩ := List.mem_map.mp hx
    refine ⟨_, g2.keep Du hL (fun _ z => by cases z), by unfold strV; rw [List.length_map, hl, sizeLine_eq]; omega, ys ++ [t], by rw [List.length_append, hl]; rfl, ?_, gruD (g.trans g2) hD, hu2.updD Du Dc, ?_⟩
    · intro y hy2
      rcases List.mem_append.mp hy2 with z | z
      · exact hy y z
      · rw [List.mem_singleton] at z
        exact z ▸ h4 t ht
    · rw [upd_same]
      unfold strV
      rw [List.map_append]; rfl
  · rintro H' ⟨ys, hl, hy, g, hu', hL⟩
    obtain ⟨j1, j2⟩ := join_ok hy
    refine ⟨"", D, ys, rfl, rfl, .inl (SqL.of hL), ?_, k _ _ (by rw [j1, hl]; rfl) j2 g hu'⟩
    have e : (ys.map (·.length)).sum ≤ ys.length * 1 := by
      clear hL hl j1 j2
      induction ys with
      | nil => exact Nat.le_refl _
      | cons y ys ih =>
        obtain ⟨d, rfl, _⟩ := hy y List.mem_cons_self
        have := ih fun z hz => hy z (List.mem_cons_of_mem _ hz)
        have e1 : (chS d).length = 1 := rfl
        simp only [List.map_cons, List.sum_cons, List.length_cons]
        omega
    have q3 : ("" : Str).length = 0 := rfl
    rw [q3]
    omega
theorem ok_lmarks {fd : FuncData} (F : FnP K "_law_some_marks" s__law_some_marks fd) (T : TD K mg) (D__law_choice : Df P w K mg base "_law_choice" 3 p__law_choice (spChoice K)) (D__law_upto : Df P w K mg base "_law_upto" 2 p__law_upto spUpto) : FnOk P w K mg base CX0 4 (He.fAd K ("_law_some_marks", none)) fd p__law_some_marks (spMarks K) := by
  refine okP F sc__law_some_marks (fun vs H Q E h => by obtain ⟨u, c, rfl, _⟩ := h; rfl) (fun A outer s H vs Q E hr h => ?_)
  obtain ⟨u, c, rfl, hu, k⟩ := h
  refine ⟨_, (pss_cons (ps_set (i := 1) sc__law_some_marks.nd rfl (by first | exact Or.inl rfl | exact Or.inr rfl) (pe_fn D__law_choice hr (by decide) rfl (pa_cons (pv 0) (pa_cons (pe_lst (pa_cons pe_str (pa_cons pe_str (pa_cons pe_str (pa_cons pe_str (pa_cons pe_str (pa_cons pe_str pa_nil))))))) pa_nil))))
      (pss_one (ps_ret (pe_tup (pa_cons (pv 1) (pa_cons (pe_cmpR (u_eq (K := K) rfl hr.units) (pe_fn D__law_upto hr (by decide) rfl (pa_cons (pv 0) (pa_cons pe_int pa_nil))) pe_int (nomark _)) (pa_cons (pe_cmpR (u_eq (K := K) rfl hr.units) (pe_fn D__law_upto hr (by decide) rfl (pa_cons (pv 0) (pa_cons pe_int pa_nil))) pe_int (nomark _)) pa_nil))))))), ?_⟩
  refine ⟨_, rfl, by show 6 ≤ sizeLine; rw [sizeLine_eq]; decide, fun p1 hp1 => ?_⟩
  have n1 := hu.ou hp1
  refine newH hp1 fun H1 g1 s1 => ?_
  have hu1 := hu.gr g1
  refine ⟨u, c, p1, strV LK, rfl, hu1, n1, .inl (SqL.of s1), by decide, by decide, fun x H2 hx g2 hu2 => ?_⟩
  obtain ⟨l, hl, rfl⟩ := List.mem_map.mp hx
  refine ⟨_, rfl, _, rfl, u, c, 3, rfl, hu2, by decide, by decide, fun r1 H3 _ _ g3 hu3 => e_flat rfl ?_⟩
  refine ⟨_, rfl, u, c, 3, rfl, hu3, by decide, by decide, fun r2 H4 _ _ g4 hu4 => e_flat rfl ?_⟩
  refine ⟨by show 3 ≤ sizeLine; rw [sizeLine_eq]; decide, fun p hp => ?_⟩
  have G := ((g1.u.trans g2).trans g3).trans g4
  refine newH hp fun H5 g5 s5 => ?_
  exact k p (l, _, _) H5 (LK_in l hl) (G.trans g5.u) (hu4.gr g5) (.tup (SqT.of s5) (.cons (.str _) (.cons (.bl _) (.cons (.bl _) .nil))))
theorem ok_scell {fd : FuncData} (F : FnP K "_law_some_cell" s__law_some_cell fd) (T : TD K mg) (D__law_upto : Df P w K mg base "_law_upto" 2 p__law_upto spUpto) (D__law_some_text : Df P w K mg base "_law_some_text" 4 p__law_some_text (spText K)) (D__law_some_marks : Df P w K mg base "_law_some_marks" 4 p__law_some_marks (spMarks K)) (D__law_joined : Df P w K mg base "_law_joined" 1 p__law_joined (spMerged K)) : FnOk P w K mg base CX0 5 (He.fAd K ("_law_some_cell", none)) fd p__law_some_cell (spSCell K) := by
  refine okP F sc__law_some_cell (fun vs H Q E h => by obtain ⟨u, c, sg, most, rfl, _⟩ := h; rfl) (fun A outer s H vs Q E hr h => ?_)
  obtain ⟨u, c, sg, most, rfl, hu, hs, hm0, hm, k⟩ := h
  refine ⟨_, (pss_cons (ps_par (i := 3) (j := 4) (by rfl) sc__law_some_cell.nd rfl rfl (by decide) rfl rfl (pa_cons (pe_lst pa_nil) (pa_cons (pe_fn D__law_upto hr (by decide) rfl (pa_cons (pv 0) (pa_cons (pe_op (u_add (K := K) rfl) (pv 1) pe_int) pa_nil))) pa_nil)) (by rfl))
      (pss_cons (ps_while PassesOwn.never (pt_cmpR u_gt (pv 4) pe_int (nomark _))
      (pss_cons (ps_set (i := 5) sc__law_some_cell.nd rfl (by first | exact Or.inl rfl | exact Or.inr rfl) (pe_op (u_add (K := K) rfl) pe_int (pe_fn D__law_upto hr (by decide) rfl (pa_cons (pv 0) (pa_cons (pv 4) pa_nil)))))
      (pss_cons (ps_expr (k_bm (K := K) rfl PySem.F.plainAttrs_list PySem.F.slot_list_append PySem.F.type_list_append mt_append (pv 3) (pa_cons (pe_tup (pa_cons (pe_fn D__law_some_text hr (by decide) rfl (pa_cons (pv 0) (pa_cons (pv 5) (pa_cons (pv 2) pa_nil)))) (pa_cons (pe_fn D__law_some_marks hr (by decide) rfl (pa_cons (pv 0) pa_nil)) pa_nil))) pa_nil)))
      (pss_one (ps_set (i := 4) sc__law_some_cell.nd rfl (by first | exact Or.inl rfl | exact Or.inr rfl) (pe_op u_sub (pv 4) (pv 5)))))))
      (pss_one (ps_ret (pe_fn D__law_joined hr (by decide) rfl (pa_cons (pv 3) pa_nil)))))), ?_⟩
  refine ⟨Nat.zero_le _, fun D hD => ?_⟩
  have Du := hu.ou hD
  have Dc := hu.oc hD
  refine newH hD fun H1 g1 s1 => ?_
  have hu1 := hu.gr g1
  refine ⟨_, rfl, _, rfl, a_ii ⟨u, c, _, rfl, hu1, by omega, by omega, fun r H2 h0 hr1 g2 hu2 => ?_⟩⟩
  refine ⟨_, _, rfl, ?_⟩
  have s2 := g2.keep Du s1 (fun _ z => by cases z)
  refine while_by (fun σ H' => ∃ (left : Int) (o5 : Option V) (xs : List V) (ps : List Pc), σ = [some (.ref u), some (.int most), some (.ref sg), some (.ref D), some (.int left), o5] ∧ 0 ≤ left ∧ left ≤ 60 ∧ GrU u H H' ∧ Urn c H' u ∧ H' D = some (.lst xs) ∧ DdAll K H' xs (ps.map pcD) ∧ (∀ p ∈ ps, cps p.1 ≠ [] ∧ (∀ c ∈ cps p.1, 32 ≤ c ∧ c ≤ 126) ∧ p.2.1 ∈ LK4) ∧ ((fl ps).length : Int) + left ≤ most)
    (fun σ _ => match σ with | [_, _, _, _, some (.int l), _] => l.toNat | _ => 0) ⟨r, none, [], [], rfl, h0, by omega, g1.u.trans g2, hu2, s2, .nil, by simp, by show (0 : Int) + r ≤ most; omega⟩ ?_ ?_
  · rintro σ H' ⟨left, o5, xs, ps, rfl, hl0, hl6, g, hu', hL, hA, hp, hz⟩
    have okp : ∀ p ∈ ps, OkP p := fun p h => ⟨(hp p h).1, (hp p h).2.2⟩
    have pl := pcs_len okp
    have xl : xs.length = ps.length := by rw [ddA_len hA, List.length_map]
    refine ⟨_, rfl, gt_ii ⟨_, rfl, ite2 (fun h1 => ?_) (fun h1 => ?_)⟩⟩
    · have h1 : 0 < left := of_decide_eq_true h1
      refine ⟨_, rfl, _, rfl, u, c, left, rfl, hu', h1, by omega, fun m H3 hm0 hml g3 hu3 => a_ii ?_⟩
      have hs3 := hs.gr (g.trans g3)
      have hL3 := g3.keep Du hL (fun _ z => by cases z)
      refine ⟨_, rfl, .inl ⟨rfl, _, SqL.of hL3⟩, _, rfl, _, rfl, _, rfl, u, c, sg, 1 + m, rfl, hu3, hs3, by omega, by omega, fun x H4 hx hxc g4 hu4 => ?_⟩
      refine ⟨_, rfl, u, c, rfl, hu4, fun p5 mk H5 hmk g5 hu5 dd5 => ?_⟩
      refine ⟨by show 2 ≤ sizeLine; rw [sizeLine_eq]; decide, fun pt hpt => ?_⟩
      refine newH hpt fun H6 g6 s6 => ?_
      have hu6 := hu5.gr g6
      have hL6 := g6.lst (g5.keep Du (g4.keep Du hL3 (fun _ z => by cases z)) (fun _ z => by cases z))
      have gn : GrN H' H6 := (((g3.n hu').trans (g4.n hu3)).trans (g5.n hu4)).trans g6.n
      have gup := GrN.upd (ys := xs ++ [.ref pt]) hL6
      have dpt : Dd K (upd H6 D (.lst (xs ++ [.ref pt]))) (.ref pt) (pcD (x, mk)) :=
        gup.dd _ _ rfl (.tup (SqT.of s6) (.cons (.str _) (.cons (g6.dd _ _ dd5) .nil)))
      have e1 : (1 + m).toNat = 1 + m.toNat := by omega
      rw [e1] at hx
      have ef : (fl (ps ++ [(x, mk)])).length = (fl ps).length + (1 + m.toNat) := by rw [fl_app, List.length_append, fl_one, List.length_map, hx]
      refine ⟨D, xs, .ref pt, rfl, rfl, hL6, by rw [xl, sizeLine_eq]; omega, ?_⟩
      refine ⟨_, rfl, _, rfl, sb_ii ?_⟩
      refine ⟨⟨left - (1 + m), _, xs ++ [.ref pt], ps ++ [(x, mk)], rfl, by omega, by omega, gruD ((((g.trans g3).trans g4).trans g5).trans g6.u) hD, hu6.updD Du Dc, upd_same, ?_, ?_, ?_⟩, ?_⟩
      · rw [List.map_append]
        exact ddA_app ((gn.trans gup).ddA _ _ (nl_pcs _) hA) (.cons dpt .nil)
      · intro p hp2
        rcases List.mem_append.mp hp2 with z | z
        · exact hp p z
        · rw [List.mem_singleton] at z
          rw [z]
          exact ⟨fun e => by rw [e] at hx; simp at hx; omega, hxc, hmk⟩
      · rw [ef]
        omega
      · show (left - (1 + m)).toNat < left.toNat
        omega
    · refine ⟨_, rfl, D, xs, ps, rfl, hL, hA, okp, by omega, fun p H3 g3 d3 => ?_⟩
      exact k p (fl ps) H3 (fl_ok fun p h => ⟨(hp p h).2.1, (hp p h).2.2⟩) (by omega) (g.trans g3.u) (hu'.gr g3) d3
  · intro σ H Q Q' hq h
    obtain ⟨v, e, ⟨i, j, e1, e2, b, e3, q⟩⟩ := h
    exact ⟨v, e, ⟨i, j, e1, e2, b, e3, hq _ _ q⟩⟩
end
end Vf
end
section
set_option Elab.async false
set_option linter.all false
set_option maxRecDepth 100000
set_option maxHeartbeats 4000000
namespace Vf
open PySem PySem.Spec PyProof.Rows L2 GxR GenW RZ
theorem rest_len {b : Nat} : ∀ {r : List Fc}, (∀ xs ∈ r, xs.length ≤ b) → (r.flatMap fun c => (32, NO) :: c).length ≤ r.length * (b + 1)
  | [], _ => Nat.zero_le _
  | c :: r, h => by
    have ih := rest_len fun q hq => h q (List.mem_cons_of_mem _ hq)
    have q := h c List.mem_cons_self
    rw [List.flatMap_cons, List.length_append, List.length_cons, List.length_cons, Nat.add_mul, Nat.one_mul]
    omega
theorem gl_len {b : Nat} {cs : List Fc} (h : ∀ xs ∈ cs, xs.length ≤ b) (hn : 1 ≤ cs.length) : (gl cs).length + 1 ≤ cs.length * (b + 1) := by
  cases cs with
  | nil => exact absurd hn (by decide)
  | cons c r =>
    have q := rest_len fun q hq => h q (List.mem_cons_of_mem _ hq)
    have q2 := h c List.mem_cons_self
    show (c ++ _).length + 1 ≤ (r.length + 1) * (b + 1)
    rw [List.length_append, Nat.add_mul, Nat.one_mul]
    omega
theorem ddA_cells {K : PySem.W.Frag} {H : Hp} {ys : List V} {v : V} {cs : List Fc} {c : Fc} (h : DdAll K H ys (cs.map ceD)) (hv : Dd K H v (ceD c)) : DdAll K H (ys ++ [v]) ((cs ++ [c]).map ceD) := by
  rw [List.map_append]
  exact ddA_app h (.cons hv .nil)
theorem ddA_lines {K : PySem.W.Frag} {H : Hp} {ys : List V} {v : V} {cs : List Fln} {c : Fln} (h : DdAll K H ys (cs.map liD)) (hv : Dd K H v (liD c)) : DdAll K H (ys ++ [v]) ((cs ++ [c]).map liD) := by
  rw [List.map_append]
  exact ddA_app h (.cons hv .nil)
section
variable {P : Program} {w : World} {K : PySem.W.Frag} {mg : Str → Option Value} {base : Heap}
theorem ok_sline {fd : FuncData} (F : FnP K "_law_some_line" s__law_some_line fd) (T : TD K mg) (D__law_choice : Df P w K mg base "_law_choice" 3 p__law_choice (spChoice K)) (D__law_some_cell : Df P w K mg base "_law_some_cell" 5 p__law_some_cell (spSCell K)) : FnOk P w K mg base CX0 6 (He.fAd K ("_law_some_line", none)) fd p__law_some_line (spSLine K) := by
  refine okP F sc__law_some_line (fun vs H Q E h => by obtain ⟨u, c, sg, rfl, _⟩ := h; rfl) (fun A outer s H vs Q E hr h => ?_)
  obtain ⟨u, c, sg, rfl, hu, hs, k⟩ := h
  refine ⟨_, (pss_cons (ps_set (i := 2) sc__law_some_line.nd rfl (by first | exact Or.inl rfl | exact Or.inr rfl) (pe_fn D__law_choice hr (by decide) rfl (pa_cons (pv 0) (pa_cons (pe_lst (pa_cons pe_int (pa_cons pe_int (pa_cons pe_int (pa_cons pe_int (pa_cons pe_int pa_nil)))))) pa_nil))))
      (pss_cons (ps_set (i := 3) sc__law_some_line.nd rfl (by first | exact Or.inl rfl | exact Or.inr rfl) (pe_fn D__law_choice hr (by decide) rfl (pa_cons (pv 0) (pa_cons (pe_lst (pa_cons pe_int (pa_cons pe_int (pa_cons (pe_ifExp (pt_cmpR u_gt (pv 2) pe_int (nomark _)) pe_int pe_int) pa_nil)))) pa_nil))))
      (pss_one (ps_ret (pe_tup (pa_cons (pe_fn D__law_choice hr (by decide) rfl (pa_cons (pv 0) (pa_cons (pe_lst (pa_cons pe_int (pa_cons pe_int (pa_cons pe_int (pa_cons pe_int (pa_cons pe_int pa_nil)))))) pa_nil))) (pa_cons (k_tuple (K := K) rfl rfl T.b_tuple (pe_lc (own := [("cell", 4)]) (g := gName 4) (tt := tYes) rfl sc__law_some_line.nd (pi_range1 rfl T.b_range (pa_cons (pv 2) pa_nil)) (blkOk_by (own := [("cell", 4)]) (N := n__law_some_line) (sc := defScope s__law_some_line) (by decide +kernel)) (fun _ _ _ _ _ => (pg_name (i := 4) sc__law_some_line.nd rfl (by first | exact Or.inl rfl | exact Or.inr rfl))) (fun _ _ _ _ _ => pts_nil) (fun _ _ _ _ _ => (pe_fn D__law_some_cell hr (by decide) rfl (pa_cons (pv 0) (pa_cons (pv 3) (pa_cons (pv 1) pa_nil))))))) pa_nil))))))), ?_⟩
  refine ⟨_, rfl, by show 5 ≤ sizeLine; rw [sizeLine_eq]; decide, fun p1 hp1 => ?_⟩
  have n1 := hu.ou hp1
  refine newH hp1 fun H1 g1 s1 => ?_
  have hu1 := hu.gr g1
  refine ⟨u, c, p1, [1, 1, 2, 3, 12].map V.int, rfl, hu1, n1, .inl (SqL.of s1), by decide, by decide, fun x H2 hx g2 hu2 => ?_⟩
  obtain ⟨many, hmany, rfl⟩ := List.mem_map.mp hx
  have hm : 1 ≤ many ∧ many ≤ 12 := by
    simp only [List.mem_cons, List.not_mem_nil, or_false] at hmany
    omega
  have G2 := g1.u.trans g2
  refine ⟨_, rfl, _, rfl, gt_ii ⟨_, rfl, ?_⟩⟩
  refine ite2 (fun h1 => ?_) (fun h1 => ?_)
  all_goals
    have h1x := h1
    refine ⟨by show 3 ≤ sizeLine; rw [sizeLine_eq]; decide, fun p3 hp3 => ?_⟩
    have n3 := hu2.ou hp3
    refine newH hp3 fun H3 g3 s3 => ?_
    have hu3 := hu2.gr g3
    first
      | refine ⟨u, c, p3, [3, 9, 40].map V.int, rfl, hu3, n3, .inl (SqL.of s3), by decide, by decide, fun y H4 hy g4 hu4 => ?_⟩
      | refine ⟨u, c, p3, [3, 9, 60].map V.int, rfl, hu3, n3, .inl (SqL.of s3), by decide, by decide, fun y H4 hy g4 hu4 => ?_⟩
    obtain ⟨most, hmost, rfl⟩ := List.mem_map.mp hy
    have hmo : 0 ≤ most ∧ most ≤ 60 := by
      simp only [List.mem_cons, List.not_mem_nil, or_false] at hmost
      omega
    have hmm : most ≤ 40 ∨ many = 1 := by
      simp only [List.mem_cons, List.not_mem_nil, or_false] at hmost
      simp only [decide_eq_true_eq] at h1x
      omega
    have G4 := (G2.trans g3.u).trans g4
    refine ⟨_, rfl, by show 5 ≤ sizeLine; rw [sizeLine_eq]; decide, fun p5 hp5 => ?_⟩
    have n5 := hu4.ou hp5
    refine newH hp5 fun H5 g5 s5 => ?_
    have hu5 := hu4.gr g5
    refine ⟨u, c, p5, [0, 0, 1, 2, 6].map V.int, rfl, hu5, n5, .inl (SqL.of s5), by decide, by decide, fun y6 H6 hy6 g6 hu6 => ?_⟩
    obtain ⟨dep, hdep, rfl⟩ := List.mem_map.mp hy6
    have hde : 0 ≤ dep ∧ dep ≤ 6 := by
      simp only [List.mem_cons, List.not_mem_nil, or_false] at hdep
      omega
    obtain ⟨dn, rfl⟩ := Int.eq_ofNat_of_zero_le hde.1
    have G6 := (G4.trans g5.u).trans g6
    obtain ⟨mn, rfl⟩ := Int.eq_ofNat_of_zero_le (show 0 ≤ many by omega)
    obtain ⟨mo, rfl⟩ := Int.eq_ofNat_of_zero_le hmo.1
    refine ⟨_, rfl, mn, rfl, by omega, by omega, fun D hD => ?_⟩
    rw [Int.toNat_natCast]
    have Du := hu6.ou hD
    have Dc := hu6.oc hD
    have hDH := G6.free Du hD
    refine lc_range (lo := 0) (n := mn) (fun i H' => ∃ (ys : List V) (cs : List Fc), cs.length = i ∧ (∀ e ∈ cs, OkC e ∧ e.length ≤ mo) ∧ GrU u H H' ∧ Urn c H' u ∧ H' D = some (.lst ys) ∧ DdAll K H' ys (cs.map ceD)) ⟨[], [], rfl, by simp, gruD G6 hDH, hu6.gr (Gr.new hD), upd_same, .nil⟩ ?_ ?_
    · rintro i H' hi ⟨ys, cs, hl, hc, g, hu', hL, hA⟩
      refine ⟨rfl, ?_⟩
      refine ⟨_, rfl, _, rfl, _, rfl, u, c, sg, _, rfl, hu', hs.gr g, hmo.1, hmo.2, fun p xs H7 okx lx g7 hu7 dd7 => ?_⟩
      have hL7 := g7.keep Du hL (fun _ z => by cases z)
      have hly : ys.length = cs.length := by rw [ddA_len hA, List.length_map]
      have gup := GrN.upd (ys := ys ++ [.ref p]) hL7
      refine ⟨ys, hL7, by rw [hly, hl, sizeLine_eq]; omega, ys ++ [.ref p], cs ++ [xs], by rw [List.length_append, hl]; rfl, ?_, gruD (g.trans g7) hDH, hu7.updD Du Dc, upd_same, ddA_cells (((g7.n hu').trans gup).ddA _ _ (nl_ces _) hA) (gup.dd _ _ (nl_ce _) dd7)⟩
      intro e he
      rcases List.mem_append.mp he with z | z
      · exact hc e z
      · rw [List.mem_singleton] at z
        rw [z]
        exact ⟨okx, by omega⟩
    · rintro H' ⟨ys, cs, hl, hc, g, hu', hL, hA⟩
      refine ⟨.inl ⟨D, _, rfl, SqL.of hL, fun p7 hp7 => ?_⟩⟩
      refine newH hp7 fun H7 g7 s7 => ?_
      refine ⟨by show 2 ≤ sizeLine; rw [sizeLine_eq]; decide, fun p8 hp8 => ?_⟩
      refine newH hp8 fun H8 g8 s8 => ?_
      have dc : Dd K H8 (.ref p7) (.tuple (cs.map ceD)) := .tup (SqT.of (g8.tup s7)) (g8.ddA _ _ (g7.ddA _ _ hA))
      have gm := gl_len (b := mo) (fun xs hx => (hc xs hx).2) (show 1 ≤ cs.length by omega)
      refine k p8 (dn, cs) H8 ⟨by show dn ≤ 6; omega, by show 1 ≤ cs.length; omega, by show cs.length ≤ 12; omega, ?_, ?_, fun xs hx => (hc xs hx).1⟩ ((g.trans g7.u).trans g8.u) ((hu'.gr g7).gr g8) (.tup (SqT.of s8) (.cons (.int _) (.cons dc .nil)))
      · show (gl cs).length ≤ 491
        rcases hmm with z | z
        · have h41 : cs.length * (mo + 1) ≤ 12 * 41 := Nat.mul_le_mul (by omega) (by omega)
          omega
        · have e1 : cs.length = 1 := by omega
          rw [e1] at gm
          omega
      · show cs.length = 1 ∨ _
        rcases hmm with z | z
        · exact .inr fun xs hx => by have := (hc xs hx).2; omega
        · exact .inl (by omega)
theorem ok_scontent {fd : FuncData} (F : FnP K "_law_some_content" s__law_some_content fd) (T : TD K mg) (D__law_upto : Df P w K mg base "_law_upto" 2 p__law_upto spUpto) (D__law_some_line : Df P w K mg base "_law_some_line" 6 p__law_some_line (spSLine K)) : FnOk P w K mg base CX0 7 (He.fAd K ("_law_some_content", none)) fd p__law_some_content (spSContent K) := by
  refine okP F sc__law_some_content (fun vs H Q E h => by obtain ⟨u, c, sg, rfl, _⟩ := h; rfl) (fun A outer s H vs Q E hr h => ?_)
  obtain ⟨u, c, sg, rfl, hu, hs, k⟩ := h
  refine ⟨_, (pss_one (ps_ret (k_tuple (K := K) rfl rfl T.b_tuple (pe_lc (own := [("line", 2)]) (g := gName 2) (tt := tYes) rfl sc__law_some_content.nd (pi_range1 rfl T.b_range (pa_cons (pe_op (u_add (K := K) rfl) pe_int (pe_fn D__law_upto hr (by decide) rfl (pa_cons (pv 0) (pa_cons pe_int pa_nil)))) pa_nil)) (blkOk_by (own := [("line", 2)]) (N := n__law_some_content) (sc := defScope s__law_some_content) (by decide +kernel)) (fun _ _ _ _ _ => (pg_name (i := 2) sc__law_some_content.nd rfl (by first | exact Or.inl rfl | exact Or.inr rfl))) (fun _ _ _ _ _ => pts_nil) (fun _ _ _ _ _ => (pe_fn D__law_some_line hr (by decide) rfl (pa_cons (pv 0) (pa_cons (pv 1) pa_nil)))))))), ?_⟩
  refine ⟨_, rfl, u, c, 4, rfl, hu, by decide, by decide, fun r H6 h0 h4 G6 hu6 => a_ii ?_⟩
  obtain ⟨mn, hmn⟩ := Int.eq_ofNat_of_zero_le (show 0 ≤ 1 + r by omega)
  refine ⟨1 + r, rfl, by omega, by omega, fun D hD => ?_⟩
  rw [hmn, Int.toNat_natCast]
  have Du := hu6.ou hD
  have Dc := hu6.oc hD
  have hDH := G6.free Du hD
  refine lc_range (lo := 0) (n := mn) (fun i H' => ∃ (ys : List V) (es : List Fln), es.length = i ∧ (∀ e ∈ es, OkLn e) ∧ GrU u H H' ∧ Urn c H' u ∧ H' D = some (.lst ys) ∧ DdAll K H' ys (es.map liD)) ⟨[], [], rfl, by simp, gruD G6 hDH, hu6.gr (Gr.new hD), upd_same, .nil⟩ ?_ ?_
  · rintro i H' hi ⟨ys, es, hl, hc, g, hu', hL, hA⟩
    refine ⟨rfl, ?_⟩
    refine ⟨_, rfl, _, rfl, u, c, sg, rfl, hu', hs.gr g, fun p l H7 okl g7 hu7 dd7 => ?_⟩
    have hL7 := g7.keep Du hL (fun _ z => by cases z)
    have hly : ys.length = es.length := by rw [ddA_len hA, List.length_map]
    have gup := GrN.upd (ys := ys ++ [.ref p]) hL7
    refine ⟨ys, hL7, by rw [hly, hl, sizeLine_eq]; omega, ys ++ [.ref p], es ++ [l], by rw [List.length_append, hl]; rfl, ?_, gruD (g.trans g7) hDH, hu7.updD Du Dc, upd_same, ddA_lines (((g7.n hu').trans gup).ddA _ _ (nl_lis _) hA) (gup.dd _ _ (nl_li _) dd7)⟩
    intro e he
    rcases List.mem_append.mp he with z | z
    · exact hc e z
    · rw [List.mem_singleton] at z
      exact z ▸ okl
  · rintro H' ⟨ys, es, hl, hc, g, hu', hL, hA⟩
    refine ⟨.inl ⟨D, _, rfl, SqL.of hL, fun p7 hp7 => ?_⟩⟩
    refine newH hp7 fun H7 g7 s7 => ?_
    exact k p7 es H7 ⟨by omega, by omega, hc⟩ (by omega) (g.trans g7.u) (hu'.gr g7) (.tup (SqT.of s7) (g7.ddA _ _ hA))
theorem ok_some_set {fd : FuncData} (F : FnP K "_law_some_set" s__law_some_set fd) (T : TD K mg) (D__law_upto : Df P w K mg base "_law_upto" 2 p__law_upto spUpto) : FnOk P w K mg base CX0 3 (He.fAd K ("_law_some_set", none)) fd p__law_some_set (spSomeSet K) := by
  refine okP F sc__law_some_set (fun vs H Q E h => by obtain ⟨u, c, rfl, _⟩ := h; rfl) (fun A outer s H vs Q E hr h => ?_)
  obtain ⟨u, c, rfl, hu, k⟩ := h
  refine ⟨_, (pss_one (ps_ret (k_tuple (K := K) rfl rfl T.b_tuple (pe_lc (own := [("feature", 1)]) (g := gName 1) rfl sc__law_some_set.nd (k_tup (K := K) rfl (pe_tup (pa_cons pe_str (pa_cons pe_str (pa_cons pe_str (pa_cons pe_str (pa_cons pe_str pa_nil))))))) (blkOk_by (own := [("feature", 1)]) (N := n__law_some_set) (sc := defScope s__law_some_set) (by decide +kernel)) (fun _ _ _ _ _ => (pg_name (i := 1) sc__law_some_set.nd rfl (by first | exact Or.inl rfl | exact Or.inr rfl))) (fun _ _ _ _ _ => (pts_one (pt_cmpR (u_eq (K := K) rfl hr.units) (pe_fn D__law_upto hr (by decide) rfl (pa_cons (pv 0) (pa_cons pe_int pa_nil))) pe_int (nomark _)))) (fun _ _ _ _ _ => (pv 1)))))), ?_⟩
  refine ⟨by show 5 ≤ sizeLine; rw [sizeLine_eq]; decide, fun p0 hp0 => ?_⟩
  refine newH hp0 fun H0 g0 s0 => ?_
  have hu0 := hu.gr g0
  refine ⟨p0, rfl, ⟨_, SqT.of s0⟩, fun D hD => ?_⟩
  have Du := hu0.ou hD
  have Dc := hu0.oc hD
  refine lc_tup (K := K) (a := p0) (xs := strV five) (fun i H' => ∃ fs : List Str, fs.length ≤ i ∧ GrU u H0 H' ∧ Urn c H' u ∧ H' D = some (.lst (strV fs))) ⟨[], Nat.le_refl _, gruD (GrU.refl _ _) hD, hu0.gr (Gr.new hD), upd_same⟩ ?_ ?_ ?_
  · rintro i H' _ ⟨fs, _, g, _, _⟩
    exact g.seqT hu0 (SqT.of s0)
  · rintro i x H' hx ⟨fs, hl, g, hu', hL⟩
    obtain ⟨f, hf, rfl⟩ := strV_get hx
    have il := (List.getElem?_eq_some_iff.mp hx).1
    have il2 : i < 5 := il
    refine ⟨rfl, ?_⟩
    refine ⟨_, rfl, u, c, 2, rfl, hu', by decide, by decide, fun r H2 _ _ g2 hu2 => e_flat rfl ⟨_, rfl, ?_⟩⟩
    have hL2 := g2.keep Du hL (fun _ z => by cases z)
    refine ite2 (fun h1 => ?_) (fun h1 => ?_)
    · refine ⟨_, rfl, _, hL2, ?_, fs ++ [f], by rw [List.length_append]; show fs.length + 1 ≤ _; omega, gruD (g.trans g2) hD, hu2.updD Du Dc, ?_⟩
      · show (List.map V.str _).length < _
        rw [List.length_map, sizeLine_eq]
        omega
      · rw [upd_same]
        unfold strV
        rw [List.map_append]; rfl
    · exact ⟨fs, by omega, g.trans g2, hu2, hL2⟩
  · rintro H' ⟨fs, _, g, hu', hL⟩
    refine ⟨.inl ⟨D, _, rfl, SqL.of hL, fun t ht => ?_⟩⟩
    refine newH ht fun H2 g2 s2 => ?_
    exact k t fs H2 ((g0.u.trans g).trans g2.u) (hu'.gr g2) (SqT.of s2)
end
end Vf
end
section
set_option Elab.async false
set_option linter.all false
set_option maxRecDepth 100000
set_option maxHeartbeats 4000000
namespace Vf
open PySem PySem.Spec PyProof.Rows L2 GxR GenW RZ
abbrev s_law : Stmt := top 42
abbrev n_law : List Str := ["script", "urn", "turn", "content", "before", "features", "feature", "due", "other", "found", "tall", "cell", "wide"]
abbrev p_law : List Str := ["script"]
theorem sc_law : FnScope n_law p_law (defScope s_law) := ⟨rfl, rfl, rfl, by decide +kernel, rfl, by decide +kernel, by decide +kernel⟩

def spLaw (K : PySem.W.Frag) : Sp := fun vs H Q _ => ∃ (a : Addr) (ns : List Int), vs = [.ref a] ∧ SqL K H a (ns.map V.int) ∧ ns.length ≤ 63 ∧ Tbs K H ∧ ∀ H', Q (.bl true) H'
structure Sl (K : PySem.W.Frag) (c u : Addr) (H : Hp) : Prop where
  tb : Tbs K H
  hu : Urn c H u
section
variable {K : PySem.W.Frag} {c u : Addr} {H H' : Hp}
theorem Sl.gr (h : Sl K c u H) (g : Gr H H') : Sl K c u H' := ⟨h.tb.gr g, h.hu.gr g⟩
theorem Sl.gru (h : Sl K c u H) (g : GrU u H H') (hu : Urn c H' u) : Sl K c u H' := ⟨⟨g.tabG h.hu h.tb.w, g.tabG h.hu h.tb.p, g.tabG h.hu h.tb.c, g.tabG h.hu h.tb.l, g.tabG h.hu h.tb.t⟩, hu⟩
end
/-! ### the laws of dropping -/
theorem op_idem (f : Str) (m : Fm) : op (one f) (op (one f) m) = op (one f) m := by
  rw [op_op]
  exact op_congr (fun g _ => Bool.or_self _) m
theorem op_comm (f g : Str) (m : Fm) : op (one f) (op (one g) m) = op (one g) (op (one f) m) := by
  rw [op_op, op_op]
  exact op_congr (fun h _ => Bool.or_comm _ _) m
theorem keep_keep (fs : List Str) (m : Fm) : keepM fs (keepM fs m) = keepM fs m := by
  unfold keepM
  rw [op_op]
  exact op_congr (fun g _ => Bool.or_self _) m
theorem keep_out {f : Str} {fs : List Str} (h5 : f ∈ five) (h : f ∉ fs) (m : Fm) : op (one f) (keepM fs m) = keepM fs m := by
  unfold keepM
  rw [op_op]
  refine op_congr (fun g _ => ?_) m
  unfold orD one keepS
  by_cases e : g = f
  · subst e
    simp [h, h5]
  · simp [e]
theorem used_in {f : Str} {m : Fm} (h : f ∈ usedF m) : f ∈ five := (List.mem_filter.mp h).1
theorem used_keep {f : Str} {fs : List Str} {m : Fm} (ok : OkF (keepM fs m)) (h : f ∈ usedF (keepM fs m)) : f ∈ fs := by
  by_cases hin : f ∈ fs
  · exact hin
  · have h2 := (List.mem_filter.mp h).2
    rw [keep_out (used_in h) hin, eqv_refl _ (cl_co ok).lay] at h2
    cases h2
theorem used_rep {m : Fm} {k : Nat} (h : 1 ≤ k) : usedF (List.replicate k m).flatten = usedF m := by
  unfold usedF
  refine List.filter_congr fun f _ => ?_
  rw [op_rep, eqv_rep (by unfold op; rw [List.length_map]) h]
def strD (fs : List Str) : PyData := .tuple (fs.map PyData.str)
theorem five_ok : ∀ f ∈ five, f.length ≤ 5 ∧ aS f = true := by decide +kernel
theorem used_cl (m : Fm) : Cl 273 1 (strD (usedF m)) := by
  have l5 : (usedF m).length ≤ 5 := List.length_filter_le _ _
  refine Cl.mono (Cl.tups (l := 5) (b := 52) (n := 0) (fun d hd => ?_) (by rw [List.length_map]; exact l5)) (by decide) (Nat.le_refl _)
  obtain ⟨f, hf, rfl⟩ := List.mem_map.mp hd
  obtain ⟨h1, h2⟩ := five_ok f (used_in hf)
  exact Cl.str h1 h2
theorem dd_strD {K : PySem.W.Frag} {H : Hp} {p : Addr} {fs : List Str} (h : SqT K H p (strV fs)) : Dd K H (.ref p) (strD fs) := .tup h (dd_strs fs)
theorem OkF.four {m : Fm} (h : OkF m) : (coD m).showable = true ∧ ((coD m).hasDict = true → noLst (coD m) = true) ∧ (coD m).depth < 60 ∧ (coD m).shown.length ≤ sizeLine := h.ask.four
theorem used_four (m : Fm) : (strD (usedF m)).showable = true ∧ ((strD (usedF m)).hasDict = true → noLst (strD (usedF m)) = true) ∧ (strD (usedF m)).depth < 60 ∧ (strD (usedF m)).shown.length ≤ sizeLine := ((used_cl m).ask (by decide) (by decide)).four
theorem ddA_rep {K : PySem.W.Frag} {H : Hp} {xs : List V} {ds : List PyData} (h : DdAll K H xs ds) : ∀ k, DdAll K H (List.replicate k xs).flatten (List.replicate k ds).flatten
  | 0 => .nil
  | k + 1 => by
    rw [List.replicate_succ, List.flatten_cons, List.replicate_succ, List.flatten_cons]
    exact ddA_app h (ddA_rep h k)
/-! the widest line -/
def X40 : Str := ⟨(List.replicate (40 : Int).toNat ("x" : Str).cps).foldl (· ++ ·) #[]⟩
def wmk : Mk3 := ("w", true, false)
theorem X40_cps : cps X40 = List.replicate 40 120 := by decide +kernel
def xw : Fc := fl [(X40, wmk)]
theorem cn_xw : cn xw = [(X40, wmk)] := by
  have q := jn_cn (ps := [(X40, wmk)]) (fun p hp => by
    rw [List.mem_singleton] at hp
    rw [hp]
    show cps X40 ≠ []
    rw [X40_cps]
    decide)
  exact q.symm
theorem xw_len : xw.length = 40 := by
  unfold xw
  rw [fl_one, List.length_map, X40_cps]
  rfl
theorem xw_ok : OkC xw := fl_ok fun p hp => by
  rw [List.mem_singleton] at hp
  rw [hp]
  refine ⟨fun c hc => ?_, by simp [wmk, LK4]⟩
  have hc2 : c ∈ cps X40 := hc
  rw [X40_cps] at hc2
  rw [(List.mem_replicate.mp hc2).2]
  decide
def wide : Fm := [(6, List.replicate 12 xw)]
theorem wide_ok : OkF wide := by
  refine ⟨Nat.le_refl _, by decide, fun x hx => ?_⟩
  have e : x = (6, List.replicate 12 xw) := List.mem_singleton.mp hx
  rw [e]
  have h40 : ∀ xs ∈ List.replicate 12 xw, xs.length ≤ 40 := fun xs hxs => by
    rw [(List.mem_replicate.mp hxs).2, xw_len]
    exact Nat.le_refl _
  refine ⟨Nat.le_refl _, by show 1 ≤ (List.replicate 12 xw).length; rw [List.length_replicate]; decide, by show (List.replicate 12 xw).length ≤ 12; rw [List.length_replicate]; decide, ?_, .inr h40, fun xs hxs => ?_⟩
  · have q := gl_len h40 (by rw [List.length_replicate]; decide)
    rw [List.length_replicate] at q
    show (gl (List.replicate 12 xw)).length ≤ 491
    omega
  · have hxs2 : xs ∈ List.replicate 12 xw := hxs
    rw [(List.mem_replicate.mp hxs2).2]
    exact xw_ok
def SG : List Str := [chS 97, chS 98, chS 32, chS 126]
theorem sgn_SG : sgn "ab ~" = strV SG := by decide +kernel
theorem SG_ok : ∀ s ∈ SG, OkSg s := by
  intro s h
  simp only [SG, List.mem_cons, List.not_mem_nil, or_false] at h
  rcases h with rfl | rfl | rfl | rfl
  · exact ⟨97, rfl, by decide, by decide⟩
  · exact ⟨98, rfl, by decide, by decide⟩
  · exact ⟨32, rfl, by decide, by decide⟩
  · exact ⟨126, rfl, by decide, by decide⟩
section
variable {P : Program} {w : World} {K : PySem.W.Frag} {mg : Str → Option Value} {base : Heap}
theorem ok_law {fd : FuncData} (F : FnP K "law" s_law fd) (T : TD K mg) (D__law_urn_of : Df P w K mg base "_law_urn_of" 1 p__law_urn_of (spUrnOf K)) (D__law_choice : Df P w K mg base "_law_choice" 3 p__law_choice (spChoice K))
    (D__law_some_content : Df P w K mg base "_law_some_content" 7 p__law_some_content (spSContent K)) (D__law_some_set : Df P w K mg base "_law_some_set" 3 p__law_some_set (spSomeSet K)) (D__law_equal : DfG P w K mg base "_law_equal" 1 p__law_equal (spEqual K))
    (D_is_content : Df P w K mg base "is_content" 10 p_is_content (spOf K isCt)) (D_drop : Df P w K mg base "drop" 4 p_drop (spDrop K)) (D_keep : Df P w K mg base "keep" 5 p_keep (spKeep K)) (D_used : Df P w K mg base "used" 5 p_used (spUsed K))
    (D__law_dropped : Df P w K mg base "_law_dropped" 2 p__law_dropped (spDrop K)) (D__law_keeping : Df P w K mg base "_law_keeping" 3 p__law_keeping (spKeep K)) (D__law_features_of : Df P w K mg base "_law_features_of" 3 p__law_features_of (spUsed K)) :
    FnG P w K mg base CX0 11 (He.fAd K ("law", none)) fd p_law (spLaw K) := by
  refine okQ F sc_law (fun vs H Q E h => by obtain ⟨a, ns, rfl, _⟩ := h; rfl) (fun A outer s H vs Q E hgu hr h => ?_)
  obtain ⟨a, ns, rfl, hS, hl, tb, k⟩ := h
  have sl : ∀ {n : Nat}, n ≤ 3000 → n ≤ sizeLine := fun h => by rw [sizeLine_eq]; omega
  refine ⟨_, (pss_cons (ps_set (i := 1) sc_law.nd rfl (by first | exact Or.inl rfl | exact Or.inr rfl) (pe_fn D__law_urn_of hr (by decide) rfl (pa_cons (pv 0) pa_nil)))
      (pss_cons (ps_for PassesOwn.never rfl (pi_range1 rfl T.b_range (pa_cons pe_int pa_nil)) (pg_name (i := 2) sc_law.nd rfl (by first | exact Or.inl rfl | exact Or.inr rfl))
      (pss_cons (ps_set (i := 3) sc_law.nd rfl (by first | exact Or.inl rfl | exact Or.inr rfl) (pe_fn D__law_some_content hr (by decide) rfl (pa_cons (pv 1) (pa_cons (pe_callTy (call_listU (K := K) rfl rfl) rfl T.b_list (by decide +kernel) (pa_cons pe_str pa_nil)) pa_nil))))
      (pss_cons (ps_asg (pe_tup (pa_cons (pe_callB (call_reprD hgu hr.units) rfl T.b_repr (by decide +kernel) (pa_cons (pv 3) pa_nil)) (pa_cons (pe_fn D__law_some_set hr (by decide) rfl (pa_cons (pv 1) pa_nil)) pa_nil))) (kg_tup 2 (K := K) rfl rfl (pgs_cons (pg_name (i := 4) sc_law.nd rfl (by first | exact Or.inl rfl | exact Or.inr rfl)) (pgs_cons (pg_name (i := 5) sc_law.nd rfl (by first | exact Or.inl rfl | exact Or.inr rfl)) pgs_nil))))
      (pss_cons (ps_if (pt_not (pt_val (pe_fnG hgu D__law_equal hr (by decide) rfl (pa_cons (pe_fn D_used hr (by decide) rfl (pa_cons (pv 3) pa_nil)) (pa_cons (pe_fn D__law_features_of hr (by decide) rfl (pa_cons (pv 3) pa_nil)) pa_nil)))))
      (pss_one (ps_ret pe_bl))
      pss_nil)
      (pss_cons (ps_for PassesOwn.never rfl (k_tup (K := K) rfl (pe_tup (pa_cons pe_str (pa_cons pe_str (pa_cons pe_str (pa_cons pe_str (pa_cons pe_str pa_nil))))))) (pg_name (i := 6) sc_law.nd rfl (by first | exact Or.inl rfl | exact Or.inr rfl))
      (pss_cons (ps_set (i := 7) sc_law.nd rfl (by first | exact Or.inl rfl | exact Or.inr rfl) (pe_fn D__law_dropped hr (by decide) rfl (pa_cons (pv 3) (pa_cons (pv 6) pa_nil))))
      (pss_cons (ps_if (PW.pt (pw_or (pt_not (pt_val (pe_fnG hgu D__law_equal hr (by decide) rfl (pa_cons (pe_fn D_drop hr (by decide) rfl (pa_cons (pv 3) (pa_cons (pv 6) pa_nil))) (pa_cons (pv 7) pa_nil))))) (pw_or1 (pt_not (pt_val (pe_fnG hgu D__law_equal hr (by decide) rfl (pa_cons (pe_fn D_drop hr (by decide) rfl (pa_cons (pv 7) (pa_cons (pv 6) pa_nil))) (pa_cons (pv 7) pa_nil))))))))
      (pss_one (ps_ret pe_bl))
      pss_nil)
      (pss_cons (ps_set (i := 8) sc_law.nd rfl (by first | exact Or.inl rfl | exact Or.inr rfl) (pe_fn D__law_choice hr (by decide) rfl (pa_cons (pv 1) (pa_cons (pe_lst (pa_cons pe_str (pa_cons pe_str (pa_cons pe_str (pa_cons pe_str (pa_cons pe_str pa_nil)))))) pa_nil))))
      (pss_one (ps_if (pt_not (pt_val (pe_fnG hgu D__law_equal hr (by decide) rfl (pa_cons (pe_fn D_drop hr (by decide) rfl (pa_cons (pe_fn D_drop hr (by decide) rfl (pa_cons (pv 3) (pa_cons (pv 6) pa_nil))) (pa_cons (pv 8) pa_nil))) (pa_cons (pe_fn D_drop hr (by decide) rfl (pa_cons (pe_fn D_drop hr (by decide) rfl (pa_cons (pv 3) (pa_cons (pv 8) pa_nil))) (pa_cons (pv 6) pa_nil))) pa_nil)))))
      (pss_one (ps_ret pe_bl))
      pss_nil))))))
      (pss_cons (ps_set (i := 9) sc_law.nd rfl (by first | exact Or.inl rfl | exact Or.inr rfl) (pe_fn D_keep hr (by decide) rfl (pa_cons (pv 3) (pa_cons (pv 5) pa_nil))))
      (pss_cons (ps_if (PW.pt (pw_or (pt_not (pt_val (pe_fnG hgu D__law_equal hr (by decide) rfl (pa_cons (pv 9) (pa_cons (pe_fn D__law_keeping hr (by decide) rfl (pa_cons (pv 3) (pa_cons (pv 5) pa_nil))) pa_nil))))) (pw_or1 (pt_not (pt_val (pe_fnG hgu D__law_equal hr (by decide) rfl (pa_cons (pe_fn D_keep hr (by decide) rfl (pa_cons (pv 9) (pa_cons (pv 5) pa_nil))) (pa_cons (pv 9) pa_nil))))))))
      (pss_one (ps_ret pe_bl))
      pss_nil)
      (pss_cons (ps_if (PW.pt (pw_or (pt_not (pt_val (pe_fn D_is_content hr (by decide) rfl (pa_cons (pv 9) pa_nil)))) (pw_or1 (pt_cmpR (u_neW (K := K) rfl hr.units) (pe_lc (own := [("feature", 6)]) (g := gName 6) rfl sc_law.nd (k_tup (K := K) rfl (pe_fn D_used hr (by decide) rfl (pa_cons (pv 9) pa_nil))) (blkOk_by (own := [("feature", 6)]) (N := n_law) (sc := defScope s_law) (by decide +kernel)) (fun _ _ _ _ _ => (pg_name (i := 6) sc_law.nd rfl (by first | exact Or.inl rfl | exact Or.inr rfl))) (fun _ _ _ _ _ => (pts_one (pt_cmpR (u_ni (K := K) rfl) (pv 6) (pv 5) (by first | exact nomark _ | rfl)))) (fun _ _ _ _ _ => (pv 6))) (pe_lst pa_nil) (nomark _)))))
      (pss_one (ps_ret pe_bl))
      pss_nil)
      (pss_cons (ps_set (i := 10) sc_law.nd rfl (by first | exact Or.inl rfl | exact Or.inr rfl) (pe_op (u_mulW (K := K) rfl) (pv 3) (pe_op u_fdiv pe_int (pe_callB (k_len (K := K) rfl) rfl T.b_len (by decide +kernel) (pa_cons (pv 3) pa_nil)))))
      (pss_cons (ps_if (PW.pt (pw_or (pt_not (pt_val (pe_fnG hgu D__law_equal hr (by decide) rfl (pa_cons (pe_fn D_keep hr (by decide) rfl (pa_cons (pv 10) (pa_cons (pv 5) pa_nil))) (pa_cons (pe_fn D__law_keeping hr (by decide) rfl (pa_cons (pv 10) (pa_cons (pv 5) pa_nil))) pa_nil))))) (pw_or1 (pt_cmpR (u_neW (K := K) rfl hr.units) (pe_fn D_used hr (by decide) rfl (pa_cons (pv 10) pa_nil)) (pe_fn D_used hr (by decide) rfl (pa_cons (pv 3) pa_nil)) (nomark _)))))
      (pss_one (ps_ret pe_bl))
      pss_nil)
      (pss_one (ps_if (pt_cmpR (u_neW (K := K) rfl hr.units) (pe_callB (call_reprD hgu hr.units) rfl T.b_repr (by decide +kernel) (pa_cons (pv 3) pa_nil)) (pv 4) (nomark _))
      (pss_one (ps_ret pe_bl))
      pss_nil))))))))))))
      (pss_cons (ps_set (i := 12) sc_law.nd rfl (by first | exact Or.inl rfl | exact Or.inr rfl) (pe_tup (pa_cons (pe_tup (pa_cons pe_int (pa_cons (k_tuple (K := K) rfl rfl T.b_tuple (pe_lc (own := [("cell", 11)]) (g := gName 11) (tt := tYes) rfl sc_law.nd (pi_range1 rfl T.b_range (pa_cons pe_int pa_nil)) (blkOk_by (own := [("cell", 11)]) (N := n_law) (sc := defScope s_law) (by decide +kernel)) (fun _ _ _ _ _ => (pg_name (i := 11) sc_law.nd rfl (by first | exact Or.inl rfl | exact Or.inr rfl))) (fun _ _ _ _ _ => pts_nil) (fun _ _ _ _ _ => (pe_tup (pa_cons (pe_tup (pa_cons (pe_op (u_mulW (K := K) rfl) pe_str pe_int) (pa_cons (pe_tup (pa_cons pe_str (pa_cons pe_bl (pa_cons pe_bl pa_nil)))) pa_nil))) pa_nil))))) pa_nil))) pa_nil)))
      (pss_one (ps_ret (pe_and (pe_fn D_is_content hr (by decide) rfl (pa_cons (pe_fn D_keep hr (by decide) rfl (pa_cons (pv 12) (pa_cons (pe_tup pa_nil) pa_nil))) pa_nil)) (pe_one (pe_fnG hgu D__law_equal hr (by decide) rfl (pa_cons (pe_fn D_keep hr (by decide) rfl (pa_cons (pv 12) (pa_cons (pe_tup pa_nil) pa_nil))) (pa_cons (pe_fn D__law_keeping hr (by decide) rfl (pa_cons (pv 12) (pa_cons (pe_tup pa_nil) pa_nil))) pa_nil)))))))))), ?_⟩
  refine ⟨_, rfl, a, ns, rfl, hS, hl, fun u c H1 hu0 hc0 g1 hu1 => ?_⟩
  have st1 : Sl K c u H1 := ⟨tb.gr g1, hu1⟩
  refine ⟨12, rfl, by decide, by decide, ?_⟩
  refine for_range (lo := 0) (n := 12) (fun i σ H' => ∃ o2 o3 o4 o5 o6 o7 o8 o9 oa, σ = [some (.ref a), some (.ref u), o2, o3, o4, o5, o6, o7, o8, o9, oa, none, none] ∧ Sl K c u H')
    ⟨none, none, none, none, none, none, none, none, none, rfl, st1⟩ ?_ ?_
  · rintro i σ H2 hi ⟨o2, o3, o4, o5, o6, o7, o8, o9, oa, rfl, st2⟩
    refine ⟨_, rfl, lsU_s (by rw [sizeLine_eq]; decide +kernel) fun l3 hl3 => ?_⟩
    have n3 := st2.hu.ou hl3
    refine newH hl3 fun H3 g3 s3 => ?_
    have st3 := st2.gr g3
    rw [sgn_SG] at s3
    refine ⟨u, c, l3, rfl, st3.hu, ⟨n3, SG, SqL.of s3, by simp [SG], by decide, SG_ok⟩, fun p4 m H4 ok lm g4 hu4 d4 => ?_⟩
    have st4 := st3.gru g4 hu4
    obtain ⟨f1, f2, f3, f4⟩ := ok.four
    -- what is known of the content; the features
    refine ⟨_, rfl, _, _, rfl, d4, f1, f2, f3, f4, ?_⟩
    refine ⟨_, rfl, u, c, rfl, hu4, fun p5 fs H5 g5 hu5 s5 => ?_⟩
    have st5 := st4.gru g5 hu5
    refine ⟨sl (by show 2 ≤ 3000; decide), fun t5 ht5 => ?_⟩
    refine newH ht5 fun H6 g6 s6 => ?_
    have st6 := st5.gr g6
    have d6 := (g6.n).dd _ _ (nl_co m) ((g5.n hu4).dd _ _ (nl_co m) d4)
    have fs6 := g6.seqT s5
    refine ⟨t5, _, rfl, SqT.of s6, rfl, _, _, rfl, _, _, rfl, rfl, ?_⟩
    -- what it uses
    refine ⟨_, rfl, _, m, rfl, d6, ok, fun p7 H7 g7 s7 => ?_⟩
    refine ⟨_, rfl, _, m, rfl, g7.dd _ _ d6, ok, fun p8 H8 g8 s8 => ?_⟩
    refine ⟨_, _, _, _, rfl, dd_strD (g8.seqT s7), dd_strD s8, used_four m, used_four m, ⟨_, rfl, ?_⟩⟩
    rw [decide_eq_true rfl]
    refine iteF ?_
    have G8 := g7.trans g8
    have st8 := st6.gr G8
    have d8 := G8.dd _ _ d6
    have fs8 := G8.seqT fs6
    -- feature by feature
    refine ⟨sl (by show 5 ≤ 3000; decide), fun t9 ht9 => ?_⟩
    refine newH ht9 fun H9 g9 s9 => ?_
    have st9 := st8.gr g9
    have d9 := g9.dd _ _ d8
    have fs9 := g9.seqT fs8
    refine ⟨t9, rfl, ⟨_, SqT.of s9⟩, ?_⟩
    refine for_tup (K := K) (a := t9) (xs := strV five) (fun j σ H' => ∃ o6 o7 o8, σ = [some (.ref a), some (.ref u), some (.int (0 + (i : Nat))), some (.ref p4), some (.str (coD m).shown), some (.ref p5), o6, o7, o8, o9, oa, none, none] ∧ Sl K c u H' ∧ GrN H9 H')
      ⟨_, _, _, rfl, st9, GrN.refl _⟩ ?_ ?_ ?_
    · rintro j σ H' _ ⟨o6, o7, o8, rfl, st, g⟩
      exact g.seqT (SqT.of s9)
    · rintro j x σ H' hx ⟨o6, o7, o8, rfl, st, g⟩
      obtain ⟨f, hf, rfl⟩ := strV_get hx
      have h5 := List.mem_of_getElem? hf
      have dm := g.dd _ _ (nl_co m) d9
      have ok1 := ok.op (one f)
      refine ⟨_, rfl, _, rfl, _, f, m, rfl, h5, dm, ok, fun q1 K1 e1 a1 => ?_⟩
      refine ⟨_, rfl, _, rfl, _, f, m, rfl, h5, e1.dd _ _ dm, ok, fun q2 K2 e2 a2 => ?_⟩
      refine ⟨_, rfl, _, _, _, _, rfl, a2, e2.dd _ _ a1, ok1.four, ok1.four, ⟨_, rfl, ?_⟩⟩
      rw [decide_eq_true rfl]
      refine iteF ?_
      have a1' := e2.dd _ _ a1
      refine ⟨_, rfl, _, rfl, _, f, _, rfl, h5, a1', ok1, fun q3 K3 e3 a3 => ?_⟩
      rw [op_idem] at a3
      refine ⟨_, rfl, _, _, _, _, rfl, a3, e3.dd _ _ a1', ok1.four, ok1.four, ⟨_, rfl, ?_⟩⟩
      rw [decide_eq_true rfl]
      refine iteF ?_
      have E3 := (e1.trans e2).trans e3
      have st' := st.gr E3
      refine ⟨_, rfl, sl (by show 5 ≤ 3000; decide), fun l5 hl5 => ?_⟩
      have n5 := st'.hu.ou hl5
      refine newH hl5 fun K5 e5 b5 => ?_
      have st5' := st'.gr e5
      refine ⟨u, c, l5, strV five, rfl, st5'.hu, n5, .inl (SqL.of b5), by simp [five, strV], by show 5 < 1073741824; decide, fun y K6 hy e6 hu6 => ?_⟩
      obtain ⟨o, ho5, rfl⟩ := List.mem_map.mp hy
      have st6' := st5'.gru e6 hu6
      have N6 : GrN H9 K6 := (g.trans (E3.trans e5).n).trans (e6.n st5'.hu)
      have dm6 := N6.dd _ _ (nl_co m) d9
      have ok2 := ok.op (one o)
      refine ⟨_, rfl, _, rfl, _, f, m, rfl, h5, dm6, ok, fun q7 K7 e7 a7 => ?_⟩
      refine ⟨_, rfl, _, o, _, rfl, ho5, a7, ok1, fun q8 K8 e8 a8 => ?_⟩
      refine ⟨_, rfl, _, rfl, _, o, m, rfl, ho5, (e7.trans e8).dd _ _ dm6, ok, fun q9 K9 e9 a9 => ?_⟩
      refine ⟨_, rfl, _, f, _, rfl, h5, a9, ok2, fun q10 K10 e10 a10 => ?_⟩
      rw [op_comm f o] at a10
      have ok3 := ok1.op (one o)
      refine ⟨_, _, _, _, rfl, (e9.trans e10).dd _ _ a8, a10, ok3.four, ok3.four, ⟨_, rfl, ?_⟩⟩
      rw [decide_eq_true rfl]
      refine iteF ?_
      have E10 := ((e7.trans e8).trans e9).trans e10
      exact ⟨_, _, _, rfl, st6'.gr E10, N6.trans E10.n⟩
    rintro σ Ha ⟨o6, o7, o8, rfl, sta, ga⟩
    have da := ga.dd _ _ (nl_co m) d9
    have fsa := ga.seqT fs9
    -- what is kept
    have okk : OkF (keepM fs m) := ok.op _
    refine ⟨_, rfl, _, rfl, _, p5, fs, m, rfl, fsa, da, ok, fun vk Hb gb db => ?_⟩
    have dab := gb.dd _ _ da
    have fsb := gb.seqT fsa
    refine ⟨_, rfl, _, rfl, _, rfl, _, p5, fs, m, rfl, fsb, dab, ok, fun vl Hc gc dc => ?_⟩
    refine ⟨_, _, _, _, rfl, gc.dd _ _ db, dc, okk.four, okk.four, ⟨_, rfl, ?_⟩⟩
    rw [decide_eq_true rfl]
    refine iteF ?_
    have dbc := gc.dd _ _ db
    have fsc := gc.seqT fsb
    refine ⟨_, rfl, _, rfl, _, p5, fs, _, rfl, fsc, dbc, okk, fun vm Hd gd dd => ?_⟩
    rw [keep_keep] at dd
    refine ⟨_, rfl, _, _, _, _, rfl, dd, gd.dd _ _ dbc, okk.four, okk.four, ⟨_, rfl, ?_⟩⟩
    rw [decide_eq_true rfl]
    refine iteF ?_
    have dd1 := gd.dd _ _ dbc
    have gad := (gb.trans gc).trans gd
    have std := sta.gr gad
    have fsd := gad.seqT fsa
    have dmd := gad.dd _ _ da
    -- it is a content, and uses nothing else
    refine ⟨_, rfl, _, _, rfl, dd1, okk.tx, std.tb, fun He ge => ?_⟩
    rw [isCt_coD okk]
    refine ⟨_, rfl, ?_⟩
    refine iteF ?_
    have dde := ge.dd _ _ dd1
    refine ⟨_, rfl, _, _, rfl, dde, okk, fun pu Hf gf sf => ⟨pu, rfl, ⟨_, sf⟩, fun D hD => ?_⟩⟩
    have fsf := (ge.trans gf).seqT fsd
    refine lc_tup (K := K) (a := pu) (xs := strV (usedF (keepM fs m))) (fun j H' => Gr Hf H' ∧ H' D = some (.lst [])) ⟨Gr.new hD, upd_same⟩ ?_ ?_ ?_
    · rintro j H' _ ⟨g, _⟩
      exact g.seqT sf
    · rintro j x H' hx ⟨g, hL⟩
      obtain ⟨f, hf, rfl⟩ := strV_get hx
      have hin := used_keep okk (List.mem_of_getElem? hf)
      refine ⟨rfl, ?_⟩
      refine ⟨_, rfl, _, rfl, ni_seq (.inr (g.seqT fsf)) rfl (strV_flat _) ⟨_, rfl, ?_⟩⟩
      rw [inV_str.mpr hin]
      exact iteF ⟨g, hL⟩
    rintro Hg ⟨gg, hLg⟩
    refine ⟨Nat.zero_le _, fun lh hlh => ?_⟩
    refine newH hlh fun Hh gh sh => ?_
    refine wn_nil (SqL.of (gh.lst hLg)) (SqL.of sh) ⟨_, rfl, ?_⟩
    rw [decide_eq_true rfl]
    refine iteF ?_
    have gdh := ((ge.trans gf).trans gg).trans gh
    have sth := std.gr gdh
    have fsh := gdh.seqT fsd
    have dmh := gdh.dd _ _ dmd
    -- the tall one
    obtain ⟨_, cxs, ec, sqc, dAc⟩ := dd_tup dmh
    cases ec
    have cl : cxs.length = m.length := by rw [ddA_len dAc, List.length_map]
    have l1 := ok.l1
    obtain ⟨kk, k1, k2, k3⟩ : ∃ kk : Nat, 2 ≤ kk ∧ kk * m.length ≤ 200 ∧ ((200 : Int).fdiv ((cxs.length : Nat) : Int)) = (kk : Nat) := by
      rw [cl]
      rcases (show m.length = 1 ∨ m.length = 2 ∨ m.length = 3 ∨ m.length = 4 by omega) with e | e | e | e <;> rw [e]
      · exact ⟨200, by decide, by decide, by decide⟩
      · exact ⟨100, by decide, by decide, by decide⟩
      · exact ⟨66, by decide, by decide, by decide⟩
      · exact ⟨50, by decide, by decide, by decide⟩
    refine ⟨_, rfl, _, rfl, _, cxs.length, rfl, .inr ⟨_, sqc, rfl⟩, f_ii ⟨by omega, by omega⟩ ?_⟩
    rw [k3]
    have kb : kk ≤ 200 := Nat.le_trans (Nat.le_mul_of_pos_right _ l1) k2
    refine m_tA sqc (fun z => by rw [z] at cl; simp at cl; omega) (by omega) (by omega) (fun z => by omega) (fun _ pt hpt => ?_)
    refine newH hpt fun Hi gi si => ?_
    have okt : OkF (List.replicate kk m).flatten := ok.rep (by omega) k2
    have dt : Dd K Hi (.ref pt) (coD (List.replicate kk m).flatten) := by
      refine .tup (SqT.of si) ?_
      rw [flatten_rep]
      exact gi.ddA _ _ (ddA_rep dAc kk)
    have fsi := gi.seqT fsh
    have oktk : OkF (keepM fs (List.replicate kk m).flatten) := okt.op _
    have dmi := gi.dd _ _ dmh
    refine ⟨_, rfl, _, rfl, _, p5, fs, _, rfl, fsi, dt, okt, fun v1 Hj gj dj => ?_⟩
    refine ⟨_, rfl, _, rfl, _, p5, fs, _, rfl, gj.seqT fsi, gj.dd _ _ dt, okt, fun v2 Hk gk dk => ?_⟩
    refine ⟨_, _, _, _, rfl, gk.dd _ _ dj, dk, oktk.four, oktk.four, ⟨_, rfl, ?_⟩⟩
    rw [decide_eq_true rfl]
    refine iteF ?_
    have Gik := gj.trans gk
    refine ⟨_, rfl, _, _, rfl, Gik.dd _ _ dt, okt, fun pv Hl gl sl1 => ?_⟩
    rw [used_rep (show 1 ≤ kk by omega)] at sl1
    refine ⟨_, rfl, _, m, rfl, (Gik.trans gl).dd _ _ dmi, ok, fun pw Hm gm sm => ?_⟩
    refine wn_data ((used_cl m).dp (dd_strD (gm.seqT sl1))) ((used_cl m).dp (dd_strD sm)) ((used_cl m).shaped (by decide)) ((used_cl m).shaped (by decide)) ⟨_, rfl, ?_⟩
    rw [eqv_refl _ (used_cl m).lay]
    refine iteF ?_
    have Gim := (Gik.trans gl).trans gm
    refine ⟨_, rfl, _, _, rfl, Gim.dd _ _ dmi, f1, f2, f3, f4, _, rfl, wn_flat rfl ⟨_, rfl, ?_⟩⟩
    rw [decide_eq_true rfl]
    refine iteF ?_
    exact ⟨_, _, _, _, _, _, _, _, _, rfl, (sth.gr gi).gr Gim⟩
  · rintro σ H2 ⟨o2, o3, o4, o5, o6, o7, o8, o9, oa, rfl, st2⟩
    refine ⟨12, rfl, by decide, by decide, fun D hD => ?_⟩
    refine lc_range (lo := 0) (n := 12) (fun i H' => ∃ ys : List V, Gr H2 H' ∧ H' D = some (.lst ys) ∧ DdAll K H' ys ((List.replicate i xw).map ceD)) ⟨[], Gr.new hD, upd_same, .nil⟩ ?_ ?_
    · rintro i H' hi ⟨ys, g, hL, hE⟩
      have yl : ys.length = i := by
        have q := ddA_len hE
        rw [List.length_map, List.length_replicate] at q
        exact q
      refine ⟨rfl, ?_⟩
      refine m_ss (by decide) (by decide) (by decide) (by decide) ?_
      refine ⟨sl (by show 3 ≤ 3000; decide), fun q1 hq1 => ?_⟩
      refine newH hq1 fun K1 e1 a1 => ?_
      refine ⟨sl (by show 2 ≤ 3000; decide), fun q2 hq2 => ?_⟩
      refine newH hq2 fun K2 e2 a2 => ?_
      refine ⟨sl (by show 1 ≤ 3000; decide), fun q3 hq3 => ?_⟩
      refine newH hq3 fun K3 e3 a3 => ?_
      have E3 := (e1.trans e2).trans e3
      have gup := GrN.upd (ys := ys ++ [.ref q3]) (E3.lst hL)
      refine ⟨ys, E3.lst hL, sl (by omega), ys ++ [.ref q3], (g.trans E3).upd' hD, upd_same, ?_⟩
      have dm : Dd K K3 (.ref q1) (mkD wmk) := .tup (SqT.of ((e2.trans e3).tup a1)) (.cons (.str _) (.cons (.bl _) (.cons (.bl _) .nil)))
      have dp : Dd K K3 (.ref q2) (pcD (X40, wmk)) := .tup (SqT.of (e3.tup a2)) (.cons (.str _) (.cons dm .nil))
      have dc : Dd K K3 (.ref q3) (ceD xw) := by
        unfold ceD
        rw [cn_xw]
        exact .tup (SqT.of a3) (.cons dp .nil)
      rw [List.replicate_succ']
      exact ddA_cells (gup.ddA _ _ (nl_ces _) (E3.ddA _ _ hE)) (gup.dd _ _ (nl_ce _) dc)
    rintro H3 ⟨ys, g3, hL3, hE3⟩
    refine ⟨.inl ⟨D, _, rfl, SqL.of hL3, fun p4 hp4 => ?_⟩⟩
    refine newH hp4 fun H4 g4 s4 => ?_
    refine ⟨sl (by show 2 ≤ 3000; decide), fun p5 hp5 => ?_⟩
    refine newH hp5 fun H5 g5 s5 => ?_
    refine ⟨sl (by show 1 ≤ 3000; decide), fun p6 hp6 => ?_⟩
    refine newH hp6 fun H6 g6 s6 => ?_
    have dw : Dd K H6 (.ref p6) (coD wide) := by
      refine .tup (SqT.of s6) (.cons (.tup (SqT.of (g6.tup s5)) (.cons (.int _) (.cons (.tup (SqT.of ((g5.trans g6).tup s4)) ?_) .nil))) .nil)
      exact ((g4.trans g5).trans g6).ddA _ _ hE3
    have st6 := st2.gr (((g3.trans g4).trans g5).trans g6)
    have okk : OkF (keepM [] wide) := wide_ok.op _
    refine ⟨_, rfl, Nat.zero_le _, fun t7 ht7 => ?_⟩
    refine newH ht7 fun H7 g7 s7 => ?_
    refine ⟨_, t7, [], wide, rfl, SqT.of s7, g7.dd _ _ dw, wide_ok, fun v8 H8 g8 d8 => ?_⟩
    refine ⟨_, _, rfl, d8, okk.tx, st6.tb.gr (g7.trans g8), fun H9 g9 => ?_⟩
    rw [isCt_coD okk]
    refine ⟨_, rfl, iteT ?_⟩
    have dw9 := ((g7.trans g8).trans g9).dd _ _ dw
    refine ⟨_, rfl, Nat.zero_le _, fun ta hta => ?_⟩
    refine newH hta fun Ha ga sa => ?_
    refine ⟨_, ta, [], wide, rfl, SqT.of sa, ga.dd _ _ dw9, wide_ok, fun vb Hb gb db => ?_⟩
    refine ⟨_, rfl, Nat.zero_le _, fun tc htc => ?_⟩
    refine newH htc fun Hc gc sc => ?_
    refine ⟨_, tc, [], wide, rfl, SqT.of sc, ((ga.trans gb).trans gc).dd _ _ dw9, wide_ok, fun vd Hd gd dd => ?_⟩
    refine ⟨_, _, _, _, rfl, (gc.trans gd).dd _ _ db, dd, okk.four, okk.four, ?_⟩
    rw [decide_eq_true rfl]
    exact k _
end
end Vf
end
section
set_option Elab.async false
set_option linter.all false
set_option maxRecDepth 100000
set_option maxHeartbeats 0
namespace Vf
open PySem PySem.Spec PyProof.Rows L2 GxR GenW RZ
/-! ### the head: what stands where the law is called -/
def dd (x : Str) (st : Stmt) : He.DefD := ⟨(x, none), x, x, defArgs st, defBody st, defScope st, [], []⟩
def fns : List He.DefD := [dd "is_content" s_is_content, dd "is_word" s_is_word, dd "is_integer" s_is_integer, dd "is_line" s_is_line, dd "is_cell" s_is_cell, dd "is_piece" s_is_piece, dd "is_characters" s_is_characters, dd "is_marks" s_is_marks, dd "drop" s_drop, dd "keep" s_keep, dd "used" s_used, dd "one_cell" s_one_cell, dd "unmarked_cells" s_unmarked_cells, dd "unmarked_cell" s_unmarked_cell, dd "unmarked" s_unmarked, dd "merged" s_merged, dd "_law_churned" s__law_churned, dd "_law_urn_of" s__law_urn_of, dd "_law_upto" s__law_upto, dd "_law_choice" s__law_choice, dd "_law_equal" s__law_equal, dd "_law_some_text" s__law_some_text, dd "_law_some_marks" s__law_some_marks, dd "_law_joined" s__law_joined, dd "_law_some_cell" s__law_some_cell, dd "_law_some_line" s__law_some_line, dd "_law_some_content" s__law_some_content, dd "_law_dropped" s__law_dropped, dd "_law_keeping" s__law_keeping, dd "_law_features_of" s__law_features_of, dd "_law_some_set" s__law_some_set, dd "law" s_law]
def fcs : List He.Fa := [.glo "is_content", .glo "is_word", .glo "is_integer", .glo "is_line", .glo "is_cell", .glo "is_piece", .glo "is_characters", .glo "is_marks", .glo "drop", .glo "keep", .glo "used", .glo "one_cell", .glo "unmarked_cells", .glo "unmarked_cell", .glo "unmarked", .glo "merged", .glo "_law_churned", .glo "_law_urn_of", .glo "_law_upto", .glo "_law_choice", .glo "_law_equal", .glo "_law_some_text", .glo "_law_some_marks", .glo "_law_joined", .glo "_law_some_cell", .glo "_law_some_line", .glo "_law_some_content", .glo "_law_dropped", .glo "_law_keeping", .glo "_law_features_of", .glo "_law_some_set", .glo "law", .glo "FEATURES", .glo "NO_MARKS",
  .free "range", .free "abs", .free "enumerate", .free "len", .free "int", .free "repr", .free "isinstance", .free "all", .free "sum", .free "bool", .free "str", .free "tuple", .free "list", .free "zip",
  .int "MOST_WORD_CHARACTERS" 12, .int "MOST_LINES" 200, .int "MOST_DEPTH" 6, .int "MOST_CELLS" 12, .int "MOST_CELL_CHARACTERS" 40, .int "MOST_ONLY_CELL_CHARACTERS" 491, .str "WORD_CHARACTERS" "abcdefghijklmnopqrstuvwxyz0123456789"]
def exs (K : PySem.W.Frag) : Bool := He.tupB K "FEATURES" [.str "cells", .str "nest", .str "link", .str "bold", .str "slant"] && He.tupB K "NO_MARKS" [.str "", .bl false, .bl false]
def tfs : List He.Defn := [("is_word", none), ("is_characters", none), ("is_cell", none), ("is_line", none), ("is_content", none)]
abbrev R : PySem.W.OpenRow := PySem.W.OpenLaw.row PySem.Challenge.rw_clipforms_k02_features_dropped
abbrev hk : PySem.W.Hook := He.hookX 4 fcs fns [] tfs exs
def ob (s : PySem.W.SharedT) : He.AlX := He.obsX 4 fcs fns [] tfs exs (HandSHeadRun.getT s)
theorem ob_eq (s : PySem.W.SharedT) : ob s = hk.obs s.abs := He.obsX_eq (HandSHeadRun.getT_eq s)
def loose : List Str := (["FEATURES", "NO_MARKS", "WORD_CHARACTERS", "MOST_WORD_CHARACTERS", "MOST_LINES", "MOST_DEPTH", "MOST_CELLS", "MOST_CELL_CHARACTERS", "MOST_ONLY_CELL_CHARACTERS", "is_content", "is_word", "is_integer", "is_line", "is_cell", "is_piece", "is_characters", "is_marks", "drop", "keep", "used"] : List Str) ++ (["one_cell", "unmarked_cells", "unmarked_cell", "unmarked", "merged", "_law_churned", "_law_urn_of", "_law_upto", "_law_choice", "_law_equal", "_law_some_text", "_law_some_marks", "_law_joined", "_law_some_cell", "_law_some_line", "_law_some_content", "_law_dropped", "_law_keeping", "_law_features_of", "_law_some_set"] : List Str) ++ ([] : List Str)
theorem run (w : World) : HandSHeadRun.RunEq R (PySem.W.view R.prog [42]) hk ob 8000 loose w := by
  intro os
  kernel_rfl
end Vf
end
section
set_option Elab.async false
set_option linter.all false
set_option maxRecDepth 100000
set_option maxHeartbeats 0
namespace Vf
open PySem PySem.Spec PyProof.Rows L2 GxR GenW RZ
section
variable {P : Program} {w : World} {K : PySem.W.Frag} {h : Heap} {mg : Str → Option Value} {base : Heap}
theorem fnd (c : He.SaysD fcs fns K) {x : Str} {st : Stmt} (hm : dd x st ∈ fns) : ∃ fd, FnP K x st fd := c.defs hm
theorem mk1 {x : Str} {st : Stmt} {k : Nat} {ps : List Str} {sp : Sp} {fd : FuncData} (X : K.In h) (G : h.Ns mainGlobals mg) (c : He.SaysD fcs fns K) (F : FnP K x st fd) (hg : He.Fa.glo x ∈ fcs) (O : FnOk P w K mg base CX0 k (He.fAd K (x, none)) fd ps sp)
    (hb : ∀ (kV doc pm : Value) (an : Option Addr) (cdv ct : Value) (us : List Value), us.length = ps.length → bindArgs (PySem.W.fnOf x x (defArgs st) (defBody st) (defScope st) .none kV doc pm an cdv ct) ⟨us, []⟩ = pure (ps.zip us)) : Df P w K mg base x k ps sp :=
  ⟨⟨_, fd, O, He.glo_ok X G (c.facts hg), F.kp, F.bindsN hb⟩⟩
theorem mk2 {x : Str} {st : Stmt} {k : Nat} {ps : List Str} {sp : Sp} {fd : FuncData} (X : K.In h) (G : h.Ns mainGlobals mg) (c : He.SaysD fcs fns K) (F : FnP K x st fd) (hg : He.Fa.glo x ∈ fcs) (O : FnG P w K mg base CX0 k (He.fAd K (x, none)) fd ps sp)
    (hb : ∀ (kV doc pm : Value) (an : Option Addr) (cdv ct : Value) (us : List Value), us.length = ps.length → bindArgs (PySem.W.fnOf x x (defArgs st) (defBody st) (defScope st) .none kV doc pm an cdv ct) ⟨us, []⟩ = pure (ps.zip us)) : DfG P w K mg base x k ps sp :=
  ⟨⟨_, fd, O, He.glo_ok X G (c.facts hg), F.kp, F.bindsN hb⟩⟩
theorem ty_of (X : K.In h) (G : h.Ns mainGlobals mg) (c : He.SaysD fcs fns K) (m : exs K = true) : TD K mg := by
  have fr : ∀ {x : Str}, He.Fa.free x ∈ fcs → mg x = none := fun hx => He.free_ok X G (c.facts hx)
  have it : ∀ {x : Str} {i : Int}, He.Fa.int x i ∈ fcs → ∃ u, mg x = some u ∧ RelV (.int i) u := fun hx => by
    obtain ⟨t, e⟩ := He.int_ok X G (c.facts hx)
    exact ⟨_, e, t, rfl⟩
  have sr : ∀ {x z : Str}, He.Fa.str x z ∈ fcs → ∃ u, mg x = some u ∧ RelV (.str z) u := fun hx => by
    obtain ⟨t, e⟩ := He.str_ok X G (c.facts hx)
    exact ⟨_, e, t, rfl⟩
  have go : ∀ {x : Str}, He.Fa.glo x ∈ fcs → mg x = some (.ref (He.ga K x)) := fun hx => He.glo_ok X G (c.facts hx)
  obtain ⟨m1, m2⟩ := He.ba m
  exact { b_range := fr (by simp [fcs]), b_abs := fr (by simp [fcs]), b_enumerate := fr (by simp [fcs]), b_len := fr (by simp [fcs]), b_int := fr (by simp [fcs]), b_repr := fr (by simp [fcs]), b_isinstance := fr (by simp [fcs]), b_all := fr (by simp [fcs]), b_sum := fr (by simp [fcs]), b_bool := fr (by simp [fcs]), b_str := fr (by simp [fcs]), b_tuple := fr (by simp [fcs]), b_list := fr (by simp [fcs]), b_zip := fr (by simp [fcs]), c_MOST_WORD_CHARACTERS := it (by simp [fcs]), c_MOST_LINES := it (by simp [fcs]), c_MOST_DEPTH := it (by simp [fcs]), c_MOST_CELLS := it (by simp [fcs]), c_MOST_CELL_CHARACTERS := it (by simp [fcs]), c_MOST_ONLY_CELL_CHARACTERS := it (by simp [fcs]), c_WORD_CHARACTERS := sr (by simp [fcs]), c_FEATURES := ⟨_, go (by simp [fcs]), fun H => He.tupB_ok m1 H⟩, c_NO_MARKS := ⟨_, go (by simp [fcs]), fun H => He.tupB_ok m2 H⟩ }
theorem law_base (X : K.In h) (G : h.Ns mainGlobals mg) (c : He.SaysD fcs fns K) (T : TD K mg) (TB : ∀ p ∈ tfs.map (He.cT K), TabB base mg p.1 p.2) {fd : FuncData} (FL : FnP K "law" s_law fd) : FnG P w K mg base CX0 11 (He.fAd K ("law", none)) fd p_law (spLaw K) := by
  have tb_is_word : TBx K mg base "is_word" := TB (He.cT K ("is_word", none)) (by simp [tfs])
  have tb_is_characters : TBx K mg base "is_characters" := TB (He.cT K ("is_characters", none)) (by simp [tfs])
  have tb_is_cell : TBx K mg base "is_cell" := TB (He.cT K ("is_cell", none)) (by simp [tfs])
  have tb_is_line : TBx K mg base "is_line" := TB (He.cT K ("is_line", none)) (by simp [tfs])
  have tb_is_content : TBx K mg base "is_content" := TB (He.cT K ("is_content", none)) (by simp [tfs])
  obtain ⟨f_is_content, F_is_content⟩ := fnd (x := "is_content") (st := s_is_content) c (by simp [fns])
  obtain ⟨f_is_word, F_is_word⟩ := fnd (x := "is_word") (st := s_is_word) c (by simp [fns])
  obtain ⟨f_is_integer, F_is_integer⟩ := fnd (x := "is_integer") (st := s_is_integer) c (by simp [fns])
  obtain ⟨f_is_line, F_is_line⟩ := fnd (x := "is_line") (st := s_is_line) c (by simp [fns])
  obtain ⟨f_is_cell, F_is_cell⟩ := fnd (x := "is_cell") (st := s_is_cell) c (by simp [fns])
  obtain ⟨f_is_piece, F_is_piece⟩ := fnd (x := "is_piece") (st := s_is_piece) c (by simp [fns])
  obtain ⟨f_is_characters, F_is_characters⟩ := fnd (x := "is_characters") (st := s_is_characters) c (by simp [fns])
  obtain ⟨f_is_marks, F_is_marks⟩ := fnd (x := "is_marks") (st := s_is_marks) c (by simp [fns])
  obtain ⟨f_drop, F_drop⟩ := fnd (x := "drop") (st := s_drop) c (by simp [fns])
  obtain ⟨f_keep, F_keep⟩ := fnd (x := "keep") (st := s_keep) c (by simp [fns])
  obtain ⟨f_used, F_used⟩ := fnd (x := "used") (st := s_used) c (by simp [fns])
  obtain ⟨f_one_cell, F_one_cell⟩ := fnd (x := "one_cell") (st := s_one_cell) c (by simp [fns])
  obtain ⟨f_unmarked_cells, F_unmarked_cells⟩ := fnd (x := "unmarked_cells") (st := s_unmarked_cells) c (by simp [fns])
  obtain ⟨f_unmarked_cell, F_unmarked_cell⟩ := fnd (x := "unmarked_cell") (st := s_unmarked_cell) c (by simp [fns])
  obtain ⟨f_unmarked, F_unmarked⟩ := fnd (x := "unmarked") (st := s_unmarked) c (by simp [fns])
  obtain ⟨f_merged, F_merged⟩ := fnd (x := "merged") (st := s_merged) c (by simp [fns])
  obtain ⟨f__law_churned, F__law_churned⟩ := fnd (x := "_law_churned") (st := s__law_churned) c (by simp [fns])
  obtain ⟨f__law_urn_of, F__law_urn_of⟩ := fnd (x := "_law_urn_of") (st := s__law_urn_of) c (by simp [fns])
  obtain ⟨f__law_upto, F__law_upto⟩ := fnd (x := "_law_upto") (st := s__law_upto) c (by simp [fns])
  obtain ⟨f__law_choice, F__law_choice⟩ := fnd (x := "_law_choice") (st := s__law_choice) c (by simp [fns])
  obtain ⟨f__law_equal, F__law_equal⟩ := fnd (x := "_law_equal") (st := s__law_equal) c (by simp [fns])
  obtain ⟨f__law_some_text, F__law_some_text⟩ := fnd (x := "_law_some_text") (st := s__law_some_text) c (by simp [fns])
  obtain ⟨f__law_some_marks, F__law_some_marks⟩ := fnd (x := "_law_some_marks") (st := s__law_some_marks) c (by simp [fns])
  obtain ⟨f__law_joined, F__law_joined⟩ := fnd (x := "_law_joined") (st := s__law_joined) c (by simp [fns])
  obtain ⟨f__law_some_cell, F__law_some_cell⟩ := fnd (x := "_law_some_cell") (st := s__law_some_cell) c (by simp [fns])
  obtain ⟨f__law_some_line, F__law_some_line⟩ := fnd (x := "_law_some_line") (st := s__law_some_line) c (by simp [fns])
  obtain ⟨f__law_some_content, F__law_some_content⟩ := fnd (x := "_law_some_content") (st := s__law_some_content) c (by simp [fns])
  obtain ⟨f__law_dropped, F__law_dropped⟩ := fnd (x := "_law_dropped") (st := s__law_dropped) c (by simp [fns])
  obtain ⟨f__law_keeping, F__law_keeping⟩ := fnd (x := "_law_keeping") (st := s__law_keeping) c (by simp [fns])
  obtain ⟨f__law_features_of, F__law_features_of⟩ := fnd (x := "_law_features_of") (st := s__law_features_of) c (by simp [fns])
  obtain ⟨f__law_some_set, F__law_some_set⟩ := fnd (x := "_law_some_set") (st := s__law_some_set) c (by simp [fns])
  have d_is_word := mk1 X G c F_is_word (by simp [fcs]) (ok_word F_is_word T.toTC tb_is_word (P := P) (w := w)) fun _ _ _ _ _ _ us hl => match us, hl with | [_], _ => rfl
  have d_is_integer := mk1 X G c F_is_integer (by simp [fcs]) (ok_integer F_is_integer T.toTC (P := P) (w := w) (base := base)) fun _ _ _ _ _ _ us hl => match us, hl with | [_], _ => rfl
  have d_is_marks := mk1 X G c F_is_marks (by simp [fcs]) (ok_marks F_is_marks T.toTC d_is_word) fun _ _ _ _ _ _ us hl => match us, hl with | [_], _ => rfl
  have d_is_characters := mk1 X G c F_is_characters (by simp [fcs]) (ok_chars F_is_characters T.toTC tb_is_characters (P := P) (w := w)) fun _ _ _ _ _ _ us hl => match us, hl with | [_], _ => rfl
  have d_is_piece := mk1 X G c F_is_piece (by simp [fcs]) (ok_piece F_is_piece T.toTC d_is_characters d_is_marks) fun _ _ _ _ _ _ us hl => match us, hl with | [_], _ => rfl
  have d_is_cell := mk1 X G c F_is_cell (by simp [fcs]) (ok_cell F_is_cell T.toTC tb_is_cell d_is_piece) fun _ _ _ _ _ _ us hl => match us, hl with | [_, _], _ => rfl
  have d_is_line := mk1 X G c F_is_line (by simp [fcs]) (ok_line F_is_line T.toTC tb_is_line d_is_integer d_is_cell) fun _ _ _ _ _ _ us hl => match us, hl with | [_], _ => rfl
  have d_is_content := mk1 X G c F_is_content (by simp [fcs]) (ok_content F_is_content T.toTC tb_is_content d_is_line) fun _ _ _ _ _ _ us hl => match us, hl with | [_], _ => rfl
  have d__law_churned := mk1 X G c F__law_churned (by simp [fcs]) (ok_churned F__law_churned T.toTX (P := P) (w := w) (base := base)) fun _ _ _ _ _ _ us hl => match us, hl with | [_, _], _ => rfl
  have d__law_urn_of := mk1 X G c F__law_urn_of (by simp [fcs]) (ok_urn_of F__law_urn_of T.toTX (P := P) (w := w) (base := base)) fun _ _ _ _ _ _ us hl => match us, hl with | [_], _ => rfl
  have d__law_upto := mk1 X G c F__law_upto (by simp [fcs]) (ok_upto F__law_upto T.toTX d__law_churned) fun _ _ _ _ _ _ us hl => match us, hl with | [_, _], _ => rfl
  have d__law_choice := mk1 X G c F__law_choice (by simp [fcs]) (ok_choice F__law_choice T.toTX d__law_upto) fun _ _ _ _ _ _ us hl => match us, hl with | [_, _], _ => rfl
  have d__law_equal := mk2 X G c F__law_equal (by simp [fcs]) (ok_equal F__law_equal T.toTX (P := P) (w := w) (base := base)) fun _ _ _ _ _ _ us hl => match us, hl with | [_, _], _ => rfl
  have d_merged := mk1 X G c F_merged (by simp [fcs]) (ok_merged F_merged T (P := P) (w := w) (base := base)) fun _ _ _ _ _ _ us hl => match us, hl with | [_], _ => rfl
  have d_unmarked := mk1 X G c F_unmarked (by simp [fcs]) (ok_unm F_unmarked T (P := P) (w := w) (base := base)) fun _ _ _ _ _ _ us hl => match us, hl with | [_, _], _ => rfl
  have d_unmarked_cell := mk1 X G c F_unmarked_cell (by simp [fcs]) (ok_ucell F_unmarked_cell T d_unmarked d_merged) fun _ _ _ _ _ _ us hl => match us, hl with | [_, _], _ => rfl
  have d_unmarked_cells := mk1 X G c F_unmarked_cells (by simp [fcs]) (ok_ucells F_unmarked_cells T d_unmarked_cell) fun _ _ _ _ _ _ us hl => match us, hl with | [_, _], _ => rfl
  have d_one_cell := mk1 X G c F_one_cell (by simp [fcs]) (ok_one F_one_cell T d_merged) fun _ _ _ _ _ _ us hl => match us, hl with | [_], _ => rfl
  have d_drop := mk1 X G c F_drop (by simp [fcs]) (ok_drop F_drop T d_one_cell d_unmarked_cells) fun _ _ _ _ _ _ us hl => match us, hl with | [_, _], _ => rfl
  have d_keep := mk1 X G c F_keep (by simp [fcs]) (ok_keep F_keep T d_drop) fun _ _ _ _ _ _ us hl => match us, hl with | [_, _], _ => rfl
  have d_used := mk1 X G c F_used (by simp [fcs]) (ok_used F_used T d_drop) fun _ _ _ _ _ _ us hl => match us, hl with | [_], _ => rfl
  have d__law_joined := mk1 X G c F__law_joined (by simp [fcs]) (ok_joined F__law_joined T (P := P) (w := w) (base := base)) fun _ _ _ _ _ _ us hl => match us, hl with | [_], _ => rfl
  have d__law_dropped := mk1 X G c F__law_dropped (by simp [fcs]) (ok_ldrop F__law_dropped T d__law_joined) fun _ _ _ _ _ _ us hl => match us, hl with | [_, _], _ => rfl
  have d__law_keeping := mk1 X G c F__law_keeping (by simp [fcs]) (ok_lkeep F__law_keeping T d__law_dropped) fun _ _ _ _ _ _ us hl => match us, hl with | [_, _], _ => rfl
  have d__law_features_of := mk1 X G c F__law_features_of (by simp [fcs]) (ok_feat F__law_features_of T d__law_dropped) fun _ _ _ _ _ _ us hl => match us, hl with | [_], _ => rfl
  have d__law_some_text := mk1 X G c F__law_some_text (by simp [fcs]) (ok_text F__law_some_text T d__law_choice) fun _ _ _ _ _ _ us hl => match us, hl with | [_, _, _], _ => rfl
  have d__law_some_marks := mk1 X G c F__law_some_marks (by simp [fcs]) (ok_lmarks F__law_some_marks T d__law_choice d__law_upto) fun _ _ _ _ _ _ us hl => match us, hl with | [_], _ => rfl
  have d__law_some_cell := mk1 X G c F__law_some_cell (by simp [fcs]) (ok_scell F__law_some_cell T d__law_upto d__law_some_text d__law_some_marks d__law_joined) fun _ _ _ _ _ _ us hl => match us, hl with | [_, _, _], _ => rfl
  have d__law_some_line := mk1 X G c F__law_some_line (by simp [fcs]) (ok_sline F__law_some_line T d__law_choice d__law_some_cell) fun _ _ _ _ _ _ us hl => match us, hl with | [_, _], _ => rfl
  have d__law_some_content := mk1 X G c F__law_some_content (by simp [fcs]) (ok_scontent F__law_some_content T d__law_upto d__law_some_line) fun _ _ _ _ _ _ us hl => match us, hl with | [_, _], _ => rfl
  have d__law_some_set := mk1 X G c F__law_some_set (by simp [fcs]) (ok_some_set F__law_some_set T d__law_upto) fun _ _ _ _ _ _ us hl => match us, hl with | [_], _ => rfl
  exact ok_law FL T d__law_urn_of d__law_choice d__law_some_content d__law_some_set d__law_equal d_is_content d_drop d_keep d_used d__law_dropped d__law_keeping d__law_features_of
end
abbrev LW : PySem.W.OpenLaw := PySem.Challenge.rw_clipforms_k02_features_dropped
theorem law_at {w : World} {mg : Str → Option Value} {fa : Addr} {h : Heap} (Y : hk.says w h) (G : h.Ns mainGlobals mg) (hmg : mg "law" = some (.ref fa)) : ∃ K : PySem.W.Frag, K.In h ∧ LawAtG LW w K CX0 11 63 "script" mg fa h := by
  obtain ⟨K, X, s⟩ := Y
  have c := s.t.d
  have T := ty_of X G c s.more
  obtain ⟨fd, FL⟩ := fnd (x := "law") (st := s_law) c (by simp [fns])
  have e := hmg.symm.trans (He.glo_ok X G (c.facts (f := .glo "law") (by simp [fcs])))
  cases e
  have inT : ∀ p ∈ tfs.map (He.cT K), ∃ q ∈ tfs, He.cT K q = p := fun p hp => List.mem_map.mp hp
  refine ⟨K, X, fd, tfs.map (He.cT K), spLaw K, fun p hp => ?_, fun p hp => ?_, fun p hp => ?_, fun s v => ?_, fun H a ns hl _ hT _ hS => ?_, fun base Xb Gb TB => ?_⟩
  · obtain ⟨q, hq, rfl⟩ := inT p hp
    exact s.empty q hq
  · obtain ⟨q, hq, rfl⟩ := inT p hp
    exact s.out q hq
  · obtain ⟨q, hq, rfl⟩ := inT p hp
    exact PySem.W.codeHd_of_K X (s.hd q hq)
  · exact (FunD.bindsA (ps := ["script"]) FL fun _ _ _ _ _ _ us hl => match us, hl with | [_], _ => rfl) s [v] rfl
  · have tt : ∀ q ∈ tfs, TabG H (He.cT K q).2 := fun q hq => ⟨#[], hT (He.cT K q) (List.mem_map.mpr ⟨q, hq, rfl⟩), by first | exact .nil | trivial | (intro z; simp at z) | simp [TriplesOk]⟩
    exact ⟨a, ns, rfl, hS, hl, ⟨tt ("is_word", none) (by simp [tfs]), tt ("is_characters", none) (by simp [tfs]), tt ("is_cell", none) (by simp [tfs]), tt ("is_line", none) (by simp [tfs]), tt ("is_content", none) (by simp [tfs])⟩, fun _ => rfl⟩
  · exact law_base X G c T TB FL
end Vf
end
section
set_option Elab.async false
set_option linter.all false
set_option maxRecDepth 100000
set_option maxHeartbeats 0
open PySem PySem.W PySem.Calls PyProof.Rows
theorem PySem.Challenge.cw_clipforms_k02_features_dropped_holds : PySem.Challenge.rw_clipforms_k02_features_dropped.Holds := by
  w_on; o_law
  refine HandSHeadRun.head_any (r := OpenLaw.row PySem.Challenge.rw_clipforms_k02_features_dropped) (q := view (OpenLaw.row PySem.Challenge.rw_clipforms_k02_features_dropped).prog [42]) (H := Vf.hk) (ob := Vf.ob) (M := 8000) (loose := Vf.loose) (d := HandSHeadRun.topDef (OpenLaw.row PySem.Challenge.rw_clipforms_k02_features_dropped).prog 42) (kwd := []) Vf.ob_eq
    (by kernel_rfl) (fun s => by kernel_rfl) Vf.run (by kernel_rfl) (by kernel_rfl) (by kernel_rfl) (by rfl) (by first | assumption | decide +kernel) (by decide +kernel) ⟨rfl, rfl, rfl, rfl, rfl, by decide +kernel⟩ ?hw ?hc
  case hw => w_witness2
  case hc =>
    refine Vf.walkG (l := PySem.Challenge.rw_clipforms_k02_features_dropped) (n := 63) (k := 11) (x := "script") (CX := fun _ => L2.CX0) rfl (by decide) (by kernel_rfl) ⟨rfl, by decide, by decide⟩ ?F (fun _ _ _ _ _ z => z)
    intro w mg fa h Y G hmg0
    have hmg : mg ("law" : PySem.Str) = some (.ref fa) := by
      have e : (HandSHeadRun.topDef (OpenLaw.row PySem.Challenge.rw_clipforms_k02_features_dropped).prog 42).name = ("law" : PySem.Str) := by kernel_rfl
      rw [← e]
      exact hmg0
    exact Vf.law_at Y G hmg
end
