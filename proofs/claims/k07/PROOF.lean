import PyProof.Rows.All
import Wide.All
import OpenK.AllK
import Wide.FinOn
import Lean
import HandS.ForMost
import HandS.Strs
import HandS.Conv
import HandS.TupAny
import HandS.TupMul
import HandS.Zip
import HandS.Deep
import HandS.Codes
import HandS.Wide
import HandS.IsInst
import HandS.AnyAll
import HandS.GenList
import HandS.Defaults
import HandS.Head0
import HandS.Head1
import HandS.Head2
import HandS.HeadEnd
import HandS.HeadHook1
import HandS.HeadHook2
import HandS.HeadHook4
import HandS.HeadWalk
import HandS.EndTab
import PyProof.ReprRoads
import PySem.Challenge.RW_clipforms_k07_makers_and_chains
import HandS.JoinGen
import PyProof.GenCompT
import PyProof.WalksPairs
import PyProof.SumAny
import PyProof.NeKinds
import PyProof.NeData
import PyProof.ReprLen
import PyProof.StrOps2
import HandS.Star
import KE.KDictList
import HandS.FStr
import HandS.StrMore
import PyProof.StrLawsTight
import HandS.Steps
import HandS.DictComp
import HandS.NestedK
section
set_option Elab.async false
set_option linter.all false
set_option maxRecDepth 100000
set_option maxHeartbeats 4000000
/-! Own layer: defs that are called where no repr runs (FnG), repr of data, unions. -/
namespace Vf
open PySem PySem.Spec PyProof.Rows L2

/-- as FnOk, for calls where no repr is under way -/
structure FnG (P : Program) (w : World) (K : PySem.W.Frag) (mg : Str → Option Value) (base : Heap) (CX : CXT) (k : Nat) (f : Addr) (fd : FuncData) (ps : List Str) (sp : Sp) : Prop where
  len : ∀ vs H Q E, sp vs H Q E → vs.length = ps.length
  run : ∀ (A : Around) (outer : List Env) (s : Shared) (H : Hp) (args : Args) (us : List Value) (vs : List V) (Q : VK) (E : XK), A.guards = some [] → Room k A → Env0 P w K mg base A outer s H →
    BindsTo s fd args (ps.zip us) → Vals vs us → sp vs H Q E → codeAny (model P w) A (.call (.ref f) args) (CR CX outer P w H s Q E) s
section
variable {P : Program} {w : World} {K : PySem.W.Frag} {mg : Str → Option Value} {base : Heap} {CX : CXT} {k : Nat} {f : Addr} {fd : FuncData} {ps : List Str} {sp : Sp}
theorem FnG.of (F : FnOk P w K mg base CX k f fd ps sp) : FnG P w K mg base CX k f fd ps sp :=
  ⟨F.len, fun A outer s H args us vs Q E _ => F.run A outer s H args us vs Q E⟩
theorem deeper_guards {A : Around} {env : Env} (h : A.guards = some []) : (A.deeper env).guards = some [] := h

/-- a def's body where no repr is under way -/
theorem okG {x qual : Str} {params : Arguments} {body : List Stmt} {scope : Scope} {dvs : List V} {kws : List (Str × V)} {N : List Str}
    (F : FunD K x qual params body scope dvs kws f fd) (S : FnScope N ps scope) (len : ∀ vs H Q E, sp vs H Q E → vs.length = ps.length)
    (hbody : ∀ (cdv : Value) (hcv : fd.code = cdv) (A : Around) (outer : List Env) (s : Shared) (H : Hp) (vs : List V) (Q : VK) (E : XK), A.guards = some [] → Room k (A.deeper (envOfC qual scope s.heap.objs.size f cdv)) → sp vs H Q E →
      ∃ t, PSs (cxOf CX P w K mg base N qual scope f cdv A outer s H E) body t ∧ t { nx := fun _ H' => Q .non H', rt := Q } (start N vs) H) :
    FnG P w K mg base CX (k + 1) f fd ps sp := by
  obtain ⟨oc, od, dV, kV, doc, pm, an, cdv, ct, osl, rfl, lk, hcd, _, _⟩ := F.ex
  refine ⟨len, ?_⟩
  intro A outer s H args us vs Q E hg hr e0 hb r hsp
  have inS : K.In s.heap := e0.mod.kin.keeps (fun b o e => (e0.bs b o e).1)
  have noL : s.heap.NoLimit := e0.mod.nolimit.keeps (fun b o e => (e0.bs b o e).1)
  obtain ⟨t, ht, hq⟩ := hbody cdv rfl A outer s H vs Q E hg (hr.deeper _) hsp
  refine codeAny_call_function hr.depth (inS _ _ lk) rfl S.co S.gen rfl (PySem.W.codeRec_of inS hcd) (hb _ _ _ _ (wpAny_newFunctionEnv_cells S.kind ?_ ?_))
  · rintro ⟨n, v⟩ hy
    rcases S.par n (List.of_mem_zip hy).1 with q | q
    · exact Or.inl q
    · exact Or.inr ⟨q, PySem.W.cellsFrom_some _ _ _ (Or.inl q)⟩
  · intro env he s1 x
    subst he
    have I := inv_start (CX := CX) (E := E) (f := f) (cd := cdv) (qual := qual) S hr.hd e0 (len _ _ _ _ hsp) r x
    refine ⟨noL.keeps x.toInCall.keep, codeAny_func (wpAny_mono (ht.run [] s1 (start N vs) H _ I hq) ?_ (fun e s' hs => hs))⟩
    intro fl s' hs
    cases fl with
    | ret u =>
      obtain ⟨v, σ', H', J, rv, q⟩ := hs
      exact ⟨v, H', J.os, J.bare, J.base, J.hok, rv, q⟩
    | next =>
      obtain ⟨σ', H', J, q⟩ := hs
      exact ⟨V.non, H', J.os, J.bare, J.base, J.hok, rfl, q⟩
    | brk => exact hs.elim fun _ z => z.elim fun _ y => y.2.elim
    | cont => exact hs.elim fun _ z => z.elim fun _ y => y.2.elim
end

section
variable {X : Cx} {CX : CXT} {k : Nat} {f : Addr} {fd : FuncData} {ps : List Str} {sp : Sp} {dvs : List V} {ds : List Value} {E : XK} {x : Str} {p pos : Pos} {e : Expr} {es : List Expr} {t : TA}
/-- f(e, ..), f a def of this kind -/
theorem pe_callG (hgu : X.A.guards = some []) (F : FnG X.prog X.w X.K X.mg X.base CX k f fd ps sp) (hr : Room k X.A) (hg : Gl X x) (hm : X.mg x = some (.ref f)) (hk : PySem.W.keepIn X.K (.ref f) = true) (hb : Binds X.K fd ps ds)
    (hd : Vals dvs ds) (hx : Passes CX X E) (ha : PA X (e :: es) t) (hdb : (x == ("__debug__" : Str)) = false := by decide) (he : starEach (e :: es) X.env = (false, eval e X.env) :: starEach es X.env := by rfl)
    (hpl : (backTo pos (starEach es X.env)).any (·.1) = false := by rfl) : PE X (.Call (.Name x p) (e :: es) [] pos) (tCall sp dvs E t) := by
  refine ⟨fun pins s σ H Q I h => wpAny_Call_Name_kw (ld_glob I hg hm ?_ hdb)⟩
  refine PySem.W.callWith_K (h₀ := X.base) I.ok.mod.kin hk (thn (ha.run pos pins s σ H _ I h) ?_) he hpl
  rintro us s1 ⟨vs, H1, I1, r, q⟩
  refine ⟨I1.kIn, ?_⟩
  have r2 : Vals (vs ++ dvs) (us ++ ds) := r.append hd
  have hl : (us ++ ds).length = ps.length := by rw [← r2.length]; exact F.len _ _ _ _ q
  refine wpAny_call (codeAny_mono (F.run X.A X.stack s1 H1 ⟨us, []⟩ (us ++ ds) (vs ++ dvs) Q E hgu hr I1.env0 (hb s1 us I1.kIn hl) r2 q) ?_)
  intro r s' hq
  cases r with
  | error e => exact hx pins σ H1 s1 e s' I1 hq
  | ok fl =>
    cases fl with
    | ret u => exact I1.after hq
    | next => exact hq.elim
    | brk => exact hq.elim
    | cont => exact hq.elim

end
/-! ### data, empty dicts too -/
mutual
inductive Dd (K : PySem.W.Frag) (H : Hp) : V → PyData → Prop
  | non : Dd K H .non .none
  | bl (b : Bool) : Dd K H (.bl b) (.bool b)
  | int (i : Int) : Dd K H (.int i) (.int i)
  | str (x : Str) : Dd K H (.str x) (.str x)
  | lst {a : Addr} {xs : List V} {ds : List PyData} : SqL K H a xs → DdAll K H xs ds → Dd K H (.ref a) (.list ds)
  | tup {a : Addr} {xs : List V} {ds : List PyData} : SqT K H a xs → DdAll K H xs ds → Dd K H (.ref a) (.tuple ds)
  | dct {a : Addr} : H a = some (.dK []) → Dd K H (.ref a) (.dict [])
inductive DdAll (K : PySem.W.Frag) (H : Hp) : List V → List PyData → Prop
  | nil : DdAll K H [] []
  | cons {v : V} {vs : List V} {d : PyData} {ds : List PyData} : Dd K H v d → DdAll K H vs ds → DdAll K H (v :: vs) (d :: ds)
end
mutual
/-- no list within -/
def noLst : PyData → Bool
  | .list _ => false
  | .tuple ds => noLstA ds
  | _ => true
def noLstA : List PyData → Bool
  | [] => true
  | d :: ds => noLst d && noLstA ds
end
section
variable {X : Cx} {pins : List (Addr × Obj)} {σ : L2.St} {H : Hp} {s : Shared}
mutual
theorem Dd.reads (I : Inv X pins σ H s) : ∀ (d : PyData) (v : V) (u : Value), Dd X.K H v d → RelV v u → ∃ as, Reads s.heap u d as ∧ (noLst d = true → sysModules ∉ as)
  | .none, _, _, h, r => by
    cases h; cases r
    exact ⟨_, Reads.none, fun _ => by simp⟩
  | .bool b, _, _, h, r => by
    cases h; cases r
    exact ⟨_, Reads.bool b, fun _ => by simp⟩
  | .int i, _, _, h, r => by
    cases h
    obtain ⟨t, rfl⟩ := r
    exact ⟨_, Reads.int i t, fun _ => by simp⟩
  | .str x, _, _, h, r => by
    cases h
    obtain ⟨t, rfl⟩ := r
    exact ⟨_, Reads.str x t, fun _ => by simp⟩
  | .list ds, _, _, h, r => by
    cases h with
    | lst hs ha =>
      cases r
      obtain ⟨its, rv, ⟨o, n, ho, hc, _, hd⟩, _⟩ := I.list hs
      obtain ⟨as, hr, _⟩ := DdAll.reads I ds _ its ha rv
      exact ⟨_, Reads.list ho hc hd hr, fun z => by simp [noLst] at z⟩
  | .tuple ds, _, _, h, r => by
    cases h with
    | tup hs ha =>
      cases r
      obtain ⟨its, rv, ⟨o, ho, hc, n, hd⟩, _⟩ := I.tuple hs
      obtain ⟨as, hr, hn⟩ := DdAll.reads I ds _ its ha rv
      exact ⟨_, Reads.tuple ho hc hd hr, fun z => hn (by simpa [noLst] using z)⟩
  | .dict kvs, _, _, h, r => by
    cases h with
    | dct hs =>
      cases r
      obtain ⟨_, hne, vs, kv, hd⟩ := I.hok _ _ hs
      cases kv
      obtain ⟨o, es, ep, ho, hx, hda, _, hp, _⟩ := hd
      have e0 : es.toList = [] := by
        generalize es.toList = l at hp
        cases hp
        rfl
      refine ⟨_, Reads.dict (kvs := []) ho hx.1 hda (by rw [e0]; exact ReadsAll.nil) (by rw [e0]; exact ReadsAll.nil), fun _ z => ?_⟩
      simp at z
      rw [← z] at hne
      simp at hne
theorem DdAll.reads (I : Inv X pins σ H s) : ∀ (ds : List PyData) (vs : List V) (us : List Value), DdAll X.K H vs ds → Vals vs us → ∃ as, ReadsAll s.heap us ds as ∧ (noLstA ds = true → sysModules ∉ as)
  | [], _, _, h, r => by
    cases h; cases r
    exact ⟨_, ReadsAll.nil, fun _ => by simp⟩
  | d :: ds, _, _, h, r => by
    cases h with
    | cons h1 h2 =>
      cases r with
      | cons r1 r2 =>
        obtain ⟨as, q1, n1⟩ := Dd.reads I d _ _ h1 r1
        obtain ⟨bs, q2, n2⟩ := DdAll.reads I ds _ _ h2 r2
        refine ⟨_, ReadsAll.cons q1 q2, fun z => ?_⟩
        simp only [noLstA, Bool.and_eq_true] at z
        intro m
        rcases List.mem_append.mp m with m | m
        · exact n1 z.1 m
        · exact n2 z.2 m
end
/-- repr(x) of data -/
theorem call_reprD (hgu : X.A.guards = some []) (hu : X.A.units + 64 < cLine) : CallR X (.builtin "repr") (fun xs H Q => ∃ v d, xs = [v] ∧ Dd X.K H v d ∧ d.showable = true ∧ (d.hasDict = true → noLst d = true) ∧ d.depth < 60 ∧ d.shown.length ≤ sizeLine ∧ Q (.str d.shown) H) := by
  intro pins s σ H xs us Q I r h
  obtain ⟨v, d, rfl, hd, hs, hdd, hdp, hz, q⟩ := h
  obtain ⟨u, rfl, rv⟩ := vals1 r
  have fin : ∀ a as, u = .ref a → Reads s.heap (.ref a) d as → (noLst d = true → sysModules ∉ as) → wpAny (model X.prog X.w) X.A (call (.builtin "repr") [u]) (EP X pins σ Q) X.xe s := by
    rintro a as rfl rd hn
    refine PySem.repr_of_reads' rd hs (fun z => hn (hdd z)) hgu (by omega) (fun _ _ e => e) (fun h' u tk k => ?_) hz
    exact ⟨.str d.shown, H, I.kept k, ⟨_, rfl⟩, q⟩
  cases hd with
  | non => cases rv; exact PySem.P.repr_of_none ⟨.str _, H, I.tok _, ⟨_, rfl⟩, q⟩
  | bl b => cases rv; exact PySem.P.repr_of_bool ⟨.str _, H, I.tok _, ⟨_, rfl⟩, q⟩
  | int i => obtain ⟨t, rfl⟩ := rv; exact PySem.P.repr_of_int (by simpa [PyData.showable] using hs) ⟨.str _, H, I.tok _, ⟨_, rfl⟩, q⟩
  | str y => obtain ⟨t, rfl⟩ := rv; exact PySem.P.repr_of_str ⟨.str _, H, I.tok _, ⟨_, rfl⟩, q⟩ hz
  | lst h1 h2 =>
    obtain ⟨as, rd, hn⟩ := Dd.reads I _ _ _ (Dd.lst h1 h2) rv
    cases rv
    exact fin _ as rfl rd hn
  | tup h1 h2 =>
    obtain ⟨as, rd, hn⟩ := Dd.reads I _ _ _ (Dd.tup h1 h2) rv
    cases rv
    exact fin _ as rfl rd hn
  | dct h1 =>
    obtain ⟨as, rd, hn⟩ := Dd.reads I _ _ _ (Dd.dct h1) rv
    cases rv
    exact fin _ as rfl rd hn
end
end Vf
end
section
set_option Elab.async false
set_option linter.all false
set_option maxRecDepth 100000
set_option maxHeartbeats 4000000
/-! The end of a law's row whose law is such a def. -/
namespace Vf
open PySem PySem.Spec PyProof.Rows L2 GxR
section
variable {P : Program} {w : World} {K : PySem.W.Frag} {mg mb : Str → Option Value} {CX : CXT} {k : Nat} {fa a : Addr} {cs : List (Addr × Addr)} {fd : FuncData} {x : Str} {sp : Sp} {s₁ : Shared} {vs : List Value} {ns : List Int}

/-- the script's own object -/
abbrev lo (vs : List Value) : Obj := { cls := .type "list", data := .seq vs.toArray }
/-- what is tracked where the law is called -/
def H1st (K : PySem.W.Frag) (T : List Addr) (a : Addr) (vs : List Value) (ns : List Int) : Hp := fun b =>
  if b ∈ T then some (.tbl #[]) else if b = a ∧ K.lookup a = none then some (.frz (lo vs) (.lst (ns.map V.int))) else none
theorem H1st_tab {T : List Addr} {b : Addr} (h : b ∈ T) : H1st K T a vs ns b = some (.tbl #[]) := if_pos h
theorem H1st_cases (T : List Addr) (b : Addr) : (b ∈ T ∧ H1st K T a vs ns b = some (.tbl #[])) ∨ (b ∉ T ∧ b = a ∧ K.lookup a = none ∧ H1st K T a vs ns b = some (.frz (lo vs) (.lst (ns.map V.int)))) ∨ (b ∉ T ∧ H1st K T a vs ns b = none) := by
  unfold H1st
  by_cases h1 : b ∈ T
  · exact Or.inl ⟨h1, if_pos h1⟩
  · by_cases h2 : b = a ∧ K.lookup a = none
    · exact Or.inr (Or.inl ⟨h1, h2.1, h2.2, by rw [if_neg h1, if_pos h2]⟩)
    · exact Or.inr (Or.inr ⟨h1, by rw [if_neg h1, if_neg h2]⟩)

theorem law_callG (inK : K.In s₁.heap) (gl : s₁.heap.Ns mainGlobals mg) (bl : s₁.heap.Ns builtinsNs mb) (bb : ∀ x : Str, x ≠ "__name__" → mb x = bootBuiltins x) (nl : s₁.heap.NoLimit) (ge : s₁.gens = #[])
    (tE : ∀ p ∈ cs, s₁.heap.get? p.2 = some { cls := .none, data := .fields #[] }) (tK : ∀ p ∈ cs, K.lookup p.2 = none) (cH : ∀ p ∈ cs, PySem.W.CodeHd s₁.heap p.1 p.2)
    (bM : ∃ (bm : Addr) (ob : Obj), mg "__builtins__" = some (.ref bm) ∧ bm ≠ builtinsNs ∧ s₁.heap.get? bm = some ob ∧ ob.cls = .type "module" ∧ ob.dict = some builtinsNs ∧ ob.data = .plain)
    (aL : s₁.heap.get? a = some (lo vs)) (iA : IntsAre vs ns) (nz : ns.length ≤ sizeLine) (hr : Room k callerA)
    (F : ∀ base : Heap, K.In base → base.Ns mainGlobals mg → (∀ p ∈ cs, TabB base mg p.1 p.2) → FnG P w K mg base CX k fa fd [x] sp) (bnd : ∀ (s : Shared) (u : Value), BindsTo s fd ⟨[u], []⟩ [(x, u)])
    (hsp : ∀ H : Hp, (∀ p ∈ cs, H p.2 = some (.tbl #[])) → (∀ b, H b = none ∨ b ∈ cs.map (·.2) ∨ b = a) → SqL K H a (ns.map V.int) → sp [.ref a] H (fun v _ => v = .bl true) fun _ _ _ => False)
    (nX : ∀ H e s', CX [] H s₁ (fun _ _ _ => False) e s' → False) :
    codeAny (model P w) callerA (.call (.ref fa) ⟨[.ref a], []⟩) (fun r s' => r = .ok (.ret (.bool true)) ∧ OldK s₁.heap s'.heap ∧ s'.os = s₁.os ∧ AllBare s'.gens) s₁ := by
  have vl := vals_ints iA
  have ln := iA.length
  generalize eT : cs.map (·.2) = T at hsp
  have inT : ∀ p ∈ cs, p.2 ∈ T := fun p hp => eT ▸ List.mem_map.mpr ⟨p, hp, rfl⟩
  have ofT : ∀ b ∈ T, ∃ p ∈ cs, p.2 = b := fun b hb => by
    rw [← eT] at hb
    exact List.mem_map.mp hb
  have tO : ∀ b ∈ T, s₁.heap.get? b = some { cls := .none, data := .fields #[] } := fun b hb => by
    obtain ⟨p, hp, rfl⟩ := ofT b hb
    exact tE p hp
  have aT : a ∉ T := fun z => by
    have q := tO a z
    rw [aL] at q
    exact nomatch congrArg Obj.data (Option.some.inj q)
  generalize eH : H1st K T a vs ns = H
  have cas := fun b => eH ▸ H1st_cases (K := K) (a := a) (vs := vs) (ns := ns) T b
  have hT : ∀ b ∈ T, H b = some (.tbl #[]) := fun b hb => eH ▸ H1st_tab hb
  -- an object that is neither a list nor an empty record is not tracked
  have plainO : ∀ {b : Addr} {o : Obj}, s₁.heap.get? b = some o → (∀ ys m, o.data ≠ .seq ys m) → o.data ≠ .fields #[] → H b = none := by
    intro b o e h1 h2
    rcases cas b with ⟨hb, _⟩ | ⟨_, rfl, _, _⟩ | ⟨_, h⟩
    · rw [tO b hb] at e
      exact (h2 (Option.some.inj e ▸ rfl)).elim
    · rw [aL] at e
      cases e
      exact (h1 _ _ rfl).elim
    · exact h
  have nsT : ∀ {b : Addr} {m : Str → Option Value}, s₁.heap.Ns b m → (hidT s₁.heap H).Ns b m := by
    rintro b m ⟨o, es, ep, e, d, r⟩
    exact ⟨o, es, ep, hidT_get e (plainO e (fun ys m z => nomatch d.symm.trans z) fun z => nomatch d.symm.trans z), d, r⟩
  have inB : K.In (hidT s₁.heap H) := fun b o e => by
    refine hidT_get (inK b o e) ?_
    rcases cas b with ⟨hb, _⟩ | ⟨_, rfl, h, _⟩ | ⟨_, h⟩
    · obtain ⟨p, hp, rfl⟩ := ofT b hb
      exact nomatch (tK p hp).symm.trans e
    · exact nomatch h.symm.trans e
    · exact h
  have M : L2.Mod K mg (hidT s₁.heap H) := by
    refine ⟨inB, nsT gl, ⟨mb, nsT bl, bb⟩, ?_⟩
    obtain ⟨mc, h1, h2⟩ := nl
    exact ⟨mc, nsT h1, h2⟩
  have TB : ∀ p ∈ cs, TabB (hidT s₁.heap H) mg p.1 p.2 := by
    intro p hp
    refine ⟨?_, ?_, ?_⟩
    · obtain ⟨o, us, file, tf, flags, tg, inF, text, tt, e1, r1, r2, r3, rest⟩ := cH p hp
      exact ⟨o, us, file, tf, flags, tg, inF, text, tt, hidT_get e1 (plainO e1 (fun ys m z => nomatch r2.symm.trans z) fun z => by
        rw [r2] at z
        injection z with z
        rw [z] at r3
        simp at r3), r1, r2, r3, rest⟩
    · obtain ⟨bm, ob, b1, b2, b3, b4, b5, b6⟩ := bM
      have d1 : ∀ ys m, ob.data ≠ .seq ys m := fun ys m z => nomatch b6.symm.trans z
      have d2 : ob.data ≠ .fields #[] := fun z => nomatch b6.symm.trans z
      refine ⟨bm, ob, b1, b2, ?_, ?_, hidT_get b3 (plainO b3 d1 d2), b4, b5, b6⟩
      · rintro rfl
        obtain ⟨o, es, ep, e, hd, _⟩ := gl
        rw [b3] at e
        rw [Option.some.inj e] at b6
        exact nomatch hd.symm.trans b6
      · rintro rfl
        rw [tE p hp] at b3
        exact d2 (Option.some.inj b3 ▸ rfl)
    · intro z
      obtain ⟨o, es, ep, e, hd, _⟩ := gl
      rw [z, tE p hp] at e
      rw [← Option.some.inj e] at hd
      exact nomatch hd
  have ok : HOk P w H s₁.heap := fun b u e => by
    rcases cas b with ⟨hb, h⟩ | ⟨_, rfl, _, h⟩ | ⟨_, h⟩
    · rw [h] at e
      cases e
      exact tO b hb
    · rw [h] at e
      cases e
      exact ⟨aL, by rw [List.length_map]; exact nz, vs, _, vl, aL⟩
    · rw [h] at e
      cases e
  have SQ : SqL K H a (ns.map V.int) := by
    rcases cas a with ⟨hb, _⟩ | ⟨_, _, _, h⟩ | ⟨_, h⟩
    · exact (aT hb).elim
    · exact Or.inl (Or.inr ⟨_, h⟩)
    · cases q : K.lookup a with
      | none =>
        rw [← eH] at h
        unfold H1st at h
        rw [if_neg aT, if_pos ⟨rfl, q⟩] at h
        cases h
      | some o =>
        have e := inK a o q
        rw [aL] at e
        cases e
        exact Or.inr ⟨_, vs.toArray, _, q, rfl, rfl, rfl, by rw [List.size_toArray, ln]; exact nz, by simpa using vl⟩
  have E0 : Env0 P w K mg (hidT s₁.heap H) callerA [] s₁ H := ⟨rfl, M, fun b o e => of_hidT e, Nat.le_of_eq (hidT_size _ _), trivial, fun b hb => absurd (show b ∈ ([] : List Addr) from hb) (by simp), ok, AllBare.of_eq ge⟩
  have go := (F _ inB (nsT gl) TB).run callerA [] s₁ H ⟨[.ref a], []⟩ [.ref a] [.ref a] _ _ rfl hr E0 (bnd s₁ (.ref a)) (.cons rfl .nil) (hsp H (fun p hp => hT _ (inT p hp)) (fun b => by
    rcases cas b with ⟨hb, _⟩ | ⟨_, h, _, _⟩ | ⟨_, h⟩
    · exact Or.inr (Or.inl hb)
    · exact Or.inr (Or.inr h)
    · exact Or.inl h) SQ)
  refine codeAny_mono go ?_
  intro r s' h
  cases r with
  | error e => exact (nX H e s' h).elim
  | ok fl =>
    cases fl with
    | next => exact h.elim
    | brk => exact h.elim
    | cont => exact h.elim
    | ret u =>
      obtain ⟨v, H', os, bare, un, ok', r', q⟩ := h
      cases (show v = .bl true from q)
      cases (show u = Value.bool true from r')
      have same : ∀ b o, b ∉ T → s₁.heap.get? b = some o → s'.heap.get? b = some o := by
        intro b o nb e
        rcases cas b with ⟨hb, _⟩ | ⟨_, rfl, _, h⟩ | ⟨_, h⟩
        · exact (nb hb).elim
        · rw [aL] at e
          cases e
          exact (ok' b _ (un.frzs b _ _ h)).1
        · exact un.keep b o e h (fun z => absurd (show b ∈ ([] : List Addr) from z) (by simp)) (by simp)
      have grew : ∀ b ∈ T, ∃ more : Array Value, s'.heap.get? b = some { cls := .none, data := .fields more } := fun b hb => by
        obtain ⟨more, z⟩ := un.tbls b #[] (hT b hb)
        exact ⟨_, ok' b _ z⟩
      refine ⟨rfl, ⟨?_, ?_⟩, os, bare⟩
      · intro b o e
        by_cases hb : b ∈ T
        · obtain ⟨more, hm⟩ := grew b hb
          rw [tO b hb] at e
          cases e
          obtain ⟨p, hp, rfl⟩ := ofT b hb
          exact Or.inr (Or.inl ⟨((cH p hp).tab (tE p hp)).isCodeTable, rfl, #[], more, rfl, by rw [Array.empty_append]; exact hm⟩)
        · exact Or.inl (same b o hb e)
      · intro b o e
        by_cases hb : b ∈ T
        · obtain ⟨more, hm⟩ := grew b hb
          exact ⟨_, hm⟩
        · exact ⟨o, same b o hb e⟩
end
/-- what is known of the law at the head's heap -/
def LawAtG (l : PySem.W.OpenLaw) (w : World) (K : PySem.W.Frag) (CX : CXT) (k n : Nat) (x : Str) (mg : Str → Option Value) (fa : Addr) (h : Heap) : Prop :=
  ∃ (fd : FuncData) (cs : List (Addr × Addr)) (sp : Sp), (∀ p ∈ cs, h.get? p.2 = some { cls := .none, data := .fields #[] }) ∧ (∀ p ∈ cs, K.lookup p.2 = none) ∧ (∀ p ∈ cs, PySem.W.CodeHd h p.1 p.2) ∧
    (∀ (s : Shared) (u : Value), BindsTo s fd ⟨[u], []⟩ [(x, u)]) ∧
    (∀ (H : Hp) (a : Addr) (ns : List Int), ns.length ≤ n → (∀ z ∈ ns, Builtin.Int.intBits z ≤ 1048576) → (∀ p ∈ cs, H p.2 = some (.tbl #[])) → (∀ b, H b = none ∨ b ∈ cs.map (·.2) ∨ b = a) → SqL K H a (ns.map V.int) →
      sp [.ref a] H (fun v _ => v = .bl true) fun _ _ _ => False) ∧
    ∀ base : Heap, K.In base → base.Ns mainGlobals mg → (∀ p ∈ cs, TabB base mg p.1 p.2) → FnG l.prog w K mg base CX k fa fd [x] sp
theorem walkG {l : PySem.W.OpenLaw} {n k : Nat} {q : Program} {loose : List Str} {XP : (Str → Option Value) → Heap → Prop} {YP : World → Heap → Prop} {d : DefRec} {CX : World → CXT} {x : Str}
    (hn : l.most = some n) (n2 : n ≤ sizeLine) (nd : d.params.defaults = []) (hr : Room k callerA)
    (F : ∀ (w : World) (mg : Str → Option Value) (fa : Addr) (h : Heap), YP w h → h.Ns mainGlobals mg → mg d.name = some (.ref fa) → ∃ K : PySem.W.Frag, K.In h ∧ LawAtG l w K (CX w) k n x mg fa h)
    (nX : ∀ (w : World) (H : Hp) (s : Shared) (e : Value) (s' : Shared), CX w [] H s (fun _ _ _ => False) e s' → False) :
    PySem.W.WalkO q loose XP YP l.row.toRowW d [] (fun f vs => PySem.call f vs) := by
  refine Att.attach_callB hn nd ?_
  intro w s₀ s₁ mg mb fa o pm cd doc a vs ns G Y ho hd hcd hmg hobj hints hlen hbits hg
  obtain ⟨K, KX, fd, cs, sp, h1, h2, h3, h4, h5, h6⟩ := F w mg fa _ Y G.T.g hmg
  exact law_callG KX G.T.g G.T.b G.T.builtins G.T.nolimit hg h1 h2 h3 G.T.bmain hobj hints (Nat.le_trans hlen n2) hr h6 h4 (fun H hH hO hS => h5 H a ns hlen hbits hH hO hS) fun H e s' => nX w H s₁ e s'
end Vf
end
section
set_option Elab.async false
set_option linter.all false
set_option maxRecDepth 100000
set_option maxHeartbeats 4000000
/-! any, all of a generator expression whose element may call defs. -/
namespace Vf
open PySem PySem.Spec PyProof.Rows L2 GxR

/-- a generator expression's own names, over the names N of the def around (scope sc): own, the slots that it hides -/
structure GOk (N : List Str) (sc scope : Scope) (x : Str) (own : List Nat) : Prop where
  kind : scope.kind = .function
  co : scope.isCoroutine = false
  cell : ∀ y ∈ scope.names, y.2 ≠ .cell
  dot : scope.names.lookup (".0" : Str) = some NameKind.local
  loc : scope.names.lookup x = some .local
  free : ∀ y ∈ scope.names, y.2 = .free → sc.names.lookup y.1 = some .cell ∨ sc.names.lookup y.1 = some .free
  own : ∀ p ∈ N.zipIdx, scope.names.lookup p.1 = some .local → p.2 ∈ own
def gokB (N : List Str) (sc scope : Scope) (x : Str) (own : List Nat) : Bool :=
  (match scope.kind with | .function => true | _ => false) && !scope.isCoroutine && scope.names.all (fun y => decide (y.2 ≠ .cell)) && decide (scope.names.lookup (".0" : Str) = some NameKind.local) && decide (scope.names.lookup x = some .local) &&
  scope.names.all (fun y => decide (y.2 ≠ .free) || decide (sc.names.lookup y.1 = some .cell) || decide (sc.names.lookup y.1 = some .free)) &&
  N.zipIdx.all (fun p => decide (scope.names.lookup p.1 ≠ some .local) || own.contains p.2)
theorem gok_by {N : List Str} {sc scope : Scope} {x : Str} {own : List Nat} (h : gokB N sc scope x own = true) : GOk N sc scope x own := by
  unfold gokB at h
  simp only [Bool.and_eq_true, List.all_eq_true, decide_eq_true_eq, Bool.or_eq_true, Bool.not_eq_true'] at h
  obtain ⟨⟨⟨⟨⟨⟨h1, h2⟩, h3⟩, h4⟩, h5⟩, h6⟩, h7⟩ := h
  refine ⟨?_, h2, h3, h4, h5, fun y hy e => ?_, fun p hp e => ?_⟩
  · split at h1
    · assumption
    · cases h1
  · rcases h6 y hy with (q | q) | q
    · exact absurd e q
    · exact Or.inl q
    · exact Or.inr q
  · rcases h7 p hp with q | q
    · exact absurd e q
    · exact List.contains_iff_mem.mp q

/-- the frame of the generator while it runs: A around it, s and H where it was made, fp its iterator's objects -/
abbrev gcx (X : Cx) (A : Around) (s : Shared) (H : Hp) (genv : Env) (fp : List Addr) : Cx :=
  { X with A := A, s_0 := s, H_0 := H, env := genv, outer := X.stack, stack := genv :: X.stack, ex := fp, fn := fun _ => false, calm := true, pn := [], xe := fun _ _ => False }

theorem over_comp {A : Around} {elt tg iter : Expr} {ifs : List Expr} {scope : Scope} {pos : Pos} {it acc : Value} {env : Env} :
    A.over (.compLoop (.GeneratorExp elt [⟨tg, iter, ifs, 0⟩] scope pos) 0 it acc env) [] = A.deeper env := by
  first
    | rfl
    | (obtain ⟨hd, d, fr, gs, u⟩ := A; simp [Around.over, Around.deeper, marksOver, frameCount, unitsOf, envsOf, guardsOf, pushEnvs, pushGuards, Code.envs, Code.env?, Code.isFrame, Code.guards, Code.isGuard, Code.weight, Code.frames, Code.isCreation, Code.isCaller, Code.cUnits])
theorem over_start {A : Around} {elt tg iter : Expr} {ifs : List Expr} {scope : Scope} {pos : Pos} {it acc : Value} {env : Env} :
    A.over (.compStart (.GeneratorExp elt [⟨tg, iter, ifs, 0⟩] scope pos) 0 it acc env) [] = A.deeper env := by
  first
    | rfl
    | (obtain ⟨hd, d, fr, gs, u⟩ := A; simp [Around.over, Around.deeper, marksOver, frameCount, unitsOf, envsOf, guardsOf, pushEnvs, pushGuards, Code.envs, Code.env?, Code.isFrame, Code.guards, Code.isGuard, Code.weight, Code.frames, Code.isCreation, Code.isCaller, Code.cUnits])

section
variable {X : Cx} {pins : List (Addr × Obj)} {σ : L2.St} {H : Hp} {s : Shared}

/-- the generator's frame as it is made -/
theorem gen_start {A : Around} {scope : Scope} {x : Str} {own : List Nat} {fp : List Addr} {it : Value} {code : Value} {h' h5 : Heap} {g5 : Array GenState} {t5 : Nat} {go : Obj} {a : Addr}
    (hA : A.handled = none) (hAf : A.frames = some (genEnv scope (cloFrom X.env.cells scope.names []) s.heap.objs.size code builtinsNs X.env :: X.stack))
    (I : Inv X pins σ H s) (ok : GOk X.N X.env.scope scope x own) (hfp : ∀ b ∈ fp, FpOk X pins H b ∧ b < s.heap.objs.size)
    (k5 : ∀ b o, s.heap.get? b = some o → h5.get? b = some o) (n5 : h5.Ns s.heap.objs.size (fun y => if y = (".0" : Str) then some it else none)) (b5 : AllBare g5)
    (ha : s.heap.objs.size < a) (ga : h5.get? a = some go) (gd : ∀ v, go.data ≠ .cell v) :
    Inv (gcx X A s H (genEnv scope (cloFrom X.env.cells scope.names []) s.heap.objs.size code builtinsNs X.env) fp) [(a, go)] (wipe σ own) H { s with heap := h5, gens := g5, toks := t5 } := by
  have hfree : ∀ y, (y, NameKind.free) ∈ scope.names → ∃ c, X.env.cells.lookup y = some c := fun y hy => by
    rcases ok.free _ hy rfl with k | k
    · exact I.ok.has _ (.inl k)
    · exact I.ok.has _ (.inr k)
  have cm : ∀ {y c}, (y, c) ∈ cloFrom X.env.cells scope.names [] → X.env.cells.lookup y = some c := fun {y c} hm => by
    rcases cloFrom_mem hm with hm | ⟨h1, rfl⟩
    · cases hm
    · obtain ⟨c, hc⟩ := hfree _ h1
      rw [hc]; rfl
  have cl : ∀ {y c}, (cloFrom X.env.cells scope.names []).lookup y = some c → X.env.cells.lookup y = some c := fun {y c} e => cm (PySem.mem_of_lookup e)
  have lk : ∀ {y}, scope.names.lookup y = some .free → ∃ c, (cloFrom X.env.cells scope.names []).lookup y = some c ∧ X.env.cells.lookup y = some c := fun {y} hl => by
    obtain ⟨c', e'⟩ := mem_lookup (cloFrom_has (cells := X.env.cells) (acc := []) (PySem.mem_of_lookup hl))
    exact ⟨c', e', cl e'⟩
  have nC : ∀ b, b ∈ fp → b ≠ s.heap.objs.size := fun b hb => Nat.ne_of_lt (hfp b hb).2
  refine ⟨⟨I.ok.mod, ok.kind, I.ok.glob, rfl, Nat.le_refl _, fun y z c e1 e2 => I.ok.inj y z c (cl e1) (cl e2), fun y hy => ?_, fun y c e => Bool.noConfusion (show false = true from e), fun _ => hA, hAf, .inr ⟨rfl, rfl⟩, fun b hb => ⟨nC b hb, fun y c e z => ?_⟩, I.bs,
      Nat.le_trans I.ok.bsz I.sz, fun b o e hb => ?_, fun b hb z => ?_, I.stack, I.stkFree⟩, rfl, b5, Un.kept k5, ⟨_, n5, fun i y v e1 e2 e3 => ?_⟩, fun y c e => ?_, I.hok.fresh (Nat.le_refl _), fun y c e => I.freeC y c (cl e), fun p hp => ?_, I.hok.kept k5, by rw [wipe_length]; exact I.len⟩
  · have hy : scope.names.lookup y = some .cell ∨ scope.names.lookup y = some .free := hy
    rcases hy with hy | hy
    · exact absurd rfl (ok.cell _ (PySem.mem_of_lookup hy))
    · obtain ⟨c, h1, _⟩ := lk hy
      exact ⟨c, h1⟩
  · exact (hfp b hb).1.2.2.2.2.1 y c (cl e) z
  · rcases (hfp b hb).1.2.2.2.1 with z | z
    · exact I.ok.noex b o e z
    · exact absurd (Nat.lt_of_lt_of_le (Heap.lt_size e) (Nat.le_trans I.ok.bsz z)) (Nat.lt_irrefl _)
  · rcases List.mem_cons.mp (I.stkSub b z) with z | z
    · exact (hfp b hb).1.2.1 z
    · exact (hfp b hb).1.2.2.1 z
  · obtain ⟨e2, hne⟩ := wipe_some e2
    have e3 : scope.names.lookup y = some .local ∨ scope.names.lookup y = some .cell ∨ scope.names.lookup y = some .free := e3
    have e1' : X.N[i]? = some y := e1
    rcases e3 with e3 | e3 | e3
    · have hm : (y, i) ∈ X.N.zipIdx := by
        rw [List.mem_zipIdx_iff_getElem?]
        exact e1'
      exact absurd (ok.own _ hm e3) hne
    · exact absurd rfl (ok.cell _ (PySem.mem_of_lookup e3))
    · obtain ⟨m, hn, hl⟩ := I.loc
      have hsc := ok.free _ (PySem.mem_of_lookup e3) rfl
      obtain ⟨u, r, q⟩ := hl i y v e1' e2 (hsc.elim (fun k => .inr (.inl k)) fun k => .inr (.inr k))
      obtain ⟨c, h1, h2⟩ := lk e3
      refine ⟨u, r, .inr ⟨.inr e3, c, h1, ?_⟩⟩
      rcases q with ⟨k, _⟩ | ⟨_, c', e', z⟩
      · have k : X.env.scope.names.lookup y = some .local := k
        rcases hsc with k' | k' <;> (have k' : X.env.scope.names.lookup y = _ := k'; rw [k] at k'; cases k')
      · rw [h2] at e'; cases e'
        exact z.keeps k5
  · obtain ⟨v, z⟩ := I.cell y c (cl e)
    exact ⟨v, z.keeps k5⟩
  · have hp : p ∈ ([] : List (Addr × Obj)) ++ [(a, go)] := hp
    simp only [List.nil_append, List.mem_singleton] at hp
    subst hp
    refine ⟨ga, I.hok.fresh (Nat.le_of_lt ha), Nat.ne_of_gt ha, fun z => ?_, gd⟩
    have z : a ∈ frs X.stack := z
    rcases List.mem_cons.mp (I.stkSub a z) with z | z
    · have := I.lt
      rw [← z] at this
      exact absurd (Nat.lt_trans this ha) (Nat.lt_irrefl _)
    · exact I.nofs (Nat.le_of_lt ha) z
end
end Vf
end
section
set_option Elab.async false
set_option linter.all false
set_option maxRecDepth 100000
set_option maxHeartbeats 4000000
namespace Vf
open PySem PySem.Spec PyProof.Rows L2 GxR

/-- while the generator sleeps nothing happens to the heap -/
structure Slp (s s' : Shared) : Prop where
  os : s'.os = s.os
  bare : AllBare s'.gens
  heap : s'.heap = s.heap
theorem Inv.slp {X : Cx} {pins : List (Addr × Obj)} {σ : L2.St} {H : Hp} {s s' : Shared} (I : Inv X pins σ H s) (z : Slp s s') : Inv X pins σ H s' := by
  obtain ⟨h1, h2, h3⟩ := z
  exact I.call' (ch := []) h1 (by rw [h3]; exact Un.refl) (by rw [h3]; exact I.hok) h2 (fun b hb => absurd hb (by simp))

/-- what the turns of an any (cont false), an all (cont true) are to reach -/
def Turns (cont : Bool) (j : Nat) (σ0 : L2.St) (tt : TT) (te : TE) (J : It) (Q : VK) (W : Nat → Nat → Hp → Prop) : Prop :=
  ∀ i m H, W i m H → (J.stop i H ∧ Q (.bl cont) H) ∨ (J.go i H ∧ ∃ Nx : Hp → Prop, (∀ H', Nx H' → ∃ m', m' < m ∧ W (i + 1) m' H') ∧ ∀ y H', J.yld i H y H' →
    tt (σ0.set j (some y)) H' fun b H3 => if b = true then te (σ0.set j (some y)) H3 fun z H4 => ∃ c, z = .bl c ∧ (if c = cont then Nx H4 else Q (.bl (!cont)) H4) else Nx H3)
def GPr (Xg : Cx) (pin : List (Addr × Obj)) (σ0 : L2.St) (Q : VK) (cont : Bool) : Protocol := fun n s₀ v s kap =>
  ∃ c H, v = .bool c ∧ Inv Xg pin σ0 H s ∧ (if c = cont then ∀ s', Slp s s' → kap (.send .none) s' else Q (.bl (!cont)) H)
def GRe (Xg : Cx) (pin : List (Addr × Obj)) (σ0 : L2.St) (Q : VK) (cont : Bool) : GenEnd := fun n s₀ r s => r = .ok .next ∧ ∃ H, Inv Xg pin σ0 H s ∧ Q (.bl cont) H

section
variable {Xg : Cx} {A : Around} {elt iter : Expr} {ifs : List Expr} {x : Str} {px : Pos} {scope : Scope} {pos : Pos} {it : Addr} {fp : List Addr} {tn : Nat → Heap → Prop} {J : It} {pin : List (Addr × Obj)} {j : Nat} {tt : TT} {te : TE} {σ0 : L2.St}
  {Q : VK} {W : Nat → Nat → Hp → Prop} {cont : Bool}
theorem seg_gl (hc : Xg.calm = true) (hov : A.deeper Xg.env = Xg.A) (T : Turn Xg.prog Xg.w Xg.K (.Name x px) J fp it tn) (hpn : Xg.pn = []) (hex : Xg.ex = fp) (hpin : ∀ p ∈ pin, p.1 ∉ fp)
    (pg : PG Xg (.Name x px) (gName j)) (pt : PTs Xg ifs tt) (pe : PE Xg elt te) (h0 : ∀ v, σ0[j]? ≠ some (some v)) (hco : Xg.env.scope.isCoroutine = false) (hxe : Xg.xe = fun _ _ => False) (tu : Turns cont j σ0 tt te J Q W) :
    ∀ (m n i : Nat) (s₀ s : Shared) (H : Hp), m < n → Inv Xg pin σ0 H s → tn i s.heap → (∀ b ∈ fp, H b = none) → W i m H →
      Seg (model Xg.prog Xg.w) A (GRe Xg pin σ0 Q cont) (GPr Xg pin σ0 Q cont) n s₀ (.compLoop (.GeneratorExp elt [⟨.Name x px, iter, ifs, 0⟩] scope pos) 0 (.ref it) .none Xg.env)
        ((model Xg.prog Xg.w).den (.compLoop (.GeneratorExp elt [⟨.Name x px, iter, ifs, 0⟩] scope pos) 0 (.ref it) .none Xg.env)) [] s := by
  have stat : ∀ {σ' : L2.St} {H' : Hp} {s' : Shared}, Inv Xg pin σ' H' s' → (∀ b ∈ fp, H' b = none) → ∀ b ∈ fp, FpOk Xg pin H' b := fun {σ' H' s'} I' hn b hb => by
    have hb' : b ∈ Xg.ex := hex ▸ hb
    refine ⟨hn b hb, (I'.ok.exf b hb').1, I'.ok.exfs b hb', .inl hb', fun x c e => (I'.ok.exf b hb').2 x c e, fun p hp z => ?_⟩
    rw [hpn, List.nil_append] at hp
    exact hpin p hp (z ▸ hb)
  have oA : A.over (.compLoop (.GeneratorExp elt [⟨.Name x px, iter, ifs, 0⟩] scope pos) 0 (.ref it) .none Xg.env) [] = Xg.A := over_comp.trans hov
  intro m
  induction m using Nat.strongRecOn with
  | _ m ih =>
  intro n i s₀ s H hmn I st nf w
  show Seg _ A _ _ _ s₀ _ ((compTurn (.GeneratorExp elt [⟨.Name x px, iter, ifs, 0⟩] scope pos) 0 (.ref it) .none Xg.env).onRaise (leaving Xg.env)) [] s
  rw [compTurn_gen, Sem.onRaise_eq_wrap]
  refine seg_bind_wrap (wpAny_standAt ?_)
  rcases tu i m H w with ⟨stop, qq⟩ | ⟨go, Nx, hNx, step⟩
  · refine seg_bind_wrap ?_
    rw [oA]
    refine thnF (T.done Xg rfl rfl rfl hc i pin s _ H (fun _ _ => False) I (stat I nf) st stop) fun r s1 ⟨hr, I1⟩ => ?_
    subst hr
    exact seg_end (.ok .next) ⟨rfl, H, I1, qq⟩
  · refine seg_bind_wrap ?_
    rw [oA]
    refine thnF (T.item Xg rfl rfl rfl hc i pin s _ H (fun _ _ => False) I (stat I nf) st go) fun r s1 ⟨u, hr, h1⟩ => ?_
    subst hr
    refine seg_bind_wrap ?_
    rw [oA]
    refine thnF h1 fun _ s2 ⟨y, H2, I2, r2, y2, st2, n2⟩ => ?_
    have I2' := I2.pinned (stat I2 n2) (T.obj _ _ st2)
    refine seg_bind_wrap ?_
    rw [oA]
    refine wpAny_mono (pg.run _ s2 _ H2 y u (fun σ' H' => σ' = σ0.set j (some y) ∧ H' = H2) I2' r2 ⟨rfl, rfl⟩) (fun _ s3 ⟨σ3, H3, I3, e3, e4⟩ => ?_) (fun e s' z => by rw [hxe] at z; exact z.elim)
    subst e3
    subst e4
    -- the turn's end
    have fin : ∀ {s' : Shared} {H' : Hp}, Inv Xg (pin ++ pinsAt fp s2.heap) (σ0.set j (some y)) H' s' → Inv Xg pin σ0 H' s' ∧ tn (i + 1) s'.heap ∧ ∀ b ∈ fp, H' b = none := fun {s' H'} I' => by
      have pin' : ∀ b ∈ fp, ∀ o, s2.heap.get? b = some o → s'.heap.get? b = some o ∧ H' b = none := fun b hb o e =>
        let z := I'.pin (b, o) (List.mem_append_right _ (List.mem_append_right _ (mem_pinsAt hb e)))
        ⟨z.1, z.2.1⟩
      refine ⟨I'.unpinned.weak (by rw [List.length_set]) (fun k v e => ?_), T.keep _ _ _ st2 fun b hb o e => (pin' b hb o e).1, fun b hb => ?_⟩
      · by_cases hk : j = k
        · subst hk
          exact absurd e (h0 v)
        · rw [List.getElem?_set_ne hk]
          exact e
      · obtain ⟨o, e, _⟩ := T.obj _ _ st2 b hb
        exact (pin' b hb o e).2
    refine seg_bind_wrap ?_
    rw [oA]
    refine wpAny_mono (pt.run _ s3 _ H3 _ I3 (step y H3 y2)) (fun b s4 ⟨H4, I4, q4⟩ => ?_) (fun e s' z => by rw [hxe] at z; exact z.elim)
    cases b with
    | false =>
      simp only [Bool.false_eq_true, if_false] at q4 ⊢
      obtain ⟨m', hm, w'⟩ := hNx _ q4
      obtain ⟨I5, st5, n5⟩ := fin I4
      exact seg_again rfl (ih m' hm n (i + 1) s₀ s4 H4 (by omega) I5 st5 n5 w')
    | true =>
      simp only [if_true] at q4 ⊢
      have hy : ∀ v, yieldOut Xg.env v = yieldValue v := fun v => by simp only [yieldOut, hco, Bool.false_eq_true, if_false]
      simp only [hy]
      rw [Sem.bind_eq_wrap', Sem.bind_eq_wrap', Sem.wrap_wrap, Sem.wrap_wrap]
      refine seg_wrap ?_
      rw [oA]
      refine wpAny_mono (pe.run _ s4 _ H4 _ I4 q4) (fun v s5 ⟨z, H5, I5, r5, c, hz, q5⟩ => ?_) (fun e s' z => by rw [hxe] at z; exact z.elim)
      subst hz
      cases r5
      obtain ⟨I6, st6, n6⟩ := fin I5
      obtain ⟨n', rfl⟩ : ∃ n', n = n' + 1 := ⟨n - 1, by omega⟩
      refine seg_at (seg_yield rfl rfl rfl ⟨c, H5, rfl, I6, ?_⟩)
      by_cases hcc : c = cont
      · rw [if_pos hcc] at q5 ⊢
        intro s6 z6
        obtain ⟨m', hm, w'⟩ := hNx _ q5
        exact seg_again rfl (ih m' hm n' (i + 1) s6 s6 H5 (by omega) (Inv.slp I6 z6) (by rw [z6.heap]; exact st6) n6 w')
      · rw [if_neg hcc] at q5 ⊢
        exact q5
end
end Vf
end
section
set_option Elab.async false
set_option linter.all false
set_option maxRecDepth 100000
set_option maxHeartbeats 4000000
namespace Vf
open PySem PySem.Spec PyProof.Rows L2 GxR GenW
section
variable {Xg : Cx} {A : Around} {elt iter : Expr} {ifs : List Expr} {x : Str} {px : Pos} {scope : Scope} {pos : Pos} {it : Addr} {fp : List Addr} {tn : Nat → Heap → Prop} {J : It} {pin : List (Addr × Obj)} {j : Nat} {tt : TT} {te : TE} {σ0 : L2.St}
  {Q : VK} {W : Nat → Nat → Hp → Prop} {cont : Bool}
theorem seg_gst (hov : A.deeper Xg.env = Xg.A) (T : Turn Xg.prog Xg.w Xg.K (.Name x px) J fp it tn) {n : Nat} {s₀ s : Shared} (st : tn 0 s.heap)
    (loop : Seg (model Xg.prog Xg.w) A (GRe Xg pin σ0 Q cont) (GPr Xg pin σ0 Q cont) n s₀ (.compLoop (.GeneratorExp elt [⟨.Name x px, iter, ifs, 0⟩] scope pos) 0 (.ref it) .none Xg.env)
        ((model Xg.prog Xg.w).den (.compLoop (.GeneratorExp elt [⟨.Name x px, iter, ifs, 0⟩] scope pos) 0 (.ref it) .none Xg.env)) [] s) :
      Seg (model Xg.prog Xg.w) A (GRe Xg pin σ0 Q cont) (GPr Xg pin σ0 Q cont) n s₀ (.compStart (.GeneratorExp elt [⟨.Name x px, iter, ifs, 0⟩] scope pos) 0 (.ref it) .none Xg.env)
        ((model Xg.prog Xg.w).den (.compStart (.GeneratorExp elt [⟨.Name x px, iter, ifs, 0⟩] scope pos) 0 (.ref it) .none Xg.env)) [] s := by
  show Seg _ A _ _ _ s₀ _ ((compStart (.GeneratorExp elt [⟨.Name x px, iter, ifs, 0⟩] scope pos) 0 (.ref it) .none Xg.env).onRaise (leaving Xg.env)) [] s
  unfold compStart
  rw [Sem.onRaise_eq_wrap]
  show Seg _ A _ _ _ s₀ _ ((ask >>= _).wrap _ _ _ _) [] s
  refine seg_bind_wrap (wpAny_askSetting ?_)
  split
  · exact seg_again rfl loop
  · first
      | exact seg_bind_wrap (wpAny_rule (seg_bind_wrap (wpAny_standAt (seg_bind_wrap (T.self _ 0 s _ _ st (seg_again rfl loop))))))
      | (refine seg_bind_wrap (wpAny_rule ?_); show Seg _ A _ _ _ s₀ _ ((standAt iter.pos >>= _).wrap _ _ _ _) [] s; exact seg_bind_wrap (wpAny_standAt (seg_bind_wrap (T.self _ 0 s _ _ st (seg_again rfl loop)))))

/-- all over such a generator -/
theorem all_loop {R : Result → Shared → Prop} {a : Addr} {g : Nat} {go : Obj} (hh : A.handled = none) (hd : A.depth < recursionLimit) (hgo : ∀ h : Heap, h.get? a = some go → h.IsGen a g)
    (hR : ∀ b H' s', Inv Xg [(a, go)] σ0 H' s' → Q (.bl b) H' → R (.ok (.ret (.bool b))) s') :
    ∀ (n : Nat) (s : Shared) (H : Hp), Inv Xg [(a, go)] σ0 H s →
      (∃ gs, s.gens[g]? = some gs ∧ gs.Goes (model Xg.prog Xg.w) A.in1.in1 (GRe Xg [(a, go)] σ0 Q true) (GPr Xg [(a, go)] σ0 Q true) n (.send .none) (s.setGen g .running)) →
      codeAny (model Xg.prog Xg.w) A (.builtin "all.loop" ⟨[.ref a], []⟩) R s := by
  intro n
  induction n with
  | zero =>
    intro s H I ⟨gs, hgs, go1⟩
    have pa : s.heap.get? a = some go := (I.pin (a, go) (List.mem_append_right _ (List.mem_singleton.mpr rfl))).1
    refine codeAny_builtin F.entry_all_loop ?_
    rw [Around.under_plainId F.plain_all_loop _]
    show wpAny _ A.in1 (pyNext (.ref a) >>= _) _ _ s
    refine wpAny_bind (wpAny_pyNext_genexpQ (A := A.in1) (P := fun n s₀ s₁ => ∃ H', Inv Xg [(a, go)] σ0 H' s₁ ∧ Q (.bl true) H') hh I.nolimit hd (hgo _ pa) hgs go1 (fun v s1 gs' hb hv => ?_) (fun s1 hp h' hk => ?_))
    · obtain ⟨c, H1, rfl, I1, q1⟩ := hv
      by_cases hc : c = true
      · rw [if_pos hc] at q1
        exact (q1 s1 ⟨rfl, I1.bare, rfl⟩).elim
      · rw [if_neg hc] at q1
        have hc' : c = false := by simpa using hc
        subst hc'
        refine wpAny_bind (wpAny_holding (wpAny_truthy_bool ?_))
        refine wpAny_bind (wpAny_letGo ?_)
        simp only [Bool.false_eq_true, if_false]
        exact wpAny_bind (wpAny_rule (wpAny_pure (hR false H1 _ (Inv.slp I1 ⟨rfl, allBare_setGen I1.bare hb, rfl⟩) q1)))
    · obtain ⟨H1, I1, q1⟩ := hp
      refine wpAny_bind (wpAny_rule (wpAny_pure (hR true H1 _ ?_ q1)))
      exact I1.call' (ch := []) rfl (Un.kept hk) (I1.hok.kept hk) (allBare_setGen I1.bare rfl) (fun b hb => absurd hb (by simp))
  | succ m ih =>
    intro s H I ⟨gs, hgs, go1⟩
    have pa : s.heap.get? a = some go := (I.pin (a, go) (List.mem_append_right _ (List.mem_singleton.mpr rfl))).1
    have hgl : g < s.gens.size := (Array.getElem?_eq_some_iff.mp hgs).1
    refine codeAny_builtin F.entry_all_loop ?_
    rw [Around.under_plainId F.plain_all_loop _]
    show wpAny _ A.in1 (pyNext (.ref a) >>= _) _ _ s
    refine wpAny_bind (wpAny_gsz (n := g + 1) hgl (wpAny_pyNext_genexpQ (A := A.in1) (P := fun n s₀ s₁ => ∃ H', Inv Xg [(a, go)] σ0 H' s₁ ∧ Q (.bl true) H') hh I.nolimit hd (hgo _ pa) hgs go1 (fun v s1 gs' hb hv => ?_) (fun s1 hp h' hk => ?_)))
    · intro hsz
      obtain ⟨c, H1, rfl, I1, q1⟩ := hv
      have I2 := Inv.slp I1 (s' := s1.setGen g gs') ⟨rfl, allBare_setGen I1.bare hb, rfl⟩
      by_cases hc : c = true
      · rw [if_pos hc] at q1
        subst hc
        refine wpAny_bind (wpAny_holding (wpAny_truthy_bool ?_))
        refine wpAny_bind (wpAny_letGo ?_)
        simp only [if_true]
        have hsz1 : g < s1.gens.size := by
          have q : (s1.setGen g gs').gens.size = s1.gens.size := setGen_size _ _ _
          have hsz' : g + 1 ≤ (s1.setGen g gs').gens.size := hsz
          omega
        refine wpAny_pure ⟨plainId_quiet F.plain_all_loop _, ih _ H1 I2 ⟨gs', setGen_at hsz1, ?_⟩⟩
        exact q1 _ ⟨rfl, allBare_setGen (s := s1.setGen g gs') (allBare_setGen I1.bare hb) rfl, rfl⟩
      · rw [if_neg hc] at q1
        have hc' : c = false := by simpa using hc
        subst hc'
        refine wpAny_bind (wpAny_holding (wpAny_truthy_bool ?_))
        refine wpAny_bind (wpAny_letGo ?_)
        simp only [Bool.false_eq_true, if_false]
        exact wpAny_bind (wpAny_rule (wpAny_pure (hR false H1 _ I2 q1)))
    · intro _
      obtain ⟨H1, I1, q1⟩ := hp
      refine wpAny_bind (wpAny_rule (wpAny_pure (hR true H1 _ ?_ q1)))
      exact I1.call' (ch := []) rfl (Un.kept hk) (I1.hok.kept hk) (allBare_setGen I1.bare rfl) (fun b hb => absurd hb (by simp))
/-- any over such a generator -/
theorem any_loop {R : Result → Shared → Prop} {a : Addr} {g : Nat} {go : Obj} (hh : A.handled = none) (hd : A.depth < recursionLimit) (hgo : ∀ h : Heap, h.get? a = some go → h.IsGen a g)
    (hR : ∀ b H' s', Inv Xg [(a, go)] σ0 H' s' → Q (.bl b) H' → R (.ok (.ret (.bool b))) s') :
    ∀ (n : Nat) (s : Shared) (H : Hp), Inv Xg [(a, go)] σ0 H s →
      (∃ gs, s.gens[g]? = some gs ∧ gs.Goes (model Xg.prog Xg.w) A.in1.in1 (GRe Xg [(a, go)] σ0 Q false) (GPr Xg [(a, go)] σ0 Q false) n (.send .none) (s.setGen g .running)) →
      codeAny (model Xg.prog Xg.w) A (.builtin "any.loop" ⟨[.ref a], []⟩) R s := by
  intro n
  induction n with
  | zero =>
    intro s H I ⟨gs, hgs, go1⟩
    have pa : s.heap.get? a = some go := (I.pin (a, go) (List.mem_append_right _ (List.mem_singleton.mpr rfl))).1
    refine codeAny_builtin F.entry_any_loop ?_
    rw [Around.under_plainId F.plain_any_loop _]
    show wpAny _ A.in1 (pyNext (.ref a) >>= _) _ _ s
    refine wpAny_bind (wpAny_pyNext_genexpQ (A := A.in1) (P := fun n s₀ s₁ => ∃ H', Inv Xg [(a, go)] σ0 H' s₁ ∧ Q (.bl false) H') hh I.nolimit hd (hgo _ pa) hgs go1 (fun v s1 gs' hb hv => ?_) (fun s1 hp h' hk => ?_))
    · obtain ⟨c, H1, rfl, I1, q1⟩ := hv
      by_cases hc : c = false
      · rw [if_pos hc] at q1
        exact (q1 s1 ⟨rfl, I1.bare, rfl⟩).elim
      · rw [if_neg hc] at q1
        have hc' : c = true := by simpa using hc
        subst hc'
        refine wpAny_bind (wpAny_holding (wpAny_truthy_bool ?_))
        refine wpAny_bind (wpAny_letGo ?_)
        simp only [if_true]
        exact wpAny_bind (wpAny_rule (wpAny_pure (hR true H1 _ (Inv.slp I1 ⟨rfl, allBare_setGen I1.bare hb, rfl⟩) q1)))
    · obtain ⟨H1, I1, q1⟩ := hp
      refine wpAny_bind (wpAny_rule (wpAny_pure (hR false H1 _ ?_ q1)))
      exact I1.call' (ch := []) rfl (Un.kept hk) (I1.hok.kept hk) (allBare_setGen I1.bare rfl) (fun b hb => absurd hb (by simp))
  | succ m ih =>
    intro s H I ⟨gs, hgs, go1⟩
    have pa : s.heap.get? a = some go := (I.pin (a, go) (List.mem_append_right _ (List.mem_singleton.mpr rfl))).1
    have hgl : g < s.gens.size := (Array.getElem?_eq_some_iff.mp hgs).1
    refine codeAny_builtin F.entry_any_loop ?_
    rw [Around.under_plainId F.plain_any_loop _]
    show wpAny _ A.in1 (pyNext (.ref a) >>= _) _ _ s
    refine wpAny_bind (wpAny_gsz (n := g + 1) hgl (wpAny_pyNext_genexpQ (A := A.in1) (P := fun n s₀ s₁ => ∃ H', Inv Xg [(a, go)] σ0 H' s₁ ∧ Q (.bl false) H') hh I.nolimit hd (hgo _ pa) hgs go1 (fun v s1 gs' hb hv => ?_) (fun s1 hp h' hk => ?_)))
    · intro hsz
      obtain ⟨c, H1, rfl, I1, q1⟩ := hv
      have I2 := Inv.slp I1 (s' := s1.setGen g gs') ⟨rfl, allBare_setGen I1.bare hb, rfl⟩
      by_cases hc : c = false
      · rw [if_pos hc] at q1
        subst hc
        refine wpAny_bind (wpAny_holding (wpAny_truthy_bool ?_))
        refine wpAny_bind (wpAny_letGo ?_)
        simp only [Bool.false_eq_true, if_false]
        have hsz1 : g < s1.gens.size := by
          have q : (s1.setGen g gs').gens.size = s1.gens.size := setGen_size _ _ _
          have hsz' : g + 1 ≤ (s1.setGen g gs').gens.size := hsz
          omega
        refine wpAny_pure ⟨plainId_quiet F.plain_any_loop _, ih _ H1 I2 ⟨gs', setGen_at hsz1, ?_⟩⟩
        exact q1 _ ⟨rfl, allBare_setGen (s := s1.setGen g gs') (allBare_setGen I1.bare hb) rfl, rfl⟩
      · rw [if_neg hc] at q1
        have hc' : c = true := by simpa using hc
        subst hc'
        refine wpAny_bind (wpAny_holding (wpAny_truthy_bool ?_))
        refine wpAny_bind (wpAny_letGo ?_)
        simp only [if_true]
        exact wpAny_bind (wpAny_rule (wpAny_pure (hR true H1 _ I2 q1)))
    · intro _
      obtain ⟨H1, I1, q1⟩ := hp
      refine wpAny_bind (wpAny_rule (wpAny_pure (hR false H1 _ ?_ q1)))
      exact I1.call' (ch := []) rfl (Un.kept hk) (I1.hok.kept hk) (allBare_setGen I1.bare rfl) (fun b hb => absurd hb (by simp))
end
end Vf
end
section
set_option Elab.async false
set_option linter.all false
set_option maxRecDepth 100000
set_option maxHeartbeats 4000000
namespace Vf
open PySem PySem.Spec PyProof.Rows L2 GxR GenW
/-- H' is H but for the table at P, which has grown -/
def Tabb (P : Addr) (H H' : Hp) : Prop := ∃ ps more : Array Value, H P = some (.tbl ps) ∧ TriplesOk ps.toList ∧ TriplesOk (ps ++ more).toList ∧ H' = upd H P (.tbl (ps ++ more))
section
variable {X : Cx} {pins : List (Addr × Obj)} {σ : L2.St} {H : Hp} {s : Shared}
/-- a generator that has been made -/
structure GM (X : Cx) (pins : List (Addr × Obj)) (σ : L2.St) (own : List Nat) (elt iter : Expr) (ifs : List Expr) (x : Str) (px gpos : Pos) (scope : Scope) (J : It) (H4 : Hp) (a : Addr) (s5 : Shared) (s4 : Shared) (genv : Env) (fp : List Addr) (tn : Nat → Heap → Prop) (it : Addr) (go : Obj) (g : Nat) : Prop where
  outer : Inv X pins σ H4 s4
  inner : ∀ A : Around, A.handled = none → A.frames = some (genv :: X.stack) → Inv (gcx X A s4 H4 genv fp) [(a, go)] (wipe σ own) H4 s5
  turn : Turn X.prog X.w X.K (.Name x px) J fp it tn
  at0 : tn 0 s5.heap
  fpo : ∀ b ∈ fp, FpOk X pins H4 b
  gen : ∀ h : Heap, h.get? a = some go → h.IsGen a g
  fresh : s5.gens[g]? = some (.fresh (.compStart (.GeneratorExp elt [⟨.Name x px, iter, ifs, 0⟩] scope gpos) 0 (.ref it) .none genv))
  env : ∃ C code, genv = genEnv scope (cloFrom X.env.cells scope.names []) C code builtinsNs X.env
  nfp : a ∉ fp
theorem gen_mk {c P : Addr} {elt iter : Expr} {ifs : List Expr} {x : Str} {px gpos : Pos} {scope : Scope} {own : List Nat} {wi : TI} {k : Nat} {R : It → Hp → Prop}
    (hr : Room k X.A) (TB : TabB X.base X.mg c P) (hcode : X.env.code = .ref c) (ok : GOk X.N X.env.scope scope x own) (hi : PI X (.Name x px) iter wi)
    (hs : ∀ v, genFold iter X.env v = pure v) (I : Inv X pins σ H s) (h : wi σ H fun J H1 => TabG H1 P ∧ ∀ H2, Tabb P H1 H2 → R J H2) :
    wpAny (model X.prog X.w) X.A (eval (.GeneratorExp elt [⟨.Name x px, iter, ifs, 0⟩] scope gpos) X.env)
      (fun gv s5 => ∃ J H4 a s4 genv fp tn it go g, gv = .ref a ∧ R J H4 ∧ GM X pins σ own elt iter ifs x px gpos scope J H4 a s5 s4 genv fp tn it go g) X.xe s := by
  have hfree : ∀ y ∈ scope.names, y.2 = .free → ∃ c, X.env.cells.lookup y.1 = some c := fun y hy e => by
    rcases ok.free y hy e with k | k
    · exact I.ok.has _ (.inl k)
    · exact I.ok.has _ (.inr k)
  refine wpAny_GeneratorExp_make ok.co (closure_ok hfree) ok.cell ok.dot ok.kind (by have := hr.dp; omega) ?_ hs
  refine thn (hi.run pins s σ H _ I h) fun xv s1 hx => thn hx fun itv s2 h2 => ?_
  obtain ⟨it, fp, tn, J, H2, e, I2, T, st2, f2, ⟨ps, hP, ht⟩, hR⟩ := h2
  subst e
  refine ⟨I2.nolimit, ?_⟩
  have oP : s2.heap.get? P = some { cls := .none, data := .fields ps } := I2.hok P _ hP
  have nPfp : ∀ b ∈ fp, b ≠ P := fun b hb z => by
    have q := (f2 b hb).1
    rw [z, hP] at q
    cases q
  have cd : PySem.W.CodeHd s2.heap c P := TB.code.keeps I2.bk
  have fin : ∀ (code : Value) (h3 : Heap) (tk : Nat) (ps' : Array Value), Heap.ExtBut P s2.heap h3 → h3.get? P = some { cls := .none, data := .fields ps' } → (∃ more, ps' = ps ++ more) → TriplesOk ps'.toList →
      wpAny (model X.prog X.w) X.A (builtinsFor X.env.globals X.env.builtins) (fun bi s4 => ∀ h' : Heap, h'.Ns s4.heap.objs.size (fun y => if y = (".0" : Str) then some (.ref it) else none) →
        Heap.SameBut s4.heap.objs.size (s4.heap.push { cls := .type "frame", data := .dict #[] }) h' →
        ∃ J H4 a s4' genv fp tn it' go g, (Value.ref h'.objs.size) = .ref a ∧ R J H4 ∧ GM X pins σ own elt iter ifs x px gpos scope J H4 a { s4 with
            gens := s4.gens.push (.fresh (.compStart (.GeneratorExp elt [⟨.Name x px, iter, ifs, 0⟩] scope gpos) 0 (.ref it) .none (genEnv scope (cloFrom X.env.cells scope.names []) s4.heap.objs.size code bi X.env))), toks := s4.toks + 1 + 1 + 1,
            heap := h'.push { cls := .type "generator", data := .fields #[.int s4.gens.size 0, .str "<genexpr>" (s4.toks + 1), .str (X.env.qual ++ "<genexpr>") (s4.toks + 1 + 1)] } } s4' genv fp tn it' go g) X.xe { s2 with heap := h3, toks := tk } := by
    intro code h3 tk ps' hx hP3 ⟨more, em⟩ ht3
    obtain ⟨bm, ob, e1, e2, e3, e4, e5, e6, e7, e8⟩ := TB.bm
    have kp3 : ∀ b u, b ≠ P → s2.heap.get? b = some u → h3.get? b = some u := fun b u hb q => hx b u hb q
    refine wpAny_builtinsFor (m := X.mg) (by rw [I2.ok.glob]; exact (I2.mod.glob.keeps I2.bk).extBut hx TB.gP) e1 e2 (kp3 _ _ e4 (I2.bk _ _ e5)) e6 e7 e8 ?_
    have I3 : Inv X pins σ (upd H2 P (.tbl ps')) { s2 with heap := h3, toks := tk } := by
      subst em
      exact inv_tab (g' := s2.gens) (d' := s2.drawn) I2 hP kp3 hP3 I2.bare
    generalize hs3 : ({ s2 with heap := h3, toks := tk } : Shared) = s3 at I3
    have eh3 : s3.heap = h3 := by rw [← hs3]
    have st3 : tn 0 s3.heap := by
      rw [eh3]
      exact T.keep _ _ _ st2 fun b hb o e => kp3 b o (nPfp b hb) e
    have f3 : ∀ b ∈ fp, FpOk X pins (upd H2 P (.tbl ps')) b := fun b hb => ⟨by rw [upd_ne (nPfp b hb)]; exact (f2 b hb).1, (f2 b hb).2⟩
    have sz3 : ∀ b ∈ fp, b < s3.heap.objs.size := fun b hb => by
      obtain ⟨o, e, _⟩ := T.obj _ _ st3 b hb
      exact Heap.lt_size e
    intro h' hn' hs'
    have hsz : h'.objs.size = s3.heap.objs.size + 1 := by rw [hs'.1, Heap.size_push]
    have k' : ∀ b o, s3.heap.get? b = some o → h'.get? b = some o := fun b o e => hs'.extBut b o (Nat.ne_of_lt (Heap.lt_size e)) (Heap.get?_push_of_some _ e)
    have gp : ∀ h : Heap, (h.push ({ cls := .type "generator", data := .fields #[.int s3.gens.size 0, .str "<genexpr>" (s3.toks + 1), .str (X.env.qual ++ "<genexpr>") (s3.toks + 1 + 1)] } : Obj)).get? h.objs.size = some ({ cls := .type "generator", data := .fields #[.int s3.gens.size 0, .str "<genexpr>" (s3.toks + 1), .str (X.env.qual ++ "<genexpr>") (s3.toks + 1 + 1)] } : Obj) := fun h => Heap.get?_push_size _ rfl
    have gfd : ∃ nm qn, ({ cls := .type "generator", data := .fields #[.int s3.gens.size 0, .str "<genexpr>" (s3.toks + 1), .str (X.env.qual ++ "<genexpr>") (s3.toks + 1 + 1)] } : Obj).cls = .type "generator" ∧ ({ cls := .type "generator", data := .fields #[.int s3.gens.size 0, .str "<genexpr>" (s3.toks + 1), .str (X.env.qual ++ "<genexpr>") (s3.toks + 1 + 1)] } : Obj).data = .fields #[.int s3.gens.size 0, nm, qn] ∧ ({ cls := .type "generator", data := .fields #[.int s3.gens.size 0, .str "<genexpr>" (s3.toks + 1), .str (X.env.qual ++ "<genexpr>") (s3.toks + 1 + 1)] } : Obj).slots = #[] := ⟨_, _, rfl, rfl, rfl⟩
    generalize ({ cls := .type "generator", data := .fields #[.int s3.gens.size 0, .str "<genexpr>" (s3.toks + 1), .str (X.env.qual ++ "<genexpr>") (s3.toks + 1 + 1)] } : Obj) = go at gp gfd ⊢
    obtain ⟨nm, qn, g1, g2, g3⟩ := gfd
    have ga : (h'.push go).get? h'.objs.size = some go := gp h'
    have k5 : ∀ b o, s3.heap.get? b = some o → (h'.push go).get? b = some o := fun b o e => Heap.get?_push_of_some _ (k' b o e)
    have bare5 : AllBare (s3.gens.push (.fresh (.compStart (.GeneratorExp elt [⟨.Name x px, iter, ifs, 0⟩] scope gpos) 0 (.ref it) .none (genEnv scope (cloFrom X.env.cells scope.names []) s3.heap.objs.size code builtinsNs X.env)))) := I3.bare.push rfl
    refine ⟨J, upd H2 P (.tbl ps'), h'.objs.size, s3, genEnv scope (cloFrom X.env.cells scope.names []) s3.heap.objs.size code builtinsNs X.env, fp, tn, it, go, s3.gens.size, rfl, hR _ (by subst em; exact ⟨ps, more, hP, ht, ht3, rfl⟩), I3, ?_, T, ?_, f3, ?_, ?_, ⟨s3.heap.objs.size, code, rfl⟩, ?_⟩
    · intro A hA hAf
      exact gen_start (h' := h') hA hAf I3 ok (fun b hb => ⟨f3 b hb, sz3 b hb⟩) k5 (hn'.push _) bare5 (by rw [hsz]; exact Nat.lt_succ_self _) ga (fun v q => by rw [g2] at q; cases q)
    · exact T.keep _ _ _ st3 fun b _ o e => k5 b o e
    · intro h e
      exact ⟨go, nm, qn, e, g1, g2, g3⟩
    · exact Array.getElem?_push_size ..
    · intro z
      have q : h'.objs.size < s3.heap.objs.size := sz3 h'.objs.size z
      rw [hsz] at q
      exact absurd q (Nat.not_lt.mpr (Nat.le_succ _))
  cases hf : codeAmong gpos ps.toList with
  | none =>
    refine wpAny_genexprCodeX hcode (cd.code oP ht) (cd.tab oP) hf fun c' h' tk hx hge hlt hco' _ htab' _ => ?_
    obtain ⟨o1, vs, f1, tf, fl, tg, inF, tx, tt, op, _, _, _, _, _, _, _, _, _, htr, _⟩ := hco'
    exact fin _ h' tk _ hx htab'.2 ⟨_, rfl⟩ htr
  | some cv =>
    refine wpAny_genexprCode_hit hcode (cd.code oP ht) hf ?_
    exact fin cv s2.heap s2.toks ps (Heap.ExtBut.refl _ _) oP ⟨#[], by simp⟩ ht

/-- any (cont false), all (cont true) of (elt for x in iter if ..) -/
def tGen (cont : Bool) (P : Addr) (wi : TI) (j : Nat) (own : List Nat) (tt : TT) (te : TE) : TE := fun σ H Q =>
  wi σ H fun J H1 => TabG H1 P ∧ ∀ H2, Tabb P H1 H2 → ∃ W : Nat → Nat → Hp → Prop, (∃ m, W 0 m H2) ∧ Turns cont j (wipe σ own) tt te J Q W
theorem wipe_own {σ : L2.St} {own : List Nat} {j : Nat} (hj : j ∈ own) : ∀ v, (wipe σ own)[j]? ≠ some (some v) := fun v e => (wipe_some e).2 hj
section
variable {c P : Addr} {elt iter : Expr} {ifs : List Expr} {x : Str} {px p pos gpos : Pos} {scope : Scope} {own : List Nat} {wi : TI} {tt : TT} {te : TE} {k j : Nat}
theorem gen_room {A : Around} {genv : Env} (hr : Room (k + 1) A) : Room k (A.in1.in1.deeper genv) :=
  ⟨hr.hd, by have := hr.dp; show A.depth + 1 + 3 * k + 5 < _; omega, by have := hr.un; show A.units + 1 + 1 + 3 + 16 * k + 200 < _; omega⟩
theorem pe_allL (hr : Room (k + 1) X.A) (hg : Gl X "all") (hm : X.mg "all" = none) (hb : bootBuiltins "all" = some (.builtin "all")) (TB : TabB X.base X.mg c P) (hcode : X.env.code = .ref c) (ok : GOk X.N X.env.scope scope x own) (hN : X.N.Nodup) (hj : X.N[j]? = some x) (hjo : j ∈ own) (hi : PI X (.Name x px) iter wi)
    (ht : ∀ (A : Around) (s : Shared) (H : Hp) (C : Addr) (code : Value) (fp : List Addr), Room k A → PTs (gcx X A s H (genEnv scope (cloFrom X.env.cells scope.names []) C code builtinsNs X.env) fp) ifs tt)
    (hel : ∀ (A : Around) (s : Shared) (H : Hp) (C : Addr) (code : Value) (fp : List Addr), Room k A → PE (gcx X A s H (genEnv scope (cloFrom X.env.cells scope.names []) C code builtinsNs X.env) fp) elt te)
    (hs : ∀ v, genFold iter X.env v = pure v := by intro _; rfl)
    (he : starEach [.GeneratorExp elt [⟨.Name x px, iter, ifs, 0⟩] scope gpos] X.env = (false, eval (.GeneratorExp elt [⟨.Name x px, iter, ifs, 0⟩] scope gpos) X.env) :: starEach [] X.env := by rfl) :
    PE X (.Call (.Name "all" p) [.GeneratorExp elt [⟨.Name x px, iter, ifs, 0⟩] scope gpos] [] pos) (tGen true P wi j own tt te) := by
  refine ⟨fun pins s σ H Q I h => ?_⟩
  refine wpAny_Call_Name_kw (ld_blt I hg hm hb ?_)
  refine PyProof.Rows.callWith_builtin1 ?_ he (by rfl)
  rw [he]
  show wpAny _ _ (spliced ((false, eval (.GeneratorExp elt [⟨.Name x px, iter, ifs, 0⟩] scope gpos) X.env) :: backTo pos (starEach [] X.env))) _ _ s
  refine Calls.spliced_cons (thn (gen_mk (R := fun J H2 => ∃ W : Nat → Nat → Hp → Prop, (∃ m, W 0 m H2) ∧ Turns true j (wipe σ own) tt te J Q W) hr TB hcode ok hi hs I h) fun gv s5 ⟨J, H4, a, s4, genv, fp, tn, it, go, g, e, ⟨W, ⟨m, w0⟩, tu⟩, G⟩ => ?_)
  subst e
  refine Calls.spliced_nil ?_
  obtain ⟨C, code, eg⟩ := G.env
  have hAh : (X.A.in1.in1.deeper genv).handled = none := hr.hd
  have hAf : (X.A.in1.in1.deeper genv).frames = some (genv :: X.stack) := Around.frames_deeper (A := X.A.in1.in1) I.ok.frames
  have Ig := G.inner _ hAh hAf
  have room : Room k (X.A.in1.in1.deeper genv) := gen_room hr
  have pgx : PG (gcx X (X.A.in1.in1.deeper genv) s4 H4 genv fp) (.Name x px) (gName j) := pg_name (X := gcx X (X.A.in1.in1.deeper genv) s4 H4 genv fp) hN hj (.inl (by subst eg; exact ok.loc)) (.inr (by subst eg; exact ok.loc))
  have pa : s5.heap.get? a = some go := (Ig.pin (a, go) (List.mem_append_right _ (List.mem_singleton.mpr rfl))).1
  refine call_function_tree F.kind_all F.plain_all F.entry_all (F.args_all1 _) ?_
  unfold Builtin.«all»
  refine wpAny_bind (m := oneArg "all" _) (wpAny_pure ?_)
  refine wpAny_bind (wpAny_pyIter_gen (G.gen _ pa) ?_)
  refine wpAny_pure ⟨plainId_quiet F.plain_all_loop _, ?_⟩
  refine all_loop (Xg := gcx X (X.A.in1.in1.deeper genv) s4 H4 genv fp) (A := X.A) (σ0 := wipe σ own) (Q := Q) hr.hd (by have := hr.dp; omega) G.gen (fun b H' s' Ig' q => ?_) (m + 1) s5 H4 Ig ⟨_, G.fresh, rfl, ?_⟩
  · exact ⟨.bl b, H', G.outer.call' (ch := fp) Ig'.os Ig'.base Ig'.hok Ig'.bare fun b hb => ⟨(G.fpo b hb).2.2.2.1, (G.fpo b hb).2.1, (G.fpo b hb).2.2.2.2.1, (G.fpo b hb).2.2.2.2.2⟩, rfl, q⟩
  · have Ig2 := Inv.slp Ig (s' := s5.setGen g .running) ⟨rfl, allBare_setGen Ig.bare rfl, rfl⟩
    refine seg_gst (Xg := gcx X (X.A.in1.in1.deeper genv) s4 H4 genv fp) (A := X.A.in1.in1) rfl G.turn G.at0 ?_
    refine seg_gl (Xg := gcx X (X.A.in1.in1.deeper genv) s4 H4 genv fp) (A := X.A.in1.in1) rfl rfl G.turn rfl rfl (fun p hp => by rw [List.mem_singleton.mp hp]; exact G.nfp) pgx (by subst eg; exact ht _ s4 H4 C code fp room) (by subst eg; exact hel _ s4 H4 C code fp room) (wipe_own hjo) (by subst eg; exact ok.co) rfl tu m (m + 1) 0 _ _ H4 (Nat.lt_succ_self _) Ig2 G.at0 (fun b hb => (G.fpo b hb).1) w0
theorem pe_anyL (hr : Room (k + 1) X.A) (hg : Gl X "any") (hm : X.mg "any" = none) (TB : TabB X.base X.mg c P) (hcode : X.env.code = .ref c) (ok : GOk X.N X.env.scope scope x own) (hN : X.N.Nodup) (hj : X.N[j]? = some x) (hjo : j ∈ own) (hi : PI X (.Name x px) iter wi)
    (ht : ∀ (A : Around) (s : Shared) (H : Hp) (C : Addr) (code : Value) (fp : List Addr), Room k A → PTs (gcx X A s H (genEnv scope (cloFrom X.env.cells scope.names []) C code builtinsNs X.env) fp) ifs tt)
    (hel : ∀ (A : Around) (s : Shared) (H : Hp) (C : Addr) (code : Value) (fp : List Addr), Room k A → PE (gcx X A s H (genEnv scope (cloFrom X.env.cells scope.names []) C code builtinsNs X.env) fp) elt te)
    (hs : ∀ v, genFold iter X.env v = pure v := by intro _; rfl)
    (he : starEach [.GeneratorExp elt [⟨.Name x px, iter, ifs, 0⟩] scope gpos] X.env = (false, eval (.GeneratorExp elt [⟨.Name x px, iter, ifs, 0⟩] scope gpos) X.env) :: starEach [] X.env := by rfl) :
    PE X (.Call (.Name "any" p) [.GeneratorExp elt [⟨.Name x px, iter, ifs, 0⟩] scope gpos] [] pos) (tGen false P wi j own tt te) := by
  refine ⟨fun pins s σ H Q I h => ?_⟩
  refine wpAny_Call_Name_kw (ld_blt I hg hm boot_any ?_)
  refine PyProof.Rows.callWith_builtin1 ?_ he (by rfl)
  rw [he]
  show wpAny _ _ (spliced ((false, eval (.GeneratorExp elt [⟨.Name x px, iter, ifs, 0⟩] scope gpos) X.env) :: backTo pos (starEach [] X.env))) _ _ s
  refine Calls.spliced_cons (thn (gen_mk (R := fun J H2 => ∃ W : Nat → Nat → Hp → Prop, (∃ m, W 0 m H2) ∧ Turns false j (wipe σ own) tt te J Q W) hr TB hcode ok hi hs I h) fun gv s5 ⟨J, H4, a, s4, genv, fp, tn, it, go, g, e, ⟨W, ⟨m, w0⟩, tu⟩, G⟩ => ?_)
  subst e
  refine Calls.spliced_nil ?_
  obtain ⟨C, code, eg⟩ := G.env
  have hAh : (X.A.in1.in1.deeper genv).handled = none := hr.hd
  have hAf : (X.A.in1.in1.deeper genv).frames = some (genv :: X.stack) := Around.frames_deeper (A := X.A.in1.in1) I.ok.frames
  have Ig := G.inner _ hAh hAf
  have room : Room k (X.A.in1.in1.deeper genv) := gen_room hr
  have pgx : PG (gcx X (X.A.in1.in1.deeper genv) s4 H4 genv fp) (.Name x px) (gName j) := pg_name (X := gcx X (X.A.in1.in1.deeper genv) s4 H4 genv fp) hN hj (.inl (by subst eg; exact ok.loc)) (.inr (by subst eg; exact ok.loc))
  have pa : s5.heap.get? a = some go := (Ig.pin (a, go) (List.mem_append_right _ (List.mem_singleton.mpr rfl))).1
  refine call_function_tree F.kind_any F.plain_any F.entry_any (F.args_any1 _) ?_
  unfold Builtin.«any»
  refine wpAny_bind (m := oneArg "any" _) (wpAny_pure ?_)
  refine wpAny_bind (wpAny_pyIter_gen (G.gen _ pa) ?_)
  refine wpAny_pure ⟨plainId_quiet F.plain_any_loop _, ?_⟩
  refine any_loop (Xg := gcx X (X.A.in1.in1.deeper genv) s4 H4 genv fp) (A := X.A) (σ0 := wipe σ own) (Q := Q) hr.hd (by have := hr.dp; omega) G.gen (fun b H' s' Ig' q => ?_) (m + 1) s5 H4 Ig ⟨_, G.fresh, rfl, ?_⟩
  · exact ⟨.bl b, H', G.outer.call' (ch := fp) Ig'.os Ig'.base Ig'.hok Ig'.bare fun b hb => ⟨(G.fpo b hb).2.2.2.1, (G.fpo b hb).2.1, (G.fpo b hb).2.2.2.2.1, (G.fpo b hb).2.2.2.2.2⟩, rfl, q⟩
  · have Ig2 := Inv.slp Ig (s' := s5.setGen g .running) ⟨rfl, allBare_setGen Ig.bare rfl, rfl⟩
    refine seg_gst (Xg := gcx X (X.A.in1.in1.deeper genv) s4 H4 genv fp) (A := X.A.in1.in1) rfl G.turn G.at0 ?_
    refine seg_gl (Xg := gcx X (X.A.in1.in1.deeper genv) s4 H4 genv fp) (A := X.A.in1.in1) rfl rfl G.turn rfl rfl (fun p hp => by rw [List.mem_singleton.mp hp]; exact G.nfp) pgx (by subst eg; exact ht _ s4 H4 C code fp room) (by subst eg; exact hel _ s4 H4 C code fp room) (wipe_own hjo) (by subst eg; exact ok.co) rfl tu m (m + 1) 0 _ _ H4 (Nat.lt_succ_self _) Ig2 G.at0 (fun b hb => (G.fpo b hb).1) w0
end
end
end Vf
end
section
set_option Elab.async false
set_option linter.all false
set_option maxRecDepth 100000
set_option maxHeartbeats 4000000
/-! Operators that take what kind they meet; defs by their names; heaps that have only grown. -/
namespace Vf
open PySem PySem.Spec PyProof.Rows L2 GxR GenW

/-! ### one rule an operator -/
section
variable {X : Cx}
structure rAdd (K : PySem.W.Frag) (x y : V) (H : Hp) (Q : VK) : Prop where
  h : (∃ i j, x = .int i ∧ y = .int j ∧ Q (.int (i + j)) H) ∨ (∃ i j, x = .str i ∧ y = .str j ∧ i.length + j.length ≤ sizeLine ∧ Q (.str (i ++ j)) H) ∨ rCat x y H Q ∨ rCatA K x y H Q
theorem u_add {K : PySem.W.Frag} (hK : X.K = K) : OpR X (binaryOp .Add) (rAdd K) := by
  subst hK
  exact fun pins s σ H x y v u Q I rx ry h => (OpR.or op_add (OpR.or op_add_str (OpR.or op_cat op_catA))) pins s σ H x y v u Q I rx ry h.h
structure rMd (x y : V) (H : Hp) (Q : VK) : Prop where
  h : ∃ i j, x = .int i ∧ y = .int j ∧ j ≠ 0 ∧ Q (.int (i.fmod j)) H
theorem u_mod : OpR X (binaryOp .Mod) rMd := fun pins s σ H x y v u Q I rx ry h => op_modN pins s σ H x y v u Q I rx ry h.h
structure rPw (x y : V) (H : Hp) (Q : VK) : Prop where
  h : ∃ i j, x = .int i ∧ y = .int j ∧ CPow i j ∧ Q (.int (i ^ j.toNat)) H
theorem u_pow : OpR X (binaryOp .Pow) rPw := fun pins s σ H x y v u Q I rx ry h => op_pow pins s σ H x y v u Q I rx ry h.h
structure rGe (x y : V) (H : Hp) (Q : VK) : Prop where
  h : ∃ i j, x = .int i ∧ y = .int j ∧ Q (.bl (decide (j ≤ i))) H
theorem u_ge : OpR X (compareOp .GtE) rGe := fun pins s σ H x y v u Q I rx ry h => op_ge pins s σ H x y v u Q I rx ry h.h
structure rGt (x y : V) (H : Hp) (Q : VK) : Prop where
  h : ∃ i j, x = .int i ∧ y = .int j ∧ Q (.bl (decide (j < i))) H
theorem u_gt : OpR X (compareOp .Gt) rGt := fun pins s σ H x y v u Q I rx ry h => op_gt pins s σ H x y v u Q I rx ry h.h
structure rSb (x y : V) (H : Hp) (Q : VK) : Prop where
  h : ∃ i j, x = .int i ∧ y = .int j ∧ Q (.int (i - j)) H
theorem u_sub : OpR X (binaryOp .Sub) rSb := fun pins s σ H x y v u Q I rx ry h => op_sub pins s σ H x y v u Q I rx ry h.h
structure rFd (x y : V) (H : Hp) (Q : VK) : Prop where
  h : (∃ i j, x = .int i ∧ y = .int j ∧ CDivN i j ∧ Q (.int (i.fdiv j)) H) ∨ (∃ i j, x = .int i ∧ y = .int j ∧ CDivW i j ∧ Q (.int (i / j)) H)
theorem u_fdiv : OpR X (binaryOp .FloorDiv) rFd := fun pins s σ H x y v u Q I rx ry h => (OpR.or op_fdivN op_fdivW) pins s σ H x y v u Q I rx ry h.h
structure rMu (K : PySem.W.Frag) (x y : V) (H : Hp) (Q : VK) : Prop where
  h : (∃ i j, x = .int i ∧ y = .int j ∧ CMul i j ∧ Q (.int (i * j)) H) ∨ (∃ i j, x = .int i ∧ y = .int j ∧ CMulW i j ∧ Q (.int (i * j)) H) ∨ rRep x y H Q ∨ rRepT K x y H Q
theorem u_mul {K : PySem.W.Frag} (hK : X.K = K) : OpR X (binaryOp .Mult) (rMu K) := by
  subst hK
  exact fun pins s σ H x y v u Q I rx ry h => (OpR.or op_mul (OpR.or op_mulW (OpR.or op_rep op_repT))) pins s σ H x y v u Q I rx ry h.h
structure rEqU (K : PySem.W.Frag) (x y : V) (H : Hp) (Q : VK) : Prop where
  h : rEq x y H Q ∨ rEqD K x y H Q
theorem u_eq {K : PySem.W.Frag} (hK : X.K = K) (hu : X.A.units + 64 < cLine) : OpR X (compareOp .Eq) (rEqU K) := by
  subst hK
  exact fun pins s σ H x y v u Q I rx ry h => (OpR.or op_eq (op_eqD hu)) pins s σ H x y v u Q I rx ry h.h
structure rNeU (K : PySem.W.Frag) (x y : V) (H : Hp) (Q : VK) : Prop where
  h : rNe x y H Q ∨ rNeD K x y H Q
theorem u_ne {K : PySem.W.Frag} (hK : X.K = K) (hu : X.A.units + 64 < cLine) : OpR X (compareOp .NotEq) (rNeU K) := by
  subst hK
  exact fun pins s σ H x y v u Q I rx ry h => (OpR.or op_ne (op_neD hu)) pins s σ H x y v u Q I rx ry h.h
structure rLtU (x y : V) (H : Hp) (Q : VK) : Prop where
  h : (∃ i j, x = .int i ∧ y = .int j ∧ Q (.bl (decide (i < j))) H) ∨ (∃ i j, x = .str i ∧ y = .str j ∧ Q (.bl (decide (i.cps.toList < j.cps.toList))) H)
theorem u_lt : OpR X (compareOp .Lt) rLtU := fun pins s σ H x y v u Q I rx ry h => (OpR.or op_lt op_lt_str) pins s σ H x y v u Q I rx ry h.h
structure rLeU (x y : V) (H : Hp) (Q : VK) : Prop where
  h : (∃ i j, x = .int i ∧ y = .int j ∧ Q (.bl (decide (i ≤ j))) H) ∨ (∃ i j, x = .str i ∧ y = .str j ∧ Q (.bl (!decide (j.cps.toList < i.cps.toList))) H)
theorem u_le : OpR X (compareOp .LtE) rLeU := fun pins s σ H x y v u Q I rx ry h => (OpR.or op_le op_le_str) pins s σ H x y v u Q I rx ry h.h
structure rInU (K : PySem.W.Frag) (x y : V) (H : Hp) (Q : VK) : Prop where
  h : (∃ i j, x = .str i ∧ y = .str j ∧ Q (.bl (!(Builtin.Str.occurrences j i 0 j.length 1).isEmpty)) H) ∨ (∃ (c : Nat) (z : Str), x = .str ⟨#[c]⟩ ∧ y = .str z ∧ Q (.bl (decide (c ∈ z.cps.toList))) H) ∨ rIn K false x y H Q
theorem u_in {K : PySem.W.Frag} (hK : X.K = K) : OpR X (compareOp .In) (rInU K) := by
  subst hK
  exact fun pins s σ H x y v u Q I rx ry h => (OpR.or op_in_str (OpR.or op_in_sign op_in_seq)) pins s σ H x y v u Q I rx ry h.h
structure rNiU (K : PySem.W.Frag) (x y : V) (H : Hp) (Q : VK) : Prop where
  h : (∃ i j, x = .str i ∧ y = .str j ∧ Q (.bl (!(!(Builtin.Str.occurrences j i 0 j.length 1).isEmpty))) H) ∨ (∃ (c : Nat) (z : Str), x = .str ⟨#[c]⟩ ∧ y = .str z ∧ Q (.bl (!decide (c ∈ z.cps.toList))) H) ∨ rIn K true x y H Q
theorem u_ni {K : PySem.W.Frag} (hK : X.K = K) : OpR X (compareOp .NotIn) (rNiU K) := by
  subst hK
  exact fun pins s σ H x y v u Q I rx ry h => (OpR.or op_notin_str (OpR.or op_notIn_sign op_notIn_seq)) pins s σ H x y v u Q I rx ry h.h
structure rSlU (K : PySem.W.Frag) (x : V) (lo hi : Option Int) (H : Hp) (Q : VK) : Prop where
  h : rSlL K x lo hi H Q ∨ rSlA K x lo hi H Q ∨ rSlS x lo hi H Q
theorem u_sl {K : PySem.W.Frag} (hK : X.K = K) : SlR X (rSlU K) := by
  subst hK
  exact fun pins s σ H x v vl vu lo hi sl Q I rx hs pl pu h => (SlR.or sl_list (SlR.or sl_tupA sl_str)) pins s σ H x v vl vu lo hi sl Q I rx hs pl pu h.h
structure rIxU (K : PySem.W.Frag) (x y : V) (H : Hp) (Q : VK) : Prop where
  h : rIx K x y H Q
theorem u_ix {K : PySem.W.Frag} (hK : X.K = K) : IxR X (rIxU K) := by
  subst hK
  exact fun a b pins s σ H x y v u Q I rx ry h hs => ix_seq a b pins s σ H x y v u Q I rx ry h.h hs
end

/-! ### their answers -/
section
variable {K : PySem.W.Frag} {H : Hp} {Q : VK}
theorem a_ii {i j : Int} (q : Q (.int (i + j)) H) : rAdd K (.int i) (.int j) H Q := ⟨.inl ⟨_, _, rfl, rfl, q⟩⟩
theorem a_ss {i j : Str} (h : i.length + j.length ≤ sizeLine) (q : Q (.str (i ++ j)) H) : rAdd K (.str i) (.str j) H Q := ⟨.inr (.inl ⟨_, _, rfl, rfl, h, q⟩)⟩
theorem a_ll {l b : Addr} {xs zs : List V} (h1 : H l = some (.lst xs)) (h2 : H b = some (.lst zs)) (h : xs.length + zs.length ≤ sizeLine) (q : ∀ p, H p = none → Q (.ref p) (upd H p (.lst (xs ++ zs)))) : rAdd K (.ref l) (.ref b) H Q := ⟨.inr (.inr (.inl ⟨_, _, _, _, rfl, rfl, h1, h2, h, q⟩))⟩
theorem a_tt {a b : Addr} {xs ys : List V} (h1 : SqT K H a xs) (h2 : SqT K H b ys) (h : xs.length + ys.length ≤ sizeLine) (q1 : xs = [] → Q (.ref b) H) (q2 : xs ≠ [] → ys = [] → Q (.ref a) H) (q3 : xs ≠ [] → ys ≠ [] → ∀ p, H p = none → Q (.ref p) (upd H p (.tup (xs ++ ys)))) : rAdd K (.ref a) (.ref b) H Q := ⟨.inr (.inr (.inr ⟨_, _, _, _, rfl, rfl, h1, h2, h, q1, q2, q3⟩))⟩
theorem m_ii {i j : Int} (h : CMul i j) (q : Q (.int (i * j)) H) : rMu K (.int i) (.int j) H Q := ⟨.inl ⟨_, _, rfl, rfl, h, q⟩⟩
theorem m_tt {l : Addr} {k : Int} {xs : List V} (h1 : SqT K H l xs) (h2 : xs ≠ []) (h3 : 2 ≤ k) (h4 : k ≤ 1000) (h5 : xs.length ≤ 1000) (q : ∀ p, H p = none → Q (.ref p) (upd H p (.tup (List.replicate k.toNat xs).flatten))) : rMu K (.ref l) (.int k) H Q := ⟨.inr (.inr (.inr ⟨_, _, _, rfl, rfl, h1, h2, h3, h4, h5, q⟩))⟩
theorem md_ii {i j : Int} (h : j ≠ 0) (q : Q (.int (i.fmod j)) H) : rMd (.int i) (.int j) H Q := ⟨_, _, rfl, rfl, h, q⟩
theorem pw_ii {i j : Int} (h : CPow i j) (q : Q (.int (i ^ j.toNat)) H) : rPw (.int i) (.int j) H Q := ⟨_, _, rfl, rfl, h, q⟩
theorem ge_ii {i j : Int} (q : Q (.bl (decide (j ≤ i))) H) : rGe (.int i) (.int j) H Q := ⟨_, _, rfl, rfl, q⟩
theorem gt_ii {i j : Int} (q : Q (.bl (decide (j < i))) H) : rGt (.int i) (.int j) H Q := ⟨_, _, rfl, rfl, q⟩
theorem sb_ii {i j : Int} (q : Q (.int (i - j)) H) : rSb (.int i) (.int j) H Q := ⟨_, _, rfl, rfl, q⟩
theorem f_ii {i j : Int} (h : CDivN i j) (q : Q (.int (i.fdiv j)) H) : rFd (.int i) (.int j) H Q := ⟨.inl ⟨_, _, rfl, rfl, h, q⟩⟩
theorem e_flat {x y : V} (h : scal x y = true) (q : Q (.bl (decide (x = y))) H) : rEqU K x y H Q := ⟨.inl ⟨h, q⟩⟩
theorem e_data {x y : V} {d e : PyData} (h1 : Dp K H x d) (h2 : Dp K H y e) (h3 : SeqAt.shaped d = true) (h4 : SeqAt.shaped e = true) (q : Q (.bl (PyData.eqv d e)) H) : rEqU K x y H Q := ⟨.inr ⟨_, _, h1, h2, h3, h4, q⟩⟩
theorem n_flat {x y : V} (h : scal x y = true) (q : Q (.bl (!decide (x = y))) H) : rNeU K x y H Q := ⟨.inl ⟨h, q⟩⟩
theorem n_data {x y : V} {d e : PyData} (h1 : Dp K H x d) (h2 : Dp K H y e) (h3 : SeqAt.shaped d = true) (h4 : SeqAt.shaped e = true) (q : Q (.bl (!PyData.eqv d e)) H) : rNeU K x y H Q := ⟨.inr ⟨_, _, h1, h2, h3, h4, q⟩⟩
theorem l_ii {i j : Int} (q : Q (.bl (decide (i < j))) H) : rLtU (.int i) (.int j) H Q := ⟨.inl ⟨_, _, rfl, rfl, q⟩⟩
theorem l_ss {i j : Str} (q : Q (.bl (decide (i.cps.toList < j.cps.toList))) H) : rLtU (.str i) (.str j) H Q := ⟨.inr ⟨_, _, rfl, rfl, q⟩⟩
theorem le_ii {i j : Int} (q : Q (.bl (decide (i ≤ j))) H) : rLeU (.int i) (.int j) H Q := ⟨.inl ⟨_, _, rfl, rfl, q⟩⟩
theorem le_ss {i j : Str} (q : Q (.bl (!decide (j.cps.toList < i.cps.toList))) H) : rLeU (.str i) (.str j) H Q := ⟨.inr ⟨_, _, rfl, rfl, q⟩⟩
theorem in_sign {c : Nat} {z : Str} (q : Q (.bl (decide (c ∈ z.cps.toList))) H) : rInU K (.str ⟨#[c]⟩) (.str z) H Q := ⟨.inr (.inl ⟨_, _, rfl, rfl, q⟩)⟩
theorem ni_sign {c : Nat} {z : Str} (q : Q (.bl (!decide (c ∈ z.cps.toList))) H) : rNiU K (.str ⟨#[c]⟩) (.str z) H Q := ⟨.inr (.inl ⟨_, _, rfl, rfl, q⟩)⟩
theorem in_ss {i j : Str} (q : Q (.bl (!(Builtin.Str.occurrences j i 0 j.length 1).isEmpty)) H) : rInU K (.str i) (.str j) H Q := ⟨.inl ⟨_, _, rfl, rfl, q⟩⟩
theorem ni_ss {i j : Str} (q : Q (.bl (!(!(Builtin.Str.occurrences j i 0 j.length 1).isEmpty))) H) : rNiU K (.str i) (.str j) H Q := ⟨.inl ⟨_, _, rfl, rfl, q⟩⟩
theorem in_seq {x : V} {p : Addr} {xs : List V} (h : SqL K H p xs ∨ SqT K H p xs) (h1 : flatV x = true) (h2 : xs.all flatV = true) (q : Q (.bl (inV x xs)) H) : rInU K x (.ref p) H Q := ⟨.inr (.inr ⟨_, _, rfl, h, h1, h2, q⟩)⟩
theorem ni_seq {x : V} {p : Addr} {xs : List V} (h : SqL K H p xs ∨ SqT K H p xs) (h1 : flatV x = true) (h2 : xs.all flatV = true) (q : Q (.bl (!inV x xs)) H) : rNiU K x (.ref p) H Q := ⟨.inr (.inr ⟨_, _, rfl, h, h1, h2, q⟩)⟩
theorem x_l {p : Addr} {xs : List V} {i : Int} {v : V} (h : SqL K H p xs) (e : atI xs i = some v) (q : Q v H) : rIxU K (.ref p) (.int i) H Q := ⟨.inl ⟨_, _, _, _, rfl, rfl, h, e, q⟩⟩
theorem x_t {p : Addr} {xs : List V} {i : Int} {v : V} (h : SqT K H p xs) (e : atI xs i = some v) (q : Q v H) : rIxU K (.ref p) (.int i) H Q := ⟨.inr (.inl ⟨_, _, _, _, rfl, rfl, h, e, q⟩)⟩
theorem x_s {z : Str} {i : Int} {c : Nat} (h : z.length ≤ sizeLine) (e : atI z.cps.toList i = some c) (q : Q (.str ⟨#[c]⟩) H) : rIxU K (.str z) (.int i) H Q := ⟨.inr (.inr ⟨_, _, _, rfl, rfl, h, e, q⟩)⟩
theorem sl_l {a : Addr} {xs : List V} {lo hi : Option Int} (h : SqL K H a xs) (q : ∀ p, H p = none → Q (.ref p) (upd H p (.lst (cutV xs lo hi)))) : rSlU K (.ref a) lo hi H Q := ⟨.inl ⟨_, _, rfl, h, q⟩⟩
theorem sl_t {a : Addr} {xs : List V} {lo hi : Option Int} (h : SqT K H a xs) (q1 : HT.sIx xs.length 0 lo = 0 ∧ HT.sIx xs.length xs.length hi = xs.length → Q (.ref a) H)
    (q2 : ¬ (HT.sIx xs.length 0 lo = 0 ∧ HT.sIx xs.length xs.length hi = xs.length) → ∀ p, H p = none → Q (.ref p) (upd H p (.tup (cutV xs lo hi)))) : rSlU K (.ref a) lo hi H Q := ⟨.inr (.inl ⟨_, _, rfl, h, q1, q2⟩)⟩
end

/-! ### rules with K told apart -/
section
variable {X : Cx} {K : PySem.W.Frag} {tg : Expr}
theorem k_len (hK : X.K = K) : CallR X (.builtin "len") (fun xs H Q => ∃ x n, xs = [x] ∧ LenV K x H n ∧ Q (.int n) H) := by
  subst hK
  exact call_len
theorem k_list {l : Expr} {tl : TE} (hK : X.K = K) (hl : PE X l tl) : PI X tg l (iList K tl) := by
  subst hK
  exact pi_list hl
theorem k_tup {l : Expr} {tl : TE} (hK : X.K = K) (hl : PE X l tl) : PI X tg l (iTup K tl) := by
  subst hK
  exact pi_tup hl
structure rTupU (K : PySem.W.Frag) (x : V) (H : Hp) (Q : VK) : Prop where
  h : kTup K x H Q
theorem k_tuple {a : Expr} {ta : TE} {p pos : Pos} (hK : X.K = K) (hg : Gl X "tuple") (hm : X.mg "tuple" = none) (ha : PE X a ta) (na : starEach [a] X.env = (false, eval a X.env) :: starEach [] X.env := by rfl) :
    PE X (.Call (.Name "tuple" p) [a] [] pos) (fun σ H Q => ta σ H fun x H1 => rTupU K x H1 Q) := by
  subst hK
  refine ⟨fun pins s σ H Q I h => Call_ (ld_blt I hg hm boot_tuple (PyProof.Rows.callWith_type1 ?_ na))⟩
  exact one_arg ha I h (fun v s2 x H2 I2 r q => rl_tuple pins s2 σ H2 x v Q I2 r q.h) na
theorem k_join {o e : Expr} {to te : TE} {apos pos : Pos} (hK : X.K = K) (ho : PE X o to) (he : PE X e te) (hs : starEach [e] X.env = [(false, eval e X.env)] := by rfl) (hbase : attributeBase o "join" X.env (eval o X.env) = eval o X.env := by rfl) (hline : (apos.endLine == pos.line) = true := by rfl) :
    PE X (.Call (.Attribute o "join" apos) [e] [] pos) (tM1 (fun x xs H Q => ∃ a p, ∃ ys : List Str, x = .str a ∧ xs = [.ref p] ∧ (SqL K H p (ys.map V.str) ∨ SqT K H p (ys.map V.str)) ∧
      (ys.map (·.length)).sum + ys.length * a.length ≤ 16777216 ∧ Q (.str (Txt.join a ys)) H) to te) := by
  subst hK
  exact pe_join ho he hs hbase hline
theorem k_any (hK : X.K = K) (hc : X.calm = true) : CallR X (.builtin "any") (rAny K) := by
  subst hK
  exact cr_any hc
theorem k_all (hK : X.K = K) (hc : X.calm = true) : CallR X (.builtin "all") (rAll K) := by
  subst hK
  exact cr_all hc
theorem k_sum (hK : X.K = K) (hc : X.calm = true) : CallR X (.builtin "sum") (rSum K) := by
  subst hK
  exact cr_sum hc
theorem kg_tup {es : List Expr} {k : Nat} {t : TGs} {pos : Pos} (n : Nat) (hK : X.K = K) (hc : X.calm = true) (h : PGs X es t)
    (hn : (assignEach es X.env).length = n := by rfl) (hst : (assignEach es X.env).findIdx? (·.1) = none := by rfl) : PG X (.Tuple es k pos) (gTup K n t) := by
  subst hK
  exact pg_tup hc h hn hst
theorem k_enum {e : Expr} {ta : TA} {p pos tpos : Pos} {elts : List Expr} {kk : Nat} (hK : X.K = K) (hg : Gl X "enumerate") (hm : X.mg "enumerate" = none) (ha : PA X [e] ta) (hs : starEach [e] X.env = [(false, eval e X.env)] := by rfl) :
    PI X (.Tuple elts kk tpos) (.Call (.Name "enumerate" p) [e] [] pos) (iEnum K ta) := by
  subst hK
  exact pi_enum hg hm ha hs
theorem k_zip {e e2 : Expr} {ta : TA} {p pos tpos : Pos} {elts : List Expr} {kk : Nat} (hK : X.K = K) (hg : Gl X "zip") (hm : X.mg "zip" = none) (ha : PA X [e, e2] ta) (hs : starEach [e, e2] X.env = (false, eval e X.env) :: starEach [e2] X.env := by rfl) (hpl : (backTo pos (starEach [e2] X.env)).any (·.1) = false := by rfl) :
    PI X (.Tuple elts kk tpos) (.Call (.Name "zip" p) [e, e2] [] pos) (RZ.iZipA K ta) := by
  subst hK
  exact RZ.pi_zipA hg hm ha hs hpl
end

/-! ### defs by their names -/
/-- the def x of the module keeps the promise sp -/
structure Df (P : Program) (w : World) (K : PySem.W.Frag) (mg : Str → Option Value) (base : Heap) (x : Str) (k : Nat) (ps : List Str) (sp : Sp) : Prop where
  ex : ∃ (f : Addr) (fd : FuncData), FnOk P w K mg base CX0 k f fd ps sp ∧ mg x = some (.ref f) ∧ PySem.W.keepIn K (.ref f) = true ∧ Binds K fd ps []
structure DfG (P : Program) (w : World) (K : PySem.W.Frag) (mg : Str → Option Value) (base : Heap) (x : Str) (k : Nat) (ps : List Str) (sp : Sp) : Prop where
  ex : ∃ (f : Addr) (fd : FuncData), FnG P w K mg base CX0 k f fd ps sp ∧ mg x = some (.ref f) ∧ PySem.W.keepIn K (.ref f) = true ∧ Binds K fd ps []
section
variable {X : Cx} {k j : Nat} {x : Str} {ps : List Str} {sp : Sp} {p pos : Pos} {e : Expr} {es : List Expr} {t : TA}
theorem pe_fn (D : Df X.prog X.w X.K X.mg X.base x k ps sp) (hr : Room j X.A) (hk : k ≤ j) (hg : Gl X x) (ha : PA X (e :: es) t) (hdb : (x == ("__debug__" : Str)) = false := by decide)
    (he : starEach (e :: es) X.env = (false, eval e X.env) :: starEach es X.env := by rfl) (hpl : (backTo pos (starEach es X.env)).any (·.1) = false := by rfl) : PE X (.Call (.Name x p) (e :: es) [] pos) (tCall sp [] E0 t) := by
  obtain ⟨f, fd, F, hm, hkp, hb⟩ := D.ex
  exact pe_call F (hr.mono hk) hg hm hkp hb .nil pass0 ha hdb he hpl
theorem pe_fn0 (D : Df X.prog X.w X.K X.mg X.base x k ps sp) (hr : Room j X.A) (hk : k ≤ j) (hg : Gl X x) (hdb : (x == ("__debug__" : Str)) = false := by decide) : PE X (.Call (.Name x p) [] [] pos) (tCall sp [] E0 tNil) := by
  obtain ⟨f, fd, F, hm, hkp, hb⟩ := D.ex
  exact pe_call0 F (hr.mono hk) hg hm hkp hb .nil pass0 hdb
theorem pe_fnG (hgu : X.A.guards = some []) (D : DfG X.prog X.w X.K X.mg X.base x k ps sp) (hr : Room j X.A) (hk : k ≤ j) (hg : Gl X x) (ha : PA X (e :: es) t) (hdb : (x == ("__debug__" : Str)) = false := by decide)
    (he : starEach (e :: es) X.env = (false, eval e X.env) :: starEach es X.env := by rfl) (hpl : (backTo pos (starEach es X.env)).any (·.1) = false := by rfl) : PE X (.Call (.Name x p) (e :: es) [] pos) (tCall sp [] E0 t) := by
  obtain ⟨f, fd, F, hm, hkp, hb⟩ := D.ex
  exact pe_callG hgu F (hr.mono hk) hg hm hkp hb .nil pass0 ha hdb he hpl
/-- a module's plain constant -/
theorem pe_gl {v : V} {pos : Pos} (h : ∃ u, X.mg x = some u ∧ RelV v u) (hg : Gl X x) (hd : (x == ("__debug__" : Str)) = false := by decide) : PE X (.Name x pos) (tC v) := by
  obtain ⟨u, hm, r⟩ := h
  exact pe_glob hg hm r hd
/-- a module's object -/
theorem pe_ref {a : Addr} {pos : Pos} (hg : Gl X x) (hm : X.mg x = some (.ref a)) (hd : (x == ("__debug__" : Str)) = false := by decide) : PE X (.Name x pos) (tC (.ref a)) := pe_glob hg hm rfl hd
/-- a built-in class's name as a value -/
theorem pe_ty {T : String} {pos : Pos} (hg : Gl X x) (hm : X.mg x = none) (hv : bootBuiltins x = some (.type T)) (hn : x ≠ "__name__" := by decide) (hd : (x == ("__debug__" : Str)) = false := by decide) : PE X (.Name x pos) (tC (.ty T)) :=
  pe_bltn hg hm hv rfl hn hd
end

section
variable {P : Program} {w : World} {K : PySem.W.Frag} {mg : Str → Option Value} {base : Heap} {CX : CXT} {k : Nat} {fd : FuncData} {ps : List Str} {sp : Sp}
  {x qual : Str} {params : Arguments} {body : List Stmt} {scope : Scope} {dvs : List V} {kws : List (Str × V)} {N : List Str} {p : He.Defn}
/-- a def's body, its own code object told -/
theorem okP (F : FunD K x qual params body scope dvs kws (He.fAd K p) fd) (S : FnScope N ps scope) (len : ∀ vs H Q E, sp vs H Q E → vs.length = ps.length)
    (hbody : ∀ (A : Around) (outer : List Env) (s : Shared) (H : Hp) (vs : List V) (Q : VK) (E : XK), Room k (A.deeper (envOfC qual scope s.heap.objs.size (He.fAd K p) (.ref (He.codeOf K p)))) → sp vs H Q E →
      ∃ t, PSs (cxOf CX P w K mg base N qual scope (He.fAd K p) (.ref (He.codeOf K p)) A outer s H E).nox body t ∧ t { nx := fun _ H' => Q .non H', rt := Q } (start N vs) H) : FnOk P w K mg base CX (k + 1) (He.fAd K p) fd ps sp := by
  obtain ⟨oc, od, dV, kV, doc, pm, an, cdv, ct, osl, rfl, lk, hcd, _, _⟩ := F.ex
  obtain ⟨c, rfl⟩ := He.codeIn_ref hcd
  have e : He.codeOf K p = c := He.codeOf_eq lk rfl
  subst e
  refine fn_of lk hcd S len fun A outer s H vs Q E hr hsp => ?_
  obtain ⟨t, h, q⟩ := hbody A outer s H vs Q E hr hsp
  exact ⟨t, h.nox, q⟩
theorem okQ (F : FunD K x qual params body scope dvs kws (He.fAd K p) fd) (S : FnScope N ps scope) (len : ∀ vs H Q E, sp vs H Q E → vs.length = ps.length)
    (hbody : ∀ (A : Around) (outer : List Env) (s : Shared) (H : Hp) (vs : List V) (Q : VK) (E : XK), A.guards = some [] → Room k (A.deeper (envOfC qual scope s.heap.objs.size (He.fAd K p) (.ref (He.codeOf K p)))) → sp vs H Q E →
      ∃ t, PSs (cxOf CX P w K mg base N qual scope (He.fAd K p) (.ref (He.codeOf K p)) A outer s H E).nox body t ∧ t { nx := fun _ H' => Q .non H', rt := Q } (start N vs) H) : FnG P w K mg base CX (k + 1) (He.fAd K p) fd ps sp := by
  obtain ⟨oc, od, dV, kV, doc, pm, an, cdv, ct, osl, rfl, lk, hcd, _, _⟩ := id F.ex
  obtain ⟨c, rfl⟩ := He.codeIn_ref hcd
  have e : He.codeOf K p = c := He.codeOf_eq lk rfl
  subst e
  refine okG F S len fun cdv hcv A outer s H vs Q E hg hr hsp => ?_
  have hcv : cdv = .ref (He.codeOf K p) := hcv.symm
  subst hcv
  obtain ⟨t, h, q⟩ := hbody A outer s H vs Q E hg hr hsp
  exact ⟨t, h.nox, q⟩
end

theorem dvi (a b : Int) : decide (V.int a = V.int b) = decide (a = b) := by
  rw [decide_eq_decide]
  exact ⟨fun h => by injection h, fun h => by rw [h]⟩
theorem dvs (a b : Str) : decide (V.str a = V.str b) = decide (a = b) := by
  rw [decide_eq_decide]
  exact ⟨fun h => by injection h, fun h => by rw [h]⟩
theorem not_true_iff {b : Bool} : (!b) = true ↔ b = false := by cases b <;> simp

/-! ### a heap that has only grown -/
/-- all that was tracked stands, tables perhaps longer -/
def Gr (H H' : Hp) : Prop := ∀ b o, H b = some o → (H' b = some o ∨ ∃ ps more, o = .tbl ps ∧ H' b = some (.tbl (ps ++ more)) ∧ (TriplesOk ps.toList → TriplesOk (ps ++ more).toList))
theorem Gr.refl (H : Hp) : Gr H H := fun _ _ h => .inl h
theorem Gr.trans {H H1 H2 : Hp} (a : Gr H H1) (b : Gr H1 H2) : Gr H H2 := by
  intro c o h
  rcases a c o h with h1 | ⟨ps, m1, rfl, h1, t1⟩
  · exact b c o h1
  · rcases b c _ h1 with h2 | ⟨qs, m2, e, h2, t2⟩
    · exact .inr ⟨ps, m1, rfl, h2, t1⟩
    · cases e
      exact .inr ⟨ps, m1 ++ m2, rfl, by rw [← Array.append_assoc]; exact h2, fun z => by rw [← Array.append_assoc]; exact t2 (t1 z)⟩
theorem Gr.keep {H H' : Hp} (g : Gr H H') {b : Addr} {o : HO} (h : H b = some o) (n : ∀ ps, o ≠ .tbl ps) : H' b = some o := by
  rcases g b o h with h1 | ⟨ps, _, rfl, _⟩
  · exact h1
  · exact absurd rfl (n ps)
theorem Gr.new {H : Hp} {p : Addr} {o : HO} (h : H p = none) : Gr H (upd H p o) := fun b u e => .inl (by rw [upd_ne (ne_of_none e h)]; exact e)
theorem Gr.upd' {H H' : Hp} {p : Addr} {o : HO} (g : Gr H H') (h : H p = none) : Gr H (upd H' p o) := fun b u e => by
  rw [upd_ne (ne_of_none e h)]
  exact g b u e
theorem Gr.free {H H' : Hp} (g : Gr H H') {b : Addr} (h : H' b = none) : H b = none := by
  cases q : H b with
  | none => rfl
  | some o =>
    rcases g b o q with h1 | ⟨_, _, _, h1, _⟩
    · rw [h] at h1; cases h1
    · rw [h] at h1; cases h1
theorem Gr.tabb {P : Addr} {H H' : Hp} (h : Tabb P H H') : Gr H H' := by
  obtain ⟨ps, more, h1, t1, t2, rfl⟩ := h
  intro b o e
  by_cases hb : b = P
  · subst hb
    rw [h1] at e
    cases e
    exact .inr ⟨ps, more, rfl, upd_same, fun _ => t2⟩
  · exact .inl (by rw [upd_ne hb]; exact e)
theorem Gr.tabG {P : Addr} {H H' : Hp} (g : Gr H H') (h : TabG H P) : TabG H' P := by
  obtain ⟨ps, h1, t1⟩ := h
  rcases g P _ h1 with q | ⟨qs, more, e, q, t⟩
  · exact ⟨ps, q, t1⟩
  · cases e
    exact ⟨_, q, t t1⟩
theorem Gr.seqT {K : PySem.W.Frag} {H H' : Hp} (g : Gr H H') {a : Addr} {xs : List V} (h : SqT K H a xs) : SqT K H' a xs := by
  rcases h with (h | ⟨o, h⟩) | h
  · exact .inl (.inl (g.keep h (fun _ z => by cases z)))
  · exact .inl (.inr ⟨o, g.keep h (fun _ z => by cases z)⟩)
  · exact .inr h
theorem Gr.seqL {K : PySem.W.Frag} {H H' : Hp} (g : Gr H H') {a : Addr} {xs : List V} (h : SqL K H a xs) : SqL K H' a xs := by
  rcases h with (h | ⟨o, h⟩) | h
  · exact .inl (.inl (g.keep h (fun _ z => by cases z)))
  · exact .inl (.inr ⟨o, g.keep h (fun _ z => by cases z)⟩)
  · exact .inr h
mutual
theorem Gr.dd {K : PySem.W.Frag} {H H' : Hp} (g : Gr H H') : ∀ (d : PyData) (v : V), Dd K H v d → Dd K H' v d
  | .none, _, h => by cases h; exact .non
  | .bool _, _, h => by cases h; exact .bl _
  | .int _, _, h => by cases h; exact .int _
  | .str _, _, h => by cases h; exact .str _
  | .list ds, _, h => by
    cases h with
    | lst a b => exact .lst (g.seqL a) (Gr.ddA g ds _ b)
  | .tuple ds, _, h => by
    cases h with
    | tup a b => exact .tup (g.seqT a) (Gr.ddA g ds _ b)
  | .dict _, _, h => by
    cases h with
    | dct a => exact .dct (g.keep a (fun _ z => by cases z))
theorem Gr.ddA {K : PySem.W.Frag} {H H' : Hp} (g : Gr H H') : ∀ (ds : List PyData) (vs : List V), DdAll K H vs ds → DdAll K H' vs ds
  | [], _, h => by cases h; exact .nil
  | d :: ds, _, h => by
    cases h with
    | cons a b => exact .cons (Gr.dd g d _ a) (Gr.ddA g ds _ b)
end

/-! ### a walk of enumerate over a list that stays -/
theorem for_enum {K : PySem.W.Frag} {a : Addr} {xs : List V} {g : TG} {tb : TS} {D : Ends} {σ : L2.St} {H : Hp} (Pv : Nat → L2.St → Hp → Prop) (h0 : Pv 0 σ H) (hl : ∀ i σ H, i ≤ xs.length → Pv i σ H → SqL K H a xs)
    (hs : ∀ i x T σ H, xs[i]? = some x → Pv i σ H → H T = none → g (.ref T) σ (upd H T (.tup [.int (i : Nat), x])) fun σ2 H2 => tb { D with nx := Pv (i + 1), ct := Pv (i + 1), bk := D.nx } σ2 H2) (hd : ∀ σ H, Pv xs.length σ H → D.nx σ H) :
    ∃ W : Nat → Nat → L2.St → Hp → Prop, (∃ m, W 0 m σ H) ∧ ∀ i m σ H, W i m σ H →
      ((Ite K a).stop i H ∧ D.nx σ H) ∨ ((Ite K a).go i H ∧ ∃ N : L2.St → Hp → Prop, (∀ σ' H', N σ' H' → ∃ m', m' < m ∧ W (i + 1) m' σ' H') ∧ ∀ x H', (Ite K a).yld i H x H' → g x σ H' fun σ2 H2 => tb { D with nx := N, ct := N, bk := D.nx } σ2 H2) := by
  refine ⟨fun i m σ H => i + m = xs.length ∧ Pv i σ H, ⟨xs.length, Nat.zero_add _, h0⟩, fun i m σ H ⟨hm, p⟩ => ?_⟩
  have hq := hl i σ H (by omega) p
  cases m with
  | zero =>
    have e : i = xs.length := by omega
    subst e
    exact Or.inl ⟨⟨xs, hq, Nat.le_refl _⟩, hd σ H p⟩
  | succ m =>
    have hi : i < xs.length := by omega
    refine Or.inr ⟨⟨xs, xs[i], hq, List.getElem?_eq_getElem hi⟩, Pv (i + 1), fun σ' H' p' => ⟨m, Nat.lt_succ_self _, by omega, p'⟩, ?_⟩
    rintro x H' ⟨T, y, rfl, hT, rfl, hy⟩
    exact hs i y T σ H (hy xs hq) p hT
end Vf
end
section
set_option Elab.async false
set_option linter.all false
set_option maxRecDepth 100000
set_option maxHeartbeats 4000000
namespace Vf
open PySem PySem.Spec PyProof.Rows L2 GxR GenW
def top (i : Nat) : Stmt := PySem.Challenge.pw_clipforms_k07_makers_and_chains.main.body.getD i (.Pass ⟨0, 0, 0, 0⟩)
abbrev s__law_churned : Stmt := top 55
abbrev n__law_churned : List Str := ["seed", "lap", "prime", "amount", "again"]
abbrev p__law_churned : List Str := ["seed", "lap"]
theorem sc__law_churned : FnScope n__law_churned p__law_churned (defScope s__law_churned) := ⟨rfl, rfl, rfl, by decide +kernel, rfl, by decide +kernel, by decide +kernel⟩

abbrev s__law_urn_of : Stmt := top 56
abbrev n__law_urn_of : List Str := ["script", "cell", "cells", "place"]
abbrev p__law_urn_of : List Str := ["script"]
theorem sc__law_urn_of : FnScope n__law_urn_of p__law_urn_of (defScope s__law_urn_of) := ⟨rfl, rfl, rfl, by decide +kernel, rfl, by decide +kernel, by decide +kernel⟩

abbrev s__law_upto : Stmt := top 57
abbrev n__law_upto : List Str := ["urn", "bound", "cells", "place", "amount", "found"]
abbrev p__law_upto : List Str := ["urn", "bound"]
theorem sc__law_upto : FnScope n__law_upto p__law_upto (defScope s__law_upto) := ⟨rfl, rfl, rfl, by decide +kernel, rfl, by decide +kernel, by decide +kernel⟩

abbrev s__law_choice : Stmt := top 58
abbrev n__law_choice : List Str := ["urn", "items"]
abbrev p__law_choice : List Str := ["urn", "items"]
theorem sc__law_choice : FnScope n__law_choice p__law_choice (defScope s__law_choice) := ⟨rfl, rfl, rfl, by decide +kernel, rfl, by decide +kernel, by decide +kernel⟩

abbrev s__law_equal : Stmt := top 59
abbrev n__law_equal : List Str := ["one", "other"]
abbrev p__law_equal : List Str := ["one", "other"]
theorem sc__law_equal : FnScope n__law_equal p__law_equal (defScope s__law_equal) := ⟨rfl, rfl, rfl, by decide +kernel, rfl, by decide +kernel, by decide +kernel⟩

/-- what the module's names are -/
structure TX (mg : Str → Option Value) : Prop where
  b_range : mg "range" = none
  b_abs : mg "abs" = none
  b_enumerate : mg "enumerate" = none
  b_len : mg "len" = none
  b_int : mg "int" = none
  b_repr : mg "repr" = none

local macro_rules | `(tactic| walk_at "rd") => `(tactic| repeat (first
  | refine ⟨_, rfl, ?_⟩ | refine a_ii ?_ | (refine m_ii (by first | exact .inl ⟨by decide, by decide⟩ | exact .inr ⟨by decide, by decide⟩) ?_) | refine md_ii (by decide) ?_ | refine sb_ii ?_ | refine l_ii ?_ | refine le_ii ?_ | refine ge_ii ?_ | refine gt_ii ?_ | refine e_flat rfl ?_ | refine n_flat rfl ?_))
/-! ### the urn -/
/-- an urn stands at u: what stays of it is that it holds a list of ints and three ints -/
def Urn (c : Addr) (H : Hp) (u : Addr) : Prop := ∃ (ns : List Int) (p a r : Int), H u = some (.lst [.ref c, .int p, .int a, .int r]) ∧ H c = some (.lst (ns.map V.int))
/-- grown, but for what stands at u -/
def GrU (u : Addr) (H H' : Hp) : Prop := ∀ b o, b ≠ u → H b = some o → (H' b = some o ∨ ∃ ps more, o = .tbl ps ∧ H' b = some (.tbl (ps ++ more)) ∧ (TriplesOk ps.toList → TriplesOk (ps ++ more).toList))
theorem GrU.refl (u : Addr) (H : Hp) : GrU u H H := fun _ _ _ h => .inl h
theorem Gr.u {u : Addr} {H H' : Hp} (g : Gr H H') : GrU u H H' := fun b o _ h => g b o h
theorem GrU.trans {u : Addr} {H H1 H2 : Hp} (a : GrU u H H1) (b : GrU u H1 H2) : GrU u H H2 := by
  intro c o hc h
  rcases a c o hc h with h1 | ⟨ps, m1, rfl, h1, t1⟩
  · exact b c o hc h1
  · rcases b c _ hc h1 with h2 | ⟨qs, m2, e, h2, t2⟩
    · exact .inr ⟨ps, m1, rfl, h2, t1⟩
    · cases e
      exact .inr ⟨ps, m1 ++ m2, rfl, by rw [← Array.append_assoc]; exact h2, fun z => by rw [← Array.append_assoc]; exact t2 (t1 z)⟩
theorem GrU.upd {u : Addr} {H H' : Hp} {o : HO} (g : GrU u H H') : GrU u H (upd H' u o) := fun b w hb h => by
  rw [upd_ne hb]
  exact g b w hb h
theorem GrU.keep {u : Addr} {H H' : Hp} (g : GrU u H H') {b : Addr} {o : HO} (hb : b ≠ u) (h : H b = some o) (n : ∀ ps, o ≠ .tbl ps) : H' b = some o := by
  rcases g b o hb h with h1 | ⟨ps, _, rfl, _⟩
  · exact h1
  · exact absurd rfl (n ps)
theorem urn_ne {H : Hp} {u c : Addr} {ns : List Int} {p a r : Int} (h1 : H u = some (.lst [.ref c, .int p, .int a, .int r])) (h2 : H c = some (.lst (ns.map V.int))) : c ≠ u := by
  rintro rfl
  rw [h1] at h2
  have e : ([.ref c, .int p, .int a, .int r] : List V) = ns.map V.int := by injection h2 with h2; injection h2
  cases ns with
  | nil => cases e
  | cons z zs =>
    rw [List.map_cons] at e
    injection e with e1 _
    cases e1
/-- what is no list of values stays so -/
theorem GrU.notu {u c : Addr} {H H' : Hp} (g : GrU u H H') (hu : Urn c H u) {b : Addr} {o : HO} (h : H b = some o) (n : ∀ xs, o ≠ .lst xs) (n2 : ∀ ps, o ≠ .tbl ps) : H' b = some o := by
  refine g.keep ?_ h n2
  rintro rfl
  obtain ⟨ns, p, a, r, h1, _⟩ := hu
  rw [h1] at h
  cases h
  exact n _ rfl

def spChurned : Sp := fun vs H Q _ => ∃ s l : Int, vs = [.int s, .int l] ∧ ∀ r : Int, Q (.int r) H
def spUrnOf (K : PySem.W.Frag) : Sp := fun vs H Q _ => ∃ (a : Addr) (ns : List Int), vs = [.ref a] ∧ SqL K H a (ns.map V.int) ∧ ns.length ≤ 63 ∧ ∀ u c H', H u = none → H c = none → Gr H H' → Urn c H' u → Q (.ref u) H'
def spUpto : Sp := fun vs H Q _ => ∃ (u c : Addr) (b : Int), vs = [.ref u, .int b] ∧ Urn c H u ∧ 0 < b ∧ b < 1073741824 ∧ ∀ r H', 0 ≤ r → r < b → GrU u H H' → Urn c H' u → Q (.int r) H'
def spChoice (K : PySem.W.Frag) : Sp := fun vs H Q _ => ∃ (u c it : Addr) (xs : List V), vs = [.ref u, .ref it] ∧ Urn c H u ∧ it ≠ u ∧ (SqL K H it xs ∨ SqT K H it xs) ∧ xs ≠ [] ∧ xs.length < 1073741824 ∧ ∀ x H', x ∈ xs → GrU u H H' → Urn c H' u → Q x H'
def spEqual (K : PySem.W.Frag) : Sp := fun vs H Q _ => ∃ (x y : V) (d e : PyData), vs = [x, y] ∧ Dd K H x d ∧ Dd K H y e ∧ (d.showable = true ∧ (d.hasDict = true → noLst d = true) ∧ d.depth < 60 ∧ d.shown.length ≤ sizeLine) ∧
  (e.showable = true ∧ (e.hasDict = true → noLst e = true) ∧ e.depth < 60 ∧ e.shown.length ≤ sizeLine) ∧ Q (.bl (decide (V.str d.shown = V.str e.shown))) H
section
variable {P : Program} {w : World} {K : PySem.W.Frag} {mg : Str → Option Value} {base : Heap}
abbrev FnP (K : PySem.W.Frag) (x : Str) (st : Stmt) (fd : FuncData) : Prop := FunD K x x (defArgs st) (defBody st) (defScope st) [] [] (He.fAd K (x, none)) fd
theorem ok_churned {fd : FuncData} (F : FnP K "_law_churned" s__law_churned fd) (T : TX mg) : FnOk P w K mg base CX0 1 (He.fAd K ("_law_churned", none)) fd p__law_churned spChurned := by
  refine okP F sc__law_churned (fun vs H Q E h => by obtain ⟨s, l, rfl, _⟩ := h; rfl) (fun A outer s H vs Q E hr h => ?_)
  obtain ⟨a, l, rfl, k⟩ := h
  refine ⟨_, (pss_cons (ps_set (i := 2) sc__law_churned.nd rfl (by first | exact Or.inl rfl | exact Or.inr rfl) pe_int)
      (pss_cons (ps_set (i := 3) sc__law_churned.nd rfl (by first | exact Or.inl rfl | exact Or.inr rfl) (pe_op u_mod (pe_op (u_add (K := K) rfl) (pe_op (u_add (K := K) rfl) (pe_op (u_mul (K := K) rfl) (pv 0) pe_int) (pe_op (u_mul (K := K) rfl) (pv 1) pe_int)) pe_int) (pv 2)))
      (pss_cons (ps_for PassesOwn.never rfl (pi_range1 rfl T.b_range (pa_cons pe_int pa_nil)) (pg_name (i := 4) sc__law_churned.nd rfl (by first | exact Or.inl rfl | exact Or.inr rfl))
      (pss_one (ps_set (i := 3) sc__law_churned.nd rfl (by first | exact Or.inl rfl | exact Or.inr rfl) (pe_op u_mod (pe_op (u_add (K := K) rfl) (pe_op (u_add (K := K) rfl) (pe_op (u_add (K := K) rfl) (pe_op (u_mul (K := K) rfl) (pv 3) (pv 3)) (pe_op (u_mul (K := K) rfl) pe_int (pv 3))) (pe_op (u_mul (K := K) rfl) pe_int (pv 4))) (pv 1)) (pv 2)))))
      (pss_one (ps_ret (pe_op (u_add (K := K) rfl) (pe_op (u_mul (K := K) rfl) (pv 3) (pv 2)) (pe_op u_mod (pe_op (u_add (K := K) rfl) (pe_op (u_mul (K := K) rfl) (pv 3) pe_int) (pv 1)) (pv 2)))))))), ?_⟩
  have hm : ∀ x : Int, x.fmod 2305843009213693921 < 2 ^ 64 ∧ -(2 ^ 64) < x.fmod 2305843009213693921 := fun x => by
    have h1 := Int.fmod_nonneg_of_pos x (b := 2305843009213693921) (by decide)
    have h2 := Int.fmod_lt_of_pos x (b := 2305843009213693921) (by decide)
    omega
  walk_at "rd"
  refine ⟨by decide, by decide, for_range (n := 4) (fun i σ H' => H' = H ∧ ∃ (x : Int) (o : Option V), σ = [some (.int a), some (.int l), some (.int 2305843009213693921), some (.int (x.fmod 2305843009213693921)), o]) ⟨rfl, _, _, rfl⟩ ?_ ?_⟩
  · rintro i σ H' hi ⟨rfl, x, o, rfl⟩
    have := hm x
    walk_at "rd"
    refine m_ii (.inl ⟨this.2, this.1⟩) ?_
    walk_at "rd"
    exact ⟨rfl, _, _, rfl⟩
  · rintro σ H' ⟨rfl, x, o, rfl⟩
    have := hm x
    walk_at "rd"
    exact k _

theorem urn_upd {H : Hp} {u c : Addr} {ns : List Int} {p a r p' a' r' : Int} (h1 : H u = some (.lst [.ref c, .int p, .int a, .int r])) (h2 : H c = some (.lst (ns.map V.int))) : Urn c (upd H u (.lst [.ref c, .int p', .int a', .int r'])) u :=
  ⟨ns, p', a', r', upd_same, by rw [upd_ne (urn_ne h1 h2)]; exact h2⟩
theorem dp_ints {H : Hp} : ∀ ns : List Int, DpAll K H (ns.map V.int) (ns.map PyData.int)
  | [] => .nil
  | z :: zs => .cons (.int z) (dp_ints zs)
theorem lay_ints : ∀ ns : List Int, PyData.canLayAll0 (ns.map PyData.int) = true
  | [] => rfl
  | z :: zs => by
    show (PyData.canLay0 (.int z) && PyData.canLayAll0 (zs.map PyData.int)) = true
    rw [lay_ints zs]; rfl
theorem dep_ints : ∀ ns : List Int, PyData.depthAll (ns.map PyData.int) ≤ 1
  | [] => Nat.zero_le _
  | z :: zs => by
    have := dep_ints zs
    simp only [List.map_cons, PyData.depthAll, PyData.depth]
    omega
theorem shp_ints (ns : List Int) : SeqAt.shaped (.list (ns.map PyData.int)) = true := by
  unfold SeqAt.shaped
  have h1 : PyData.canLay0 (.list (ns.map PyData.int)) = true := lay_ints ns
  have h2 := dep_ints ns
  have h3 : PyData.depth (.list (ns.map PyData.int)) ≤ 64 := by simp only [PyData.depth]; omega
  rw [h1, decide_eq_true h3]; rfl
theorem ok_upto {fd : FuncData} (F : FnP K "_law_upto" s__law_upto fd) (T : TX mg) (D__law_churned : Df P w K mg base "_law_churned" 1 p__law_churned spChurned) : FnOk P w K mg base CX0 2 (He.fAd K ("_law_upto", none)) fd p__law_upto spUpto := by
  refine okP F sc__law_upto (fun vs H Q E h => by obtain ⟨s, c, l, rfl, _⟩ := h; rfl) (fun A outer s H vs Q E hr h => ?_)
  obtain ⟨u, c, b, rfl, ⟨ns, p, a, r, h1, h2⟩, hb, hb2, k⟩ := h
  have hcu := urn_ne h1 h2
  refine ⟨_, (C8.pss_cut (ps_if (pt_cmpR u_lt (pe_ix (u_ix (K := K) rfl) (pv 0) pe_int (fun _ _ => rfl)) (pv 1) (nomark _))
      (pss_cons (ps_par (i := 2) (j := 3) (by rfl) sc__law_upto.nd rfl rfl (by decide) rfl rfl (pa_cons (pe_ix (u_ix (K := K) rfl) (pv 0) pe_int (fun _ _ => rfl)) (pa_cons (pe_ix (u_ix (K := K) rfl) (pv 0) pe_int (fun _ _ => rfl)) pa_nil)) (by rfl))
      (C8.pss_cut (ps_set (i := 4) sc__law_upto.nd rfl (by first | exact Or.inl rfl | exact Or.inr rfl) (pe_ifExp (pt_cmpR (u_ne (K := K) rfl hr.units) (pv 2) (pe_lst pa_nil) (nomark _)) (pe_ix (u_ix (K := K) rfl) (pv 2) (pe_op u_mod (pv 3) (pe_callB (k_len (K := K) rfl) rfl T.b_len (by decide +kernel) (pa_cons (pv 2) pa_nil))) (fun _ _ => rfl)) pe_int))
      (C8.pss_cut (ps_if (PW.pt (pw_or (pt_cmpR u_ge (pv 3) (pe_callB (k_len (K := K) rfl) rfl T.b_len (by decide +kernel) (pa_cons (pv 2) pa_nil)) (nomark _)) (pw_or1 (pt_cmpR u_lt (pv 4) (pe_op u_pow pe_int pe_int) (nomark _)))))
      (pss_one (ps_set (i := 4) sc__law_upto.nd rfl (by first | exact Or.inl rfl | exact Or.inr rfl) (pe_fn D__law_churned hr (by decide) rfl (pa_cons (pe_op u_mod (pe_callTy call_int1 rfl T.b_int (by decide +kernel) (pa_cons (pv 4) pa_nil)) pe_int) (pa_cons (pv 3) pa_nil)))))
      pss_nil)
      (pss_cons (ps_asg (pe_op (u_add (K := K) rfl) (pv 3) pe_int) (pg_sub (pv 0) pe_int set_list))
      (pss_cons (ps_asg (pv 4) (pg_sub (pv 0) pe_int set_list))
      (pss_one (ps_asg (pv 4) (pg_sub (pv 0) pe_int set_list))))))))
      pss_nil)
      (pss_cons (ps_set (i := 5) sc__law_upto.nd rfl (by first | exact Or.inl rfl | exact Or.inr rfl) (pe_op u_mod (pe_callTy call_int1 rfl T.b_int (by decide +kernel) (pa_cons (pe_ix (u_ix (K := K) rfl) (pv 0) pe_int (fun _ _ => rfl)) pa_nil)) (pv 1)))
      (pss_cons (ps_asg (pe_op u_fdiv (pe_ix (u_ix (K := K) rfl) (pv 0) pe_int (fun _ _ => rfl)) (pv 1)) (pg_sub (pv 0) pe_int set_list))
      (pss_cons (ps_asg (pe_op u_fdiv (pe_ix (u_ix (K := K) rfl) (pv 0) pe_int (fun _ _ => rfl)) (pv 1)) (pg_sub (pv 0) pe_int set_list))
      (pss_one (ps_ret (pv 5))))))), ?_⟩
  refine ⟨fun σ H' => ∃ x y z o3 o4, (∃ o2, σ = [some (.ref u), some (.int b), o2, o3, o4, none]) ∧ GrU u H H' ∧ H' u = some (.lst [.ref c, .int x, .int y, .int z]) ∧ H' c = some (.lst (ns.map V.int)), ?_, ?_⟩
  · refine ⟨_, rfl, x_l (SqL.of h1) rfl ⟨_, rfl, l_ii ⟨_, rfl, ite2 (fun _ => ?_) (fun _ => ?_)⟩⟩⟩
    · refine ⟨_, rfl, x_l (SqL.of h1) rfl ⟨_, rfl, x_l (SqL.of h1) rfl ⟨_, _, rfl, ?_⟩⟩⟩
      -- amount
      refine ⟨fun σ H' => ∃ v : Int, σ = [some (.ref u), some (.int b), some (.ref c), some (.int p), some (.int v), none] ∧ GrU u H H' ∧ H' u = some (.lst [.ref c, .int p, .int a, .int r]) ∧ H' c = some (.lst (ns.map V.int)), ?_, ?_⟩
      · refine ⟨_, rfl, Nat.zero_le _, fun l hl => ?_⟩
        have g1 : Gr H (upd H l (.lst [])) := Gr.new hl
        have e1 : upd H l (.lst []) u = some (.lst [.ref c, .int p, .int a, .int r]) := by rw [upd_ne (ne_of_none h1 hl)]; exact h1
        have e2 : upd H l (.lst []) c = some (.lst (ns.map V.int)) := by rw [upd_ne (ne_of_none h2 hl)]; exact h2
        refine n_data (Dp.lst (SqL.of e2) (dp_ints ns)) (Dp.lst (SqL.of upd_same) .nil) (shp_ints ns) rfl ⟨_, rfl, ?_⟩
        refine ite2 (fun hne => ?_) (fun _ => ⟨0, rfl, g1.u, e1, e2⟩)
        have hpos : 0 < ns.length := by
          cases ns with
          | nil => simp [PyData.eqv, PyData.eqvAll] at hne
          | cons z zs => exact Nat.succ_pos _
        refine ⟨_, rfl, _, rfl, _, rfl, _, _, rfl, .inl ⟨_, SqL.of e2, rfl⟩, ?_⟩
        refine md_ii (by rw [List.length_map]; omega) ?_
        have q0 := Int.fmod_nonneg_of_pos p (b := ((ns.map V.int).length : Int)) (by rw [List.length_map]; omega)
        have q1 := Int.fmod_lt_of_pos p (b := ((ns.map V.int).length : Int)) (by rw [List.length_map]; omega)
        obtain ⟨j, hj⟩ := Int.eq_ofNat_of_zero_le q0
        have hjl : j < ns.length := by
          rw [hj, List.length_map] at q1
          omega
        rw [hj]
        exact x_l (SqL.of e2) (atI_nat (v := .int ns[j]) (by rw [List.getElem?_map, List.getElem?_eq_getElem hjl]; rfl)) ⟨_, rfl, g1.u, e1, e2⟩
      · rintro σ H1 ⟨v, rfl, g1, e1, e2⟩
        -- the churned one
        refine ⟨fun σ H' => ∃ v : Int, σ = [some (.ref u), some (.int b), some (.ref c), some (.int p), some (.int v), none] ∧ H' = H1, ?_, ?_⟩
        · refine ⟨_, rfl, _, rfl, _, _, rfl, .inl ⟨_, SqL.of e2, rfl⟩, ge_ii ⟨_, rfl, ?_⟩⟩
          refine ite2 (fun _ => ?_) (fun _ => ?_)
          · refine ⟨_, rfl, .inl ⟨_, rfl, md_ii (by decide) ⟨_, rfl, _, _, rfl, fun z => ⟨z, rfl, rfl⟩⟩⟩⟩
          · refine ⟨_, rfl, pw_ii ⟨by decide, by decide, by decide⟩ (l_ii ⟨_, rfl, ite2 (fun _ => ?_) (fun _ => ⟨v, rfl, rfl⟩)⟩)⟩
            refine ⟨_, rfl, .inl ⟨_, rfl, md_ii (by decide) ⟨_, rfl, _, _, rfl, fun z => ⟨z, rfl, rfl⟩⟩⟩⟩
        · rintro σ H2 ⟨v, rfl, rfl⟩
          have hcu' := urn_ne e1 e2
          refine ⟨_, rfl, a_ii ⟨_, rfl, _, _, _, _, rfl, rfl, e1, rfl, ?_⟩⟩
          refine ⟨_, rfl, _, rfl, _, _, _, _, rfl, rfl, upd_same, rfl, ?_⟩
          rw [upd_upd]
          refine ⟨_, rfl, _, rfl, _, _, _, _, rfl, rfl, upd_same, rfl, ?_⟩
          rw [upd_upd]
          exact ⟨p + 1, v, v, some (.int p), some (.int v), ⟨some (.ref c), rfl⟩, g1.upd, upd_same, by rw [upd_ne hcu']; exact e2⟩
    · exact ⟨p, a, r, none, none, ⟨none, rfl⟩, GrU.refl _ _, h1, h2⟩
  · rintro σ H' ⟨x, y, z, o3, o4, ⟨o2, rfl⟩, g, e1, e2⟩
    refine ⟨_, rfl, x_l (SqL.of e1) rfl (.inl ⟨_, rfl, ⟨_, rfl, md_ii (by omega) ?_⟩⟩)⟩
    refine ⟨_, rfl, x_l (SqL.of e1) rfl ⟨_, rfl, f_ii ⟨by omega, by omega⟩ ⟨_, rfl, _, _, _, _, rfl, rfl, e1, rfl, ?_⟩⟩⟩
    refine ⟨_, rfl, x_l (SqL.of upd_same) rfl ⟨_, rfl, f_ii ⟨by omega, by omega⟩ ⟨_, rfl, _, _, _, _, rfl, rfl, upd_same, rfl, ?_⟩⟩⟩
    rw [upd_upd]
    refine ⟨_, rfl, k _ _ (Int.fmod_nonneg_of_pos _ hb) (Int.fmod_lt_of_pos _ hb) g.upd ?_⟩
    exact urn_upd e1 e2

theorem ok_choice {fd : FuncData} (F : FnP K "_law_choice" s__law_choice fd) (T : TX mg) (D__law_upto : Df P w K mg base "_law_upto" 2 p__law_upto spUpto) : FnOk P w K mg base CX0 3 (He.fAd K ("_law_choice", none)) fd p__law_choice (spChoice K) := by
  refine okP F sc__law_choice (fun vs H Q E h => by obtain ⟨s, c, l, xs, rfl, _⟩ := h; rfl) (fun A outer s H vs Q E hr h => ?_)
  obtain ⟨u, c, it, xs, rfl, hu, hit, hs, hne, hl, k⟩ := h
  have hpos : 0 < xs.length := List.length_pos_iff.mpr hne
  refine ⟨_, (pss_one (ps_ret (pe_ix (u_ix (K := K) rfl) (pv 1) (pe_fn D__law_upto hr (by decide) rfl (pa_cons (pv 0) (pa_cons (pe_callB (k_len (K := K) rfl) rfl T.b_len (by decide +kernel) (pa_cons (pv 1) pa_nil)) pa_nil))) (fun _ _ => rfl)))), ?_⟩
  have lv : LenV K (.ref it) H xs.length := by
    rcases hs with hs | hs
    · exact .inl ⟨_, hs, rfl⟩
    · exact .inr ⟨_, hs, rfl⟩
  refine ⟨_, rfl, _, rfl, _, rfl, _, _, rfl, lv, ?_⟩
  refine ⟨u, c, _, rfl, hu, by omega, by omega, fun r H' h0 h1 g hu' => ?_⟩
  obtain ⟨j, rfl⟩ := Int.eq_ofNat_of_zero_le h0
  have hj : j < xs.length := by omega
  have hs' : SqL K H' it xs ∨ SqT K H' it xs := by
    rcases hs with ((hs | ⟨o, hs⟩) | hs) | ((hs | ⟨o, hs⟩) | hs)
    · exact .inl (.inl (.inl (g.keep hit hs (fun _ z => by cases z))))
    · exact .inl (.inl (.inr ⟨o, g.keep hit hs (fun _ z => by cases z)⟩))
    · exact .inl (.inr hs)
    · exact .inr (.inl (.inl (g.keep hit hs (fun _ z => by cases z))))
    · exact .inr (.inl (.inr ⟨o, g.keep hit hs (fun _ z => by cases z)⟩))
    · exact .inr (.inr hs)
  have e := atI_nat (xs := xs) (List.getElem?_eq_getElem hj)
  rcases hs' with hs' | hs'
  · exact x_l hs' e (k _ _ (List.getElem_mem hj) g hu')
  · exact x_t hs' e (k _ _ (List.getElem_mem hj) g hu')
theorem ok_equal {fd : FuncData} (F : FnP K "_law_equal" s__law_equal fd) (T : TX mg) : FnG P w K mg base CX0 1 (He.fAd K ("_law_equal", none)) fd p__law_equal (spEqual K) := by
  refine okQ F sc__law_equal (fun vs H Q E h => by obtain ⟨x, y, d, e, rfl, _⟩ := h; rfl) (fun A outer s H vs Q E hgu hr h => ?_)
  obtain ⟨x, y, d, e, rfl, hx, hy, ⟨d1, d2, d3, d4⟩, ⟨e1, e2, e3, e4⟩, k⟩ := h
  refine ⟨_, (pss_one (ps_ret (pe_cmpR (u_eq (K := K) rfl hr.units) (pe_callB (call_reprD hgu hr.units) rfl T.b_repr (by decide +kernel) (pa_cons (pv 0) pa_nil)) (pe_callB (call_reprD hgu hr.units) rfl T.b_repr (by decide +kernel) (pa_cons (pv 1) pa_nil)) (nomark _)))), ?_⟩
  exact ⟨_, rfl, _, _, rfl, hx, d1, d2, d3, d4, _, rfl, _, _, rfl, hy, e1, e2, e3, e4, e_flat rfl k⟩
theorem cut18 {xs : List V} {i : Nat} {x : V} (h : (cutV xs (some 18) (some 60))[i]? = some x) : (cutV xs none (some 18)).length = 18 := by
  have q := (List.getElem?_eq_some_iff.mp h).1
  have e1 : HT.sIx xs.length 0 (some 18) = min 18 xs.length := HT.sIx_nat _ _ 18
  have e2 : HT.sIx xs.length xs.length (some 18) = min 18 xs.length := HT.sIx_nat _ _ 18
  have e3 : HT.sIx xs.length xs.length (some 60) = min 60 xs.length := HT.sIx_nat _ _ 60
  unfold cutV at q ⊢
  rw [List.length_take, List.length_drop] at q ⊢
  rw [e1, e3] at q
  rw [e2, HT.sIx_none]
  omega
theorem ixN_nat {n j : Nat} (h : j < n) : ixN n (j : Int) = some j := by
  unfold ixN
  rw [if_pos (by omega), if_pos (by omega), Int.toNat_natCast]
theorem cut_len (xs : List V) (lo hi : Option Int) : (cutV xs lo hi).length ≤ xs.length := cutV_length xs lo hi
theorem cut_int {ns : List Int} {lo hi : Option Int} {i : Nat} {x : V} (h : (cutV (ns.map V.int) lo hi)[i]? = some x) : ∃ z, x = .int z := by
  have hm := List.mem_of_getElem? h
  unfold cutV at hm
  have h1 := List.mem_of_mem_drop (List.mem_of_mem_take hm)
  obtain ⟨z, _, e⟩ := List.mem_map.mp h1
  exact ⟨z, e.symm⟩
theorem ok_urn_of {fd : FuncData} (F : FnP K "_law_urn_of" s__law_urn_of fd) (T : TX mg) : FnOk P w K mg base CX0 1 (He.fAd K ("_law_urn_of", none)) fd p__law_urn_of (spUrnOf K) := by
  refine okP F sc__law_urn_of (fun vs H Q E h => by obtain ⟨a, ns, rfl, _⟩ := h; rfl) (fun A outer s H vs Q E hr h => ?_)
  obtain ⟨a, ns, rfl, hS, hl, k⟩ := h
  refine ⟨_, (pss_cons (ps_setLc (i := 2) (own := [("cell", 1)]) (g := gName 1) (tt := tYes) rfl sc__law_urn_of.nd rfl rfl (sw_true rfl rfl rfl (by decide +kernel)) (k_list (K := K) rfl (pe_slice (u_sl (K := K) rfl) (pv 0) po_none (po_some pe_int))) (blkOk_by (own := [("cell", 1)]) (N := n__law_urn_of) (sc := defScope s__law_urn_of) (by decide +kernel)) (fun _ _ _ _ _ => (pg_name (i := 1) sc__law_urn_of.nd rfl (by first | exact Or.inl rfl | exact Or.inr rfl))) (fun _ _ _ _ _ => pts_nil) (fun _ _ _ _ _ => (pe_callB call_abs rfl T.b_abs (by decide +kernel) (pa_cons (pv 1) pa_nil))))
      (pss_cons (ps_for PassesOwn.never rfl (k_enum (K := K) rfl rfl T.b_enumerate (pa_cons (pe_slice (u_sl (K := K) rfl) (pv 0) (po_some pe_int) (po_some pe_int)) pa_nil)) (kg_tup 2 (K := K) rfl rfl (pgs_cons (pg_name (i := 3) sc__law_urn_of.nd rfl (by first | exact Or.inl rfl | exact Or.inr rfl)) (pgs_cons (pg_name (i := 1) sc__law_urn_of.nd rfl (by first | exact Or.inl rfl | exact Or.inr rfl)) pgs_nil)))
      (pss_one (ps_asg (pe_op (u_add (K := K) rfl) (pe_ix (u_ix (K := K) rfl) (pv 2) (pe_op u_mod (pv 3) pe_int) (fun _ _ => rfl)) (pe_callB call_abs rfl T.b_abs (by decide +kernel) (pa_cons (pv 1) pa_nil))) (pg_sub (pv 2) (pe_op u_mod (pv 3) pe_int) set_list))))
      (pss_one (ps_ret (pe_lst (pa_cons (pv 2) (pa_cons pe_int (pa_cons pe_int (pa_cons pe_int pa_nil))))))))), ?_⟩
  -- cells = [abs(cell) for cell in script[:18]]
  refine ⟨_, rfl, _, rfl, sl_l hS fun p hp => ⟨p, rfl, ⟨_, SqL.of upd_same⟩, fun D hD => ?_⟩⟩
  have g1 : Gr H (upd H p (.lst (cutV (ns.map V.int) none (some 18)))) := Gr.new hp
  have hpD : p ≠ D := ne_of_none (upd_same (H := H)) hD
  refine lc_list (K := K) (a := p) (xs := cutV (ns.map V.int) none (some 18)) (fun i H' => ∃ zs : List Int, zs.length = i ∧ H' = upd (upd H p (.lst (cutV (ns.map V.int) none (some 18)))) D (.lst (zs.map V.int))) ⟨[], rfl, rfl⟩ ?_ ?_ ?_
  · rintro i H' _ ⟨zs, _, rfl⟩
    exact SqL.of (by rw [upd_ne hpD]; exact upd_same)
  · rintro i x H' hx ⟨zs, hz, rfl⟩
    obtain ⟨z, rfl⟩ := cut_int hx
    refine ⟨rfl, ?_⟩
    refine ⟨_, rfl, z, rfl, zs.map V.int, upd_same, ?_, zs ++ [if z < 0 then -z else z], by rw [List.length_append, hz]; rfl, ?_⟩
    · have := (List.getElem?_eq_some_iff.mp hx).1
      have h2 := cut_len (ns.map V.int) none (some 18)
      rw [List.length_map] at h2 ⊢
      rw [sizeLine_eq]
      omega
    · rw [upd_upd, List.map_append]; rfl
  rintro H' ⟨zs, hz, rfl⟩
  have g2 : Gr H (upd (upd H p (.lst (cutV (ns.map V.int) none (some 18)))) D (.lst (zs.map V.int))) := g1.trans (Gr.new hD)
  have hD0 : H D = none := Gr.free g1 hD
  -- the others are folded in
  refine ⟨_, rfl, _, rfl, _, rfl, sl_l (g2.seqL hS) fun p2 hp2 => ⟨_, _, rfl, SqL.of upd_same, ?_⟩⟩
  have n2 : D ≠ p2 := ne_of_none upd_same hp2
  refine for_enum (xs := cutV (ns.map V.int) (some 18) (some 60)) (fun i σ H' => ∃ (ys : List Int) (o1 o3 : Option V), σ = [some (.ref a), o1, some (.ref D), o3] ∧ ys.length = zs.length ∧ Gr H H' ∧ H' D = some (.lst (ys.map V.int)) ∧ H' p2 = some (.lst (cutV (ns.map V.int) (some 18) (some 60))))
    ⟨zs, _, _, rfl, rfl, g2.trans (Gr.new hp2), by rw [upd_ne n2]; exact upd_same, upd_same⟩ ?_ ?_ ?_
  · rintro i σ H' _ ⟨ys, o1, o3, rfl, _, _, _, h⟩
    exact SqL.of h
  · rintro i x T σ H' hx ⟨ys, o1, o3, rfl, hy, g, h1, h2⟩ hT
    obtain ⟨z, rfl⟩ := cut_int hx
    have h18 : zs.length = 18 := hz.trans (cut18 hx)
    have e1 : upd H' T (.tup [.int (i : Nat), .int z]) D = some (.lst (ys.map V.int)) := by rw [upd_ne (ne_of_none h1 hT)]; exact h1
    have e2 : upd H' T (.tup [.int (i : Nat), .int z]) p2 = some (.lst (cutV (ns.map V.int) (some 18) (some 60))) := by rw [upd_ne (ne_of_none h2 hT)]; exact h2
    refine ⟨_, _, rfl, SqT.of upd_same, rfl, _, _, rfl, _, _, rfl, rfl, ?_⟩
    have q0 := Int.fmod_nonneg_of_pos (i : Int) (b := 18) (by decide)
    have q1 := Int.fmod_lt_of_pos (i : Int) (b := 18) (by decide)
    obtain ⟨j, hj⟩ := Int.eq_ofNat_of_zero_le q0
    have hj2 : j < ys.length := by omega
    refine ⟨_, rfl, _, rfl, md_ii (by decide) ?_⟩
    rw [hj]
    refine x_l (SqL.of e1) (atI_nat (v := .int ys[j]) (by rw [List.getElem?_map, List.getElem?_eq_getElem hj2]; rfl)) ⟨_, rfl, z, rfl, a_ii ?_⟩
    refine ⟨_, rfl, _, rfl, md_ii (by decide) ?_⟩
    rw [hj]
    refine ⟨_, _, _, j, rfl, rfl, e1, ?_, ys.set j (ys[j] + (if z < 0 then -z else z)), _, _, rfl, by rw [List.length_set]; exact hy, (g.trans (Gr.new hT)).upd' hD0, ?_, ?_⟩
    · rw [List.length_map]
      exact ixN_nat hj2
    · rw [upd_same, List.map_set]
    · rw [upd_ne (Ne.symm n2)]; exact e2
  · rintro σ H' ⟨ys, o1, o3, rfl, hy, g, h1, h2⟩
    refine ⟨_, rfl, by show 4 ≤ sizeLine; rw [sizeLine_eq]; decide, fun u hu => ?_⟩
    refine k u D _ (g.free hu) hD0 (g.trans (Gr.new hu)) ⟨ys, 0, 0, 0, upd_same, by rw [upd_ne (ne_of_none h1 hu)]; exact h1⟩
end
end Vf
end
section
set_option Elab.async false
set_option linter.all false
set_option maxRecDepth 100000
set_option maxHeartbeats 8000000
/-! How many different texts a list has: len(set(texts)). -/
namespace Vf
open PySem PySem.Spec PyProof.Rows L2 GxR GenW
/-- one more, if it is new -/
def ins1 (acc : List Str) (x : Str) : List Str := if acc.any (· == x) = true then acc else acc ++ [x]
/-- the different ones, in the order they come -/
def mets (xs : List Str) : List Str := xs.foldl ins1 []
theorem mets_snoc (xs : List Str) (x : Str) : mets (xs ++ [x]) = ins1 (mets xs) x := by unfold mets; rw [List.foldl_append]; rfl
theorem ins1_any (acc : List Str) (x k : Str) : (ins1 acc x).any (· == k) = (acc.any (· == k) || decide (k = x)) := by
  unfold ins1
  by_cases h : acc.any (· == x) = true
  · rw [if_pos h]
    by_cases e : k = x
    · subst e; rw [h]; rfl
    · rw [decide_eq_false e, Bool.or_false]
  · rw [if_neg h, List.any_append]
    congr 1
    by_cases e : k = x
    · subst e; simp
    · have hb : (x == k) = false := by rw [beq_eq_false_iff_ne]; exact fun z => e z.symm
      simp [hb, e]
theorem ins1_len (acc : List Str) (x : Str) : (ins1 acc x).length = if acc.any (· == x) = true then acc.length else acc.length + 1 := by
  unfold ins1
  split
  · rfl
  · rw [List.length_append, List.length_singleton]
theorem mets_len_le (xs : List Str) : (mets xs).length ≤ xs.length := by
  have key : ∀ (l acc : List Str), (l.foldl ins1 acc).length ≤ acc.length + l.length := by
    intro l
    induction l with
    | nil => intro acc; exact Nat.le_refl _
    | cons y r ih =>
      intro acc
      have h1 := ih (ins1 acc y)
      have h2 := ins1_len acc y
      rw [List.foldl_cons, List.length_cons]
      split at h2 <;> omega
  have q := key xs []
  rw [List.length_nil, Nat.zero_add] at q
  exact q
section
variable {prog : Program} {w : World} {A : Around} {R : Result → Shared → Prop} {I : Addr} {fp wr : List Addr} {G : Array GenState → Array GenState → Prop} {n : Nat} {P : Nat → Value → Prop} {St : Nat → Shared → Prop}
theorem upd_loop (W : WalksS prog w A.in1 I fp wr G n P St) (S : Addr) (hSf : S ∉ fp) (xs : List Str) (hn : xs.length = n) (hv : ∀ i v, P i v → ∃ t, v = .str (xs.getD i Str.empty) t) (hb : n + 1 < scanBound) :
    ∀ (k i : Nat) (s : Shared), n - i = k → i ≤ n → St i s → s.heap.SetOf (PySem.strKind prog w) S (fun z => (mets (xs.take i)).any (· == z)) (mets (xs.take i)).length →
      (∀ s', Moved (S :: wr) G s s' → s'.heap.SetOf (PySem.strKind prog w) S (fun z => (mets xs).any (· == z)) (mets xs).length → R (.ok (.ret .none)) s') →
      codeAny (model prog w) A (.builtin "set.update.loop" ⟨[.ref S, .ref I], []⟩) R s := by
  have nS : S ∉ wr := fun z => hSf (W.sub _ z)
  have more : ∀ b ∈ wr, b ∈ S :: wr := fun b z => List.mem_cons_of_mem _ z
  have stay : ∀ {s s' : Shared} {f : Str → Bool} {m : Nat}, Moved wr G s s' → s.heap.SetOf (PySem.strKind prog w) S f m → s'.heap.SetOf (PySem.strKind prog w) S f m := by
    rintro s s' f m hm ⟨o, es, ep, t, ho, rest⟩
    exact ⟨o, es, ep, t, hm.heap S _ nS ho, rest⟩
  intro k
  induction k with
  | zero =>
    intro i s hk hi st hS hR
    have e : i = n := by omega
    subst e
    refine codeAny_builtin PyProof.Rows.F.entry_set_update_loop ?_
    rw [Around.under_plainId PyProof.Rows.F.plain_set_update_loop _]
    show wpAny _ A.in1 (pyNext (.ref I) >>= _) _ _ s
    refine wpAny_bind (W.done s _ _ st fun s' hm => ?_)
    show wpAny _ A.in1 (ret Value.none) _ _ s'
    have q := stay hm hS
    rw [← hn, List.take_length] at q
    exact wpAny_pure (hR s' (hm.mono more) q)
  | succ k ih =>
    intro i s hk hi st hS hR
    have lt : i < n := by omega
    refine codeAny_builtin PyProof.Rows.F.entry_set_update_loop ?_
    rw [Around.under_plainId PyProof.Rows.F.plain_set_update_loop _]
    show wpAny _ A.in1 (pyNext (.ref I) >>= _) _ _ s
    refine wpAny_bind (W.item i s _ _ lt st fun v s' hP st' hm => ?_)
    obtain ⟨t, rfl⟩ := hv i v hP
    have lx : i < xs.length := by omega
    have eg : xs.getD i Str.empty = xs[i] := by simp [List.getD, List.getElem?_eq_getElem lx]
    rw [eg]
    show wpAny _ A.in1 (holding [Value.str xs[i] t] (setAdd S (.str xs[i] t)) >>= _) _ _ s'
    refine wpAny_bind (wpAny_holding ?_)
    unfold setAdd
    refine wpAny_holding (wpAny_bind ((PySem.strKind prog w).pyHash (k := xs[i]) (strKind_is _ _ _ _) ?_))
    have hS' := stay hm hS
    have room : (mets (xs.take i)).length + 1 < scanBound := by
      have h1 := mets_len_le (xs.take i)
      rw [List.length_take] at h1
      omega
    refine wpAny_setAddHashed_of (knd := PySem.strKind prog w) (s := { s' with toks := s'.toks + 1 }) (strKind_is _ _ _ _) rfl hS' room fun h' hsb hS2 => ?_
    have et : xs.take (i + 1) = xs.take i ++ [xs[i]] := by rw [List.take_succ, List.getElem?_eq_getElem lx]; rfl
    have hSi : h'.SetOf (PySem.strKind prog w) S (fun z => (mets (xs.take (i + 1))).any (· == z)) (mets (xs.take (i + 1))).length :=
      PyProof.Rows.SetOf_congr hS2 (fun z => by rw [et, mets_snoc, ins1_any]) (by rw [et, mets_snoc, ins1_len])
    have other : ∀ b, b ≠ S → ∀ o, s'.heap.get? b = some o → h'.get? b = some o := fun b hb o e => (hsb.2 b hb).trans e
    refine wpAny_pure ⟨plainId_quiet PyProof.Rows.F.plain_set_update_loop _, ih (i + 1) _ (by omega) lt (W.frame _ s' _ _ st' (Nat.le_succ _) fun b hb o e => other b (fun z => hSf (z ▸ hb)) o e) hSi fun s'' hm2 hS3 => ?_⟩
    exact hR s'' (Moved.trans W.gtrans ((hm.mono more).then_heap (Nat.le_succ _) fun b o hb e => other b (fun z => hb (z ▸ List.mem_cons_self)) o e) hm2) hS3
end
section
variable {prog : Program} {w : World} {A : Around} {E : Value → Shared → Prop} {s : Shared}
theorem set_of_strs {l : Addr} {its : Array Value} {xs : List Str} {Q : Value → Shared → Prop} (hh : A.handled = none) (hl : s.heap.IsList l its) (hi : PyProof.Rows.StrsAre its.toList xs) (hb : its.size + 1 < scanBound)
    (h : ∀ (h' : Heap) (tk : Nat), h'.SetOf (PySem.strKind prog w) s.heap.objs.size (fun z => (mets xs).any (· == z)) (mets xs).length → (∀ b o, b < s.heap.objs.size → s.heap.get? b = some o → h'.get? b = some o) →
      Q (.ref s.heap.objs.size) { s with heap := h', toks := tk }) : wpAny (model prog w) A (call (.type "set") [.ref l]) Q E s := by
  obtain ⟨c, tl, m1⟩ := PySem.F.called_set.mro
  have m2 := PySem.F.called_set.made
  have m3 := PySem.F.called_set.sub
  refine wpAny_call (codeAny_of_tree ?_)
  show wpAny _ _ (callAny (.type "set") _) _ _ _
  refine wpAny_pure ⟨Code.quiet_builtin _ (by decide +kernel), codeAny_builtin PySem.F.entry_type_call ?_⟩
  rw [Around.under_plain (weight_type_call_type "set" [.ref l] []) rfl]
  have m4 := PySem.F.called_set.notType
  have m5 := PySem.F.called_set.canCreate
  have m6 := PySem.F.typeCall_set_1 (.ref l)
  repeat (any_goals (first | assumption | wp_step))
  refine codeAny_mono (code_set_new_1 (.ref l) (E := E) (Q₁ := fun obj s₁ => ∃ led : Bool, obj = .ref s.heap.objs.size ∧ s₁ = { s with heap := s.heap.push { cls := .type "set", dict := none, data := .set #[] 0 (.fresh 0 0 led) } }) fun led => ⟨led, rfl, rfl⟩) fun r s₁ hr => ?_
  cases r with
  | error e => exact hr
  | ok fl =>
    cases fl with
    | ret obj =>
      obtain ⟨led, rfl, rfl⟩ := hr
      have gS : (s.heap.push ({ cls := .type "set", dict := none, data := .set #[] 0 (.fresh 0 0 led) } : Obj)).get? s.heap.objs.size = some ({ cls := .type "set", dict := none, data := .set #[] 0 (.fresh 0 0 led) } : Obj) := Heap.get?_push_size _ rfl
      have tS : Shared.TypeIs { s with heap := s.heap.push ({ cls := .type "set", dict := none, data := .set #[] 0 (.fresh 0 0 led) } : Obj) } (.ref s.heap.objs.size) "set" := ⟨_, gS, rfl⟩
      have m7 := PySem.F.called_set.init.lookup
      have m8 := PySem.F.called_set.init.bind (.ref s.heap.objs.size)
      repeat (any_goals (first | assumption | wp_step))
      refine codeAny_mono (codeAny_call_builtin (R := wants (fun r s₂ => r = .none ∧ ∃ h' tk, s₂ = { s with heap := h', toks := tk } ∧ h'.SetOf (PySem.strKind prog w) s.heap.objs.size (fun z => (mets xs).any (· == z)) (mets xs).length ∧
          (∀ b o, b < s.heap.objs.size → s.heap.get? b = some o → h'.get? b = some o)) E) PySem.F.called_set.init.plain PySem.F.entry_set_init (check_set_init_1 tS ?_)) fun r₂ s₂ hr₂ => ?_
      · obtain ⟨ol, hol, hcl, nl, hdl⟩ := hl
        obtain ⟨ocls, odict, odata, oslots⟩ := ol
        simp only at hcl hdl
        subst hcl; subst hdl
        have k1 : (s.heap.push ({ cls := .type "set", dict := none, data := .set #[] 0 (.fresh 0 0 led) } : Obj)).get? l = some { cls := .type "list", dict := odict, data := .seq its nl, slots := oslots } := Heap.get?_push_of_some _ hol
        have m9 := PySem.F.sub_list_set
        have m10 := PySem.F.sub_list_frozenset
        have m11 : (Value.type "list" == Value.type "dict") = false := by decide
        have k2 : (s.heap.push ({ cls := .type "set", dict := none, data := .set #[] 0 (.fresh 0 0 led) } : Obj)).IsList l its := ⟨_, k1, rfl, nl, rfl⟩
        unfold Builtin.«set.__init__» noKeywords Builtin.Frozenset.updateFrom
        generalize hPI : pyIter = PI
        wp_walk
        subst hPI
        refine wpAny_pyIter_list k2 (wpAny_bind (wpAny_runValue ?_))
        have lS : l < s.heap.objs.size := Heap.lt_size hol
        have size1 : (s.heap.push ({ cls := .type "set", dict := none, data := .set #[] 0 (.fresh 0 0 led) } : Obj)).objs.size = s.heap.objs.size + 1 := Heap.size_push ..
        have h3 : A.in1.in1.in1.handled = none := hh
        have nI : l ≠ (s.heap.push ({ cls := .type "set", dict := none, data := .set #[] 0 (.fresh 0 0 led) } : Obj)).objs.size := by rw [size1]; exact Nat.ne_of_lt (Nat.lt_succ_of_lt lS)
        have nS : s.heap.objs.size ∉ [(s.heap.push ({ cls := .type "set", dict := none, data := .set #[] 0 (.fresh 0 0 led) } : Obj)).objs.size, l] := by
          rw [size1]
          intro z
          rcases List.mem_cons.mp z with z | z
          · exact absurd z (Nat.ne_of_lt (Nat.lt_succ_self _))
          · exact absurd (List.mem_singleton.mp z) (Nat.ne_of_gt lS)
        have len : xs.length = its.size := by rw [← StrsAre.len_eq hi, Array.length_toList]
        refine upd_loop ((Walks.list h3 _ l nI its).toS) s.heap.objs.size nS xs len (fun i v hv => SS.strs_at hi i v (by rw [Array.getElem?_toList]; exact hv)) hb (its.size - 0) 0 _ (by omega) (Nat.zero_le _) ⟨⟨_, Heap.get?_push_size _ rfl, rfl, rfl⟩, (k2.push _)⟩ ?hS0 ?hR
        case hS0 =>
          have g2 : ((s.heap.push ({ cls := .type "set", dict := none, data := .set #[] 0 (.fresh 0 0 led) } : Obj)).push { cls := .type "list_iterator", data := .fields #[.ref l, .int 0 0] }).get? s.heap.objs.size = some ({ cls := .type "set", dict := none, data := .set #[] 0 (.fresh 0 0 led) } : Obj) := Heap.get?_push_of_some _ gS
          exact PyProof.Rows.SetOf_congr ((PyProof.Rows.setObjOf_fresh (knd := PySem.strKind prog w) led).setOf g2 (by unfold scanBound; omega)) (fun _ => rfl) rfl
        case hR =>
          rintro ⟨h', g', d', tk', os'⟩ hm hS'
          obtain rfl : g' = s.gens := hm.gens
          obtain rfl : d' = s.drawn := hm.drawn
          obtain rfl : os' = s.os := hm.os
          show wpAny _ _ _ _ _ _
          refine wpAny_pure ?_
          show wpAny _ _ (ret Value.none) _ _ _
          refine wpAny_pure ⟨rfl, h', tk', rfl, hS', fun b o hb e => ?_⟩
          refine hm.heap b o ?_ (Heap.get?_push_of_some _ (Heap.get?_push_of_some _ e))
          intro z
          rcases List.mem_cons.mp z with z | z
          · exact absurd z (Nat.ne_of_lt hb)
          · rw [List.mem_singleton.mp z, size1] at hb
            exact absurd (Nat.lt_of_succ_lt hb) (Nat.lt_irrefl _)
      · cases r₂ with
        | error e => exact hr₂
        | ok f2 =>
          cases f2 with
          | ret r =>
            obtain ⟨rfl, h', tk, rfl, q1, q2⟩ := hr₂
            repeat (any_goals (first | assumption | wp_step))
            exact h _ _ q1 q2
          | _ => exact hr₂.elim
    | _ => exact hr.elim
end
end Vf
end
section
set_option Elab.async false
set_option linter.all false
set_option maxRecDepth 100000
set_option maxHeartbeats 8000000
namespace Vf
open PySem PySem.Spec PyProof.Rows L2 GxR GenW
section
variable {X : Cx}
/-- len(set(texts)), texts a list -/
def tLenSetS (K : PySem.W.Frag) (ta : TE) : TE := fun σ H Q => ta σ H fun x H1 => ∃ (l : Addr) (xs : List Str), x = .ref l ∧ SqL K H1 l (xs.map V.str) ∧ xs.length ≤ 4000 ∧ Q (.int ((mets xs).length : Nat)) H1
theorem strs_vals : ∀ {xs : List Str} {us : List Value}, Vals (xs.map V.str) us → StrsAre us xs
  | [], us, r => by cases r; exact StrsAre.nil
  | x :: xs, us, r => by
    cases r with
    | cons a b =>
      obtain ⟨t, rfl⟩ := a
      exact StrsAre.cons _ _ (strs_vals b)
theorem pe_lenSetS {K : PySem.W.Frag} {a : Expr} {ta : TE} {p p2 q pos : Pos} (hK : X.K = K) (hg : Gl X "len") (hm : X.mg "len" = none) (hg2 : Gl X "set") (hm2 : X.mg "set" = none) (ha : PE X a ta) (hc : X.calm = true := by rfl)
    (na : starEach [a] X.env = (false, eval a X.env) :: starEach [] X.env := by rfl) : PE X (.Call (.Name "len" p) [.Call (.Name "set" p2) [a] [] q] [] pos) (tLenSetS K ta) := by
  subst hK
  refine ⟨fun pins s σ H Q I h => Call_ (ld_blt I hg hm boot_len ?_)⟩
  refine PyProof.Rows.callWith_builtin1 (PyProof.Rows.args_cons ?_ rfl) rfl rfl
  refine Call_ (ld_blt I hg2 hm2 boot_set ?_)
  refine PyProof.Rows.callWith_type1 (PyProof.Rows.args_cons (thn (ha.run pins s σ H _ I h) ?_) na) na rfl
  rintro v s1 ⟨x, H1, I1, r1, l, xs, rfl, hq, hl, q1⟩
  refine PyProof.Rows.args_nil ?_
  cases r1
  obtain ⟨its, r, pl, hz⟩ := I1.list hq
  have hlen : its.toArray.size = xs.length := by rw [List.size_toArray, ← r.length, List.length_map]
  have hml := mets_len_le xs
  refine set_of_strs (I1.ok.hd hc) pl.isList (xs := xs) (by simpa using strs_vals r) (by rw [hlen]; unfold scanBound; omega) fun h' tk hS hk => ?_
  refine PyProof.Rows.args_nil ?_
  obtain ⟨o, es, ep, t, ho, hex, hd, _, _, _, hf, hn⟩ := hS
  have I2 : Inv X pins σ H1 { s1 with heap := h', toks := tk } := I1.kept fun b o e => hk b o (Heap.lt_size e) e
  exact call_len_set ho hex hd hf (by rw [hn] <;> omega) ⟨.int (mets xs).length, H1, I2.tok _, ⟨_, by rw [hn]⟩, q1⟩
end
end Vf
end
section
set_option Elab.async false
set_option linter.all false
set_option maxRecDepth 100000
set_option maxHeartbeats 4000000
namespace Vf
open PySem PySem.Spec PyProof.Rows L2 GxR GenW RZ
/-! ### isinstance of data -/
def clsOf : PyData → String
  | .none => "NoneType"
  | .bool _ => "bool"
  | .int _ => "int"
  | .str _ => "str"
  | .list _ => "list"
  | .tuple _ => "tuple"
  | .dict _ => "dict"
def isaD (T : String) : PyData → Bool
  | .none => T == "NoneType"
  | .bool _ => T == "bool" || T == "int"
  | .int _ => T == "int"
  | .str _ => T == "str"
  | .list _ => T == "list"
  | .tuple _ => T == "tuple"
  | .dict _ => T == "dict"
theorem kitD (T : String) (h : T = "tuple" ∨ T = "str" ∨ T = "int" ∨ T = "bool" ∨ T = "list") (d : PyData) : kitB (clsOf d) T = some (isaD T d) := by
  rcases h with rfl | rfl | rfl | rfl | rfl <;> cases d <;> (simp only [clsOf, isaD]; decide +kernel)
section
variable {X : Cx}
theorem tyD {K : PySem.W.Frag} {H : Hp} {v : V} {d : PyData} (h : Dd K H v d) : TyX K H v (.type (clsOf d)) := by
  cases h with
  | non => exact .base .non
  | bl b => exact .base (.bl b)
  | int i => exact .base (.int i)
  | str x => exact .base (.str x)
  | lst h1 _ =>
    rcases h1 with (h1 | ⟨o, h1⟩) | ⟨o, its, n, h1, h2, _⟩
    · exact .base (.lst h1)
    · exact .base (.frz h1)
    · exact .kList h1 h2
  | tup h1 _ =>
    rcases h1 with (h1 | ⟨o, h1⟩) | ⟨o, its, n, h1, h2, _⟩
    · exact .base (.tup h1)
    · exact .fTuple h1
    · exact .kTuple h1 h2
  | dct h1 => exact .base (.dK h1)
/-- isinstance(x, T), x data, T a built-in class's name -/
theorem call_isD {K : PySem.W.Frag} (hK : X.K = K) : CallR X (.builtin "isinstance") (fun xs H Q => ∃ (x : V) (d : PyData) (T : String), xs = [x, .ty T] ∧ Dd K H x d ∧ (T = "tuple" ∨ T = "str" ∨ T = "int" ∨ T = "bool" ∨ T = "list") ∧ Q (.bl (isaD T d)) H) := by
  subst hK
  intro pins s σ H xs us Q I r h
  obtain ⟨x, d, T, rfl, hd, hT, q⟩ := h
  exact call_isi pins s σ H _ us Q I r ⟨x, .ty T, _, _, _, rfl, .ty T, tyD hd, kit_ty (kitD T hT d), q⟩
theorem vals_at : ∀ {xs : List V} {us : List Value}, xs.length = us.length → (∀ (i : Nat) (x : V) (u : Value), xs[i]? = some x → us[i]? = some u → RelV x u) → Vals xs us
  | [], [], _, _ => .nil
  | [], _ :: _, h, _ => by simp at h
  | _ :: _, [], h, _ => by simp at h
  | x :: xs, u :: us, h, k => .cons (k 0 x u rfl rfl) (vals_at (by simpa using h) fun i y v h1 h2 => k (i + 1) y v (by simpa using h1) (by simpa using h2))
/-- a text's signs as values -/
abbrev sgn (x : Str) : List V := x.cps.toList.map fun c => V.str ⟨#[c]⟩
theorem sgn_vals {x : Str} {acc : Array Value} (h : ItemsOf (SignAt x) acc x.cps.size) : Vals (sgn x) acc.toList := by
  obtain ⟨h1, h2⟩ := h
  refine vals_at (by rw [List.length_map, Array.length_toList, Array.length_toList]; exact h1.symm) fun i y u hy hu => ?_
  rw [Array.getElem?_toList] at hu
  obtain ⟨c, t, hc, rfl⟩ := h2 i u hu
  rw [List.getElem?_map, Array.getElem?_toList, hc] at hy
  cases hy
  exact ⟨t, rfl⟩
structure rLstU (K : PySem.W.Frag) (xs : List V) (H : Hp) (Q : VK) : Prop where
  h : (∃ p ys, xs = [.ref p] ∧ (SqL K H p ys ∨ SqT K H p ys) ∧ ∀ l, H l = none → Q (.ref l) (upd H l (.lst ys))) ∨ (∃ x : Str, xs = [.str x] ∧ x.length ≤ sizeLine ∧ ∀ l, H l = none → Q (.ref l) (upd H l (.lst (sgn x))))
/-- list(x), x a list, a tuple, a text -/
theorem call_listU {K : PySem.W.Frag} (hK : X.K = K) (hc : X.calm = true) : CallR X (.type "list") (rLstU K) := by
  subst hK
  intro pins s σ H xs us Q I r h
  rcases h.h with h | ⟨x, rfl, hz, q⟩
  · exact call_list_of pins s σ H xs us Q I r h
  · obtain ⟨u, rfl, t, rfl⟩ := vals1 r
    refine call_list_str (I.ok.hd hc) x t (fun h' tk acc c hk hS ha => ?_) hz
    have hn : H s.heap.objs.size = none := I.hok.fresh (Nat.le_refl _)
    exact ⟨.ref s.heap.objs.size, upd H s.heap.objs.size (.lst (sgn x)), I.laid hk (Nat.le_refl _) ⟨by rw [List.length_map, Array.length_toList]; exact hz, acc.toList, c, sgn_vals ha, hS⟩, rfl, q _ hn⟩
theorem lsU_s {K : PySem.W.Frag} {H : Hp} {Q : VK} {x : Str} (hz : x.length ≤ sizeLine) (q : ∀ l, H l = none → Q (.ref l) (upd H l (.lst (sgn x)))) : rLstU K [.str x] H Q := ⟨.inr ⟨x, rfl, hz, q⟩⟩
theorem lsU_q {K : PySem.W.Frag} {H : Hp} {Q : VK} {p : Addr} {ys : List V} (h : SqL K H p ys ∨ SqT K H p ys) (q : ∀ l, H l = none → Q (.ref l) (upd H l (.lst ys))) : rLstU K [.ref p] H Q := ⟨.inl ⟨p, ys, rfl, h, q⟩⟩
end

/-! ### the turns of an any, an all -/
section
variable {cont : Bool} {j : Nat} {σ0 : L2.St} {te : TE} {K : PySem.W.Frag} {a : Addr} {xs : List V} {Q : VK} {H2 : Hp}
theorem turns_T (Pv : Nat → Hp → Prop) (h0 : Pv 0 H2) (hl : ∀ i H, i ≤ xs.length → Pv i H → SqT K H a xs)
    (hs : ∀ i x H, xs[i]? = some x → Pv i H → te (σ0.set j (some x)) H fun z H4 => ∃ c, z = .bl c ∧ (if c = cont then Pv (i + 1) H4 else Q (.bl (!cont)) H4)) (hd : ∀ H, Pv xs.length H → Q (.bl cont) H) :
    ∃ W : Nat → Nat → Hp → Prop, (∃ m, W 0 m H2) ∧ Turns cont j σ0 tYes te (Itt K a) Q W := by
  refine ⟨fun i m H => i + m = xs.length ∧ Pv i H, ⟨xs.length, Nat.zero_add _, h0⟩, fun i m H ⟨hm, p⟩ => ?_⟩
  have q := hl i H (by omega) p
  cases m with
  | zero =>
    have e : i = xs.length := by omega
    subst e
    exact .inl ⟨⟨xs, q, Nat.le_refl _⟩, hd H p⟩
  | succ m =>
    have hi : i < xs.length := by omega
    refine .inr ⟨⟨xs, xs[i], q, List.getElem?_eq_getElem hi⟩, Pv (i + 1), fun H' p' => ⟨m, Nat.lt_succ_self _, by omega, p'⟩, ?_⟩
    rintro y H' ⟨rfl, hy⟩
    exact hs i y _ (hy xs q) p
theorem turns_L (Pv : Nat → Hp → Prop) (h0 : Pv 0 H2) (hl : ∀ i H, i ≤ xs.length → Pv i H → SqL K H a xs)
    (hs : ∀ i x H, xs[i]? = some x → Pv i H → te (σ0.set j (some x)) H fun z H4 => ∃ c, z = .bl c ∧ (if c = cont then Pv (i + 1) H4 else Q (.bl (!cont)) H4)) (hd : ∀ H, Pv xs.length H → Q (.bl cont) H) :
    ∃ W : Nat → Nat → Hp → Prop, (∃ m, W 0 m H2) ∧ Turns cont j σ0 tYes te (Itl K a) Q W := by
  refine ⟨fun i m H => i + m = xs.length ∧ Pv i H, ⟨xs.length, Nat.zero_add _, h0⟩, fun i m H ⟨hm, p⟩ => ?_⟩
  have q := hl i H (by omega) p
  cases m with
  | zero =>
    have e : i = xs.length := by omega
    subst e
    exact .inl ⟨⟨xs, q, Nat.le_refl _⟩, hd H p⟩
  | succ m =>
    have hi : i < xs.length := by omega
    refine .inr ⟨⟨xs, xs[i], q, List.getElem?_eq_getElem hi⟩, Pv (i + 1), fun H' p' => ⟨m, Nat.lt_succ_self _, by omega, p'⟩, ?_⟩
    rintro y H' ⟨rfl, hy⟩
    exact hs i y _ (hy xs q) p
theorem turns_S {x : Str} (Pv : Nat → Hp → Prop) (h0 : Pv 0 H2)
    (hs : ∀ i c H, x.cps.toList[i]? = some c → Pv i H → te (σ0.set j (some (.str ⟨#[c]⟩))) H fun z H4 => ∃ c, z = .bl c ∧ (if c = cont then Pv (i + 1) H4 else Q (.bl (!cont)) H4)) (hd : ∀ H, Pv x.cps.toList.length H → Q (.bl cont) H) :
    ∃ W : Nat → Nat → Hp → Prop, (∃ m, W 0 m H2) ∧ Turns cont j σ0 tYes te (Its x) Q W := by
  refine ⟨fun i m H => i + m = x.cps.toList.length ∧ Pv i H, ⟨_, Nat.zero_add _, h0⟩, fun i m H ⟨hm, p⟩ => ?_⟩
  have e2 : x.cps.toList.length = x.cps.size := Array.length_toList
  cases m with
  | zero =>
    have e : i = x.cps.toList.length := by omega
    subst e
    exact .inl ⟨by show x.cps.size ≤ _; omega, hd H p⟩
  | succ m =>
    refine .inr ⟨by show i < x.cps.size; omega, Pv (i + 1), fun H' p' => ⟨m, Nat.lt_succ_self _, by omega, p'⟩, ?_⟩
    rintro y H' ⟨rfl, c, hc, rfl⟩
    exact hs i c _ (by rw [Array.getElem?_toList]; exact hc) p
end

/-! ### comprehensions over a text, over zip -/
section
variable {K : PySem.W.Frag} {g : TG} {tt : TT} {te : TE} {vs : List Nat} {σ : L2.St} {H1 : Hp} {D : Addr} {Qd : Hp → Prop}
theorem lc_S {x : Str} (Pv : Nat → Hp → Prop) (h0 : Pv 0 (upd H1 D (.lst [])))
    (hs : ∀ i c H, x.cps.toList[i]? = some c → Pv i H → g (.str ⟨#[c]⟩) (wipe σ vs) H fun σ2 H2 => wipe σ2 vs = wipe σ vs ∧ tt σ2 H2 fun b H3 =>
      if b = true then te σ2 H3 fun y H4 => ∃ acc, H4 D = some (.lst acc) ∧ acc.length < sizeLine ∧ Pv (i + 1) (upd H4 D (.lst (acc ++ [y]))) else Pv (i + 1) H3) (hd : ∀ H, Pv x.cps.toList.length H → Qd H) :
    ∃ W : Nat → Nat → Hp → Prop, (∃ m, W 0 m (upd H1 D (.lst []))) ∧ ∀ i m H, W i m H →
      ((Its x).stop i H ∧ Qd H) ∨ ((Its x).go i H ∧ ∃ Nx : Hp → Prop, (∀ H', Nx H' → ∃ m', m' < m ∧ W (i + 1) m' H') ∧ ∀ y H', (Its x).yld i H y H' → g y (wipe σ vs) H' fun σ2 H2 => wipe σ2 vs = wipe σ vs ∧ tt σ2 H2 fun b H3 =>
        if b = true then te σ2 H3 fun y H4 => ∃ acc, H4 D = some (.lst acc) ∧ acc.length < sizeLine ∧ Nx (upd H4 D (.lst (acc ++ [y]))) else Nx H3) := by
  refine ⟨fun i m H => i + m = x.cps.toList.length ∧ Pv i H, ⟨_, Nat.zero_add _, h0⟩, fun i m H ⟨hm, p⟩ => ?_⟩
  have e2 : x.cps.toList.length = x.cps.size := Array.length_toList
  cases m with
  | zero =>
    have e : i = x.cps.toList.length := by omega
    subst e
    exact .inl ⟨by show x.cps.size ≤ _; omega, hd H p⟩
  | succ m =>
    refine .inr ⟨by show i < x.cps.size; omega, Pv (i + 1), fun H' p' => ⟨m, Nat.lt_succ_self _, by omega, p'⟩, ?_⟩
    rintro y H' ⟨rfl, c, hc, rfl⟩
    exact hs i c _ (by rw [Array.getElem?_toList]; exact hc) p
theorem lc_zT {a b : Addr} {xs ys : List V} (hl : xs.length = ys.length) (Pv : Nat → Hp → Prop) (h0 : Pv 0 (upd H1 D (.lst []))) (hq : ∀ i H, Pv i H → SqT K H a xs ∧ SqT K H b ys)
    (hs : ∀ i x y T H, xs[i]? = some x → ys[i]? = some y → Pv i H → H T = none → g (.ref T) (wipe σ vs) (upd H T (.tup [x, y])) fun σ2 H2 => wipe σ2 vs = wipe σ vs ∧ tt σ2 H2 fun b H3 =>
      if b = true then te σ2 H3 fun y H4 => ∃ acc, H4 D = some (.lst acc) ∧ acc.length < sizeLine ∧ Pv (i + 1) (upd H4 D (.lst (acc ++ [y]))) else Pv (i + 1) H3) (hd : ∀ H, Pv xs.length H → Qd H) :
    ∃ W : Nat → Nat → Hp → Prop, (∃ m, W 0 m (upd H1 D (.lst []))) ∧ ∀ i m H, W i m H →
      ((ItzT K a b).stop i H ∧ Qd H) ∨ ((ItzT K a b).go i H ∧ ∃ Nx : Hp → Prop, (∀ H', Nx H' → ∃ m', m' < m ∧ W (i + 1) m' H') ∧ ∀ y H', (ItzT K a b).yld i H y H' → g y (wipe σ vs) H' fun σ2 H2 => wipe σ2 vs = wipe σ vs ∧ tt σ2 H2 fun b H3 =>
        if b = true then te σ2 H3 fun y H4 => ∃ acc, H4 D = some (.lst acc) ∧ acc.length < sizeLine ∧ Nx (upd H4 D (.lst (acc ++ [y]))) else Nx H3) := by
  refine ⟨fun i m H => i + m = xs.length ∧ Pv i H, ⟨_, Nat.zero_add _, h0⟩, fun i m H ⟨hm, p⟩ => ?_⟩
  obtain ⟨q1, q2⟩ := hq i H p
  cases m with
  | zero =>
    have e : i = xs.length := by omega
    subst e
    exact .inl ⟨⟨xs, ys, q1, q2, .inl (Nat.le_refl _)⟩, hd H p⟩
  | succ m =>
    have h1 : i < xs.length := by omega
    have h2 : i < ys.length := by omega
    refine .inr ⟨⟨xs, ys, xs[i], ys[i], q1, q2, List.getElem?_eq_getElem h1, List.getElem?_eq_getElem h2⟩, Pv (i + 1), fun H' p' => ⟨m, Nat.lt_succ_self _, by omega, p'⟩, ?_⟩
    rintro z H' ⟨T, x, y, rfl, hT, rfl, hx, hy⟩
    exact hs i x y T H (hx xs q1) (hy ys q2) p hT
theorem lc_zL {a b : Addr} {xs ys : List V} (hl : xs.length = ys.length) (Pv : Nat → Hp → Prop) (h0 : Pv 0 (upd H1 D (.lst []))) (hq : ∀ i H, Pv i H → SqL K H a xs ∧ SqL K H b ys)
    (hs : ∀ i x y T H, xs[i]? = some x → ys[i]? = some y → Pv i H → H T = none → g (.ref T) (wipe σ vs) (upd H T (.tup [x, y])) fun σ2 H2 => wipe σ2 vs = wipe σ vs ∧ tt σ2 H2 fun b H3 =>
      if b = true then te σ2 H3 fun y H4 => ∃ acc, H4 D = some (.lst acc) ∧ acc.length < sizeLine ∧ Pv (i + 1) (upd H4 D (.lst (acc ++ [y]))) else Pv (i + 1) H3) (hd : ∀ H, Pv xs.length H → Qd H) :
    ∃ W : Nat → Nat → Hp → Prop, (∃ m, W 0 m (upd H1 D (.lst []))) ∧ ∀ i m H, W i m H →
      ((Itz K a b).stop i H ∧ Qd H) ∨ ((Itz K a b).go i H ∧ ∃ Nx : Hp → Prop, (∀ H', Nx H' → ∃ m', m' < m ∧ W (i + 1) m' H') ∧ ∀ y H', (Itz K a b).yld i H y H' → g y (wipe σ vs) H' fun σ2 H2 => wipe σ2 vs = wipe σ vs ∧ tt σ2 H2 fun b H3 =>
        if b = true then te σ2 H3 fun y H4 => ∃ acc, H4 D = some (.lst acc) ∧ acc.length < sizeLine ∧ Nx (upd H4 D (.lst (acc ++ [y]))) else Nx H3) := by
  refine ⟨fun i m H => i + m = xs.length ∧ Pv i H, ⟨_, Nat.zero_add _, h0⟩, fun i m H ⟨hm, p⟩ => ?_⟩
  obtain ⟨q1, q2⟩ := hq i H p
  cases m with
  | zero =>
    have e : i = xs.length := by omega
    subst e
    exact .inl ⟨⟨xs, ys, q1, q2, .inl (Nat.le_refl _)⟩, hd H p⟩
  | succ m =>
    have h1 : i < xs.length := by omega
    have h2 : i < ys.length := by omega
    refine .inr ⟨⟨xs, ys, xs[i], ys[i], q1, q2, List.getElem?_eq_getElem h1, List.getElem?_eq_getElem h2⟩, Pv (i + 1), fun H' p' => ⟨m, Nat.lt_succ_self _, by omega, p'⟩, ?_⟩
    rintro z H' ⟨T, x, y, rfl, hT, rfl, hx, hy⟩
    exact hs i x y T H (hx xs q1) (hy ys q2) p hT
end
end Vf
end
section
set_option Elab.async false
set_option linter.all false
set_option maxRecDepth 100000
set_option maxHeartbeats 4000000
/-! sum(elt for a, b in a tuple of pairs), elt quiet. -/
namespace Vf
open PySem PySem.Spec PyProof.Rows L2 GxR GenW RZ
theorem walkPairsT {prog : Program} {w : World} {A : Around} (hh : A.handled = none) (I ax : Addr) (hne : ax ≠ I) (items : Array Value) (Ts : Nat → Addr) (vals : Nat → Array Value)
    (hit : ∀ j, j < items.size → items[j]? = some (.ref (Ts j))) (hTI : ∀ j, j < items.size → Ts j ≠ I) :
    WalksU prog w A I (I :: ax :: (List.range items.size).map Ts) [I] items.size (fun j v => v = vals j ∧ j < items.size)
      (fun j h => h.IsTupleIter I ax j ∧ h.IsTuple ax items ∧ ∀ k, k < items.size → h.IsTuple (Ts k) (vals k))
      (fun j T h => (j < items.size ∧ T = Ts j) ∧ h.IsTupleIter I ax (j + 1) ∧ h.IsTuple ax items ∧ ∀ k, k < items.size → h.IsTuple (Ts k) (vals k)) where
  sub := fun b hb => by simp at hb; simp [hb]
  frame := fun _ _ _ st hk => ⟨st.1.at fun o e => hk I (by simp) o e, st.2.1.at fun o e => hk ax (by simp) o e,
    fun k hk' => (st.2.2 k hk').at fun o e => hk (Ts k) (List.mem_cons_of_mem _ (List.mem_cons_of_mem _ (List.mem_map.mpr ⟨k, List.mem_range.mpr hk', rfl⟩))) o e⟩
  item := fun i s Q E hi st hQ => by
    refine wpAny_pyNext_tuple_item st.1 st.2.1 (x := .ref (Ts i)) (hit i hi) fun h' hit' hs' => ?_
    have tup : ∀ k, k < items.size → h'.IsTuple (Ts k) (vals k) := fun k hk' => (st.2.2 k hk').extBut hs'.extBut (hTI k hk')
    exact hQ (Ts i) (vals i) h' s.toks ⟨rfl, hi⟩ (tup i hi) ⟨⟨hi, rfl⟩, hit', st.2.1.extBut hs'.extBut hne, tup⟩ fun b o hb e => hs'.extBut b o (fun h => hb (by simp [h])) e
  go := fun _ _ _ _ _ s Q _ hm hQ => letGo_tupleiter hm.2.1 (hQ s.heap hm.2 fun _ _ _ e => e)
  apart := fun j T _ hm hmem => by
    rcases List.mem_cons.mp hmem with e | e
    · exact hTI j hm.1.1 (hm.1.2 ▸ e)
    · cases e
  done := fun s Q E st hQ => wpAny_pyNext_tuple_end hh st.1 st.2.1 (by simp) fun h' he' => hQ h' s.toks fun b o hb e => he' b o (fun h => hb (by simp [h])) e
  self := fun _ _ _ _ st hQ => wpAny_pyIter_tupleiter st.1 hQ

/-- a generator expression's own scope, of two names -/
structure GenS2 (env : Env) (scope : Scope) (xa xb : Str) : Prop where
  kind : scope.kind = .function
  co : scope.isCoroutine = false
  cell : ∀ y ∈ scope.names, y.2 ≠ .cell
  dot : scope.names.lookup (".0" : Str) = some NameKind.local
  locA : scope.names.lookup xa = some .local
  locB : scope.names.lookup xb = some .local
  ne : xa ≠ xb
  free : ∀ y ∈ scope.names, y.2 = .free → ∃ c, env.cells.lookup y.1 = some c
/-- the element: of a pair of which the first is v with Pz the int f v -/
def EltI (prog : Program) (w : World) (mg : Str → Option Value) (scope : Scope) (xa xb : Str) (elt : Expr) (Pz : V → Prop) (f : V → Int) : Prop :=
  ∀ (cenv : Env) (A' : Around) (E' : Value → Shared → Prop) (v : V) (ua ub : Value) (s₂ : Shared) (m₂ mb : Str → Option Value), cenv.scope = scope → cenv.globals = mainGlobals → cenv.builtins = builtinsNs → s₂.heap.Ns mainGlobals mg → s₂.heap.Ns builtinsNs mb → (∀ x : Str, x ≠ "__name__" → mb x = bootBuiltins x) →
    Pz v → RelV v ua → s₂.heap.Ns cenv.locals m₂ → m₂ xa = some ua → m₂ xb = some ub → wpAny (model prog w) A' (eval elt cenv) (fun y s₃ => (∃ t', y = .int (f v) t') ∧ Keeps s₂ s₃) E' s₂
/-- the pairs at the places ps -/
def Prs (K : PySem.W.Frag) (H : Hp) : List V → List (V × V) → Prop
  | [], [] => True
  | x :: xs, p :: ps => (∃ b, x = .ref b ∧ SqT K H b [p.1, p.2]) ∧ Prs K H xs ps
  | _, _ => False
theorem Prs.at {K : PySem.W.Frag} {H : Hp} : ∀ {xs : List V} {ps : List (V × V)}, Prs K H xs ps → ∀ {j : Nat} {x : V}, xs[j]? = some x → ∃ b p, x = .ref b ∧ ps[j]? = some p ∧ SqT K H b [p.1, p.2]
  | [], [], _, j, x, h => by simp at h
  | x :: xs, p :: ps, ⟨⟨b, e, s⟩, _⟩, 0, y, h => ⟨b, p, (Option.some.inj h).symm.trans e, rfl, s⟩
  | x :: xs, p :: ps, ⟨_, r⟩, j + 1, y, h => Prs.at r (show xs[j]? = some y from h)
theorem Prs.len {K : PySem.W.Frag} {H : Hp} : ∀ {xs : List V} {ps : List (V × V)}, Prs K H xs ps → xs.length = ps.length
  | [], [], _ => rfl
  | x :: xs, p :: ps, ⟨_, r⟩ => by
    show xs.length + 1 = ps.length + 1
    rw [Prs.len r]
section
variable {X : Cx} {pins : List (Addr × Obj)} {σ : L2.St} {H : Hp} {s : Shared}
def ReadyI (X : Cx) (pins : List (Addr × Obj)) (σ : L2.St) (H1 : Hp) (P : Addr) (ps : List (V × V)) (f : V → Int) (g : Addr) (s5 : Shared) : Prop :=
  ∃ (fp wr : List Addr) (G : Array GenState → Array GenState → Prop) (F : Nat → Value → Prop) (St : Nat → Shared → Prop),
    WalksS X.prog X.w X.A.in1 g fp wr G ps.length F St ∧ St 0 s5 ∧ (∀ b ∈ fp, b < s5.heap.objs.size) ∧ g ∈ fp ∧ (∀ i s9, St i s9 → s9.TypeIs (.ref g) "generator") ∧
    (∀ j v, F j v → ∃ (p : V × V) (t : Tok), ps[j]? = some p ∧ v = .int (f p.1) t) ∧
    ∀ s', Moved wr G s5 s' → ∃ H2, Tabb P H1 H2 ∧ Inv X pins σ H2 s'
theorem gen_prs {c P : Addr} {elt iter : Expr} {xa xb : Str} {pa pb pt : Pos} {kt : Nat} {gpos : Pos} {scope : Scope} {Pz : V → Prop} {f : V → Int} {te : TE} {k : Nat} {Q' : Value → Shared → Prop} {R : List (V × V) → Hp → Prop}
    (hr : Room k X.A) (TB : GxR.TabB X.base X.mg c P) (hcode : X.env.code = .ref c) (S : GenS2 X.env scope xa xb) (hi : PE X iter te) (hel : EltI X.prog X.w X.mg scope xa xb elt Pz f)
    (hs : ∀ v, genFold iter X.env v = pure v) (I : Inv X pins σ H s) (h : te σ H fun v H1 => ∃ (yl : Addr) (xs : List V) (ps : List (V × V)), v = .ref yl ∧ SqT X.K H1 yl xs ∧ Prs X.K H1 xs ps ∧ (∀ p ∈ ps, Pz p.1) ∧ GxR.TabG H1 P ∧ R ps H1)
    (hQ : ∀ ps H1 g s5, R ps H1 → ReadyI X pins σ H1 P ps f g s5 → Q' (.ref g) s5) :
    wpAny (model X.prog X.w) X.A (eval (.GeneratorExp elt [⟨.Tuple [.Name xa pa, .Name xb pb] kt pt, iter, [], 0⟩] scope gpos) X.env) Q' X.xe s := by
  refine wpAny_GeneratorExp_walksQT hr.hd S.co (closure_ok S.free) S.cell S.dot S.locA S.locB S.ne S.kind (by have := hr.dp; omega) ?_ hs
  refine thn (hi.run pins s σ H _ I h) fun xv s1 ⟨v, H1, I1, r1, q1⟩ => ?_
  obtain ⟨yl, xs, prs, rfl, hyl, hpr, hPz, ⟨ps, hP, ht⟩, q1⟩ := q1
  obtain rfl : xv = Value.ref yl := r1
  obtain ⟨its, rv, hIL, hz⟩ := I1.tuple hyl
  have hlen : its.length = prs.length := by rw [← rv.length, hpr.len]
  have hat : ∀ j, j < its.toArray.size → ∃ (b : Addr) (ua ub : Value) (p : V × V), its.toArray[j]? = some (.ref b) ∧ s1.heap.IsTuple b #[ua, ub] ∧ prs[j]? = some p ∧ RelV p.1 ua := fun j hj => by
    have hj2 : j < xs.length := by
      rw [rv.length]
      simpa using hj
    obtain ⟨b, p, ex, hp, sb⟩ := hpr.at (List.getElem?_eq_getElem hj2)
    obtain ⟨u, hu, ru⟩ := rv.get (List.getElem?_eq_getElem hj2)
    rw [ex] at ru
    cases ru
    obtain ⟨it2, rv2, tb, _⟩ := I1.tuple sb
    cases rv2 with
    | cons ra r2 =>
      cases r2 with
      | cons rb r3 =>
        cases r3
        exact ⟨b, _, _, p, by simpa using hu, tb, hp, ra⟩
  refine wpAny_pyIter_tuple hIL ?_
  generalize ho : ({ cls := .type "tuple_iterator", data := .fields #[.ref yl, .int 0 0] } : Obj) = o
  have hitr : (s1.heap.push o).IsTupleIter s1.heap.objs.size yl 0 := by
    subst ho
    exact ⟨_, Heap.get?_push_size _ rfl, rfl, rfl⟩
  have hylt : yl < s1.heap.objs.size := by
    obtain ⟨_, e, _⟩ := _root_.id hIL
    exact Heap.lt_size e
  have hPs : s1.heap.get? P = some { cls := .none, data := .fields ps } := I1.hok P _ hP
  have hPlt : P < s1.heap.objs.size := Heap.lt_size hPs
  have hP2 : (s1.heap.push o).get? P = some { cls := .none, data := .fields ps } := Heap.get?_push_of_some _ hPs
  have cd : PySem.W.CodeHd (s1.heap.push o) c P := TB.code.keeps fun b u e => Heap.get?_push_of_some _ (I1.bk b u e)
  have lim2 : (s1.heap.push o).NoLimit := I1.nolimit.push o
  -- the pairs' objects
  obtain ⟨Ts, vals, hTs⟩ : ∃ (Ts : Nat → Addr) (vals : Nat → Array Value), ∀ j, j < its.toArray.size → ∃ (ua ub : Value) (p : V × V), its.toArray[j]? = some (.ref (Ts j)) ∧ s1.heap.IsTuple (Ts j) (vals j) ∧ vals j = #[ua, ub] ∧ prs[j]? = some p ∧ RelV p.1 ua := by
    have key : ∀ j, ∃ q : Addr × Array Value, j < its.toArray.size → ∃ (ua ub : Value) (p : V × V), its.toArray[j]? = some (.ref q.1) ∧ s1.heap.IsTuple q.1 q.2 ∧ q.2 = #[ua, ub] ∧ prs[j]? = some p ∧ RelV p.1 ua := fun j => by
      by_cases hj : j < its.toArray.size
      · obtain ⟨b, ua, ub, p, e1, e2, e3, e4⟩ := hat j hj
        exact ⟨(b, #[ua, ub]), fun _ => ⟨ua, ub, p, e1, e2, rfl, e3, e4⟩⟩
      · exact ⟨(0, #[]), fun h => absurd h hj⟩
    exact ⟨fun j => (Classical.choose (key j)).1, fun j => (Classical.choose (key j)).2, fun j hj => Classical.choose_spec (key j) hj⟩
  obtain ⟨mb, bl1, bl2⟩ := I1.mod.blt
  have nsP : ∀ {b : Addr} {m : Str → Option Value}, s1.heap.Ns b m → b ≠ P := fun {b m} hn z => by
    obtain ⟨o', es, ep, e1, e2, _⟩ := hn
    rw [z, hPs] at e1
    cases e1
    cases e2
  have tupP : ∀ {b : Addr} {vs : Array Value}, s1.heap.IsTuple b vs → b ≠ P := fun {b vs} hn z => by
    obtain ⟨o', e1, _, n, e2⟩ := hn
    rw [z, hPs] at e1
    cases e1
    cases e2
  have cont : ∀ (code : Value) (h3 : Heap) (tk : Nat) (ps' : Array Value), Heap.ExtBut P (s1.heap.push o) h3 → (s1.heap.push o).objs.size ≤ h3.objs.size → h3.get? P = some { cls := .none, data := .fields ps' } → (∃ more, ps' = ps ++ more) → TriplesOk ps'.toList →
      wpAny (model X.prog X.w) X.A (builtinsFor X.env.globals X.env.builtins) (fun bi s₄ =>
        ∃ Ia fp wr n₀ Pt St₀ Mid pz F, Value.ref s1.heap.objs.size = .ref Ia ∧ (∀ A' : Around, A'.handled = none → WalksU X.prog X.w A' Ia fp wr n₀ Pt St₀ Mid) ∧ (∀ i vals, Pt i vals → ∃ va vb, vals = #[va, vb]) ∧ St₀ 0 s₄.heap ∧ (∀ b ∈ fp, b < s₄.heap.objs.size) ∧ s₄.heap.NoLimit ∧ cStatics ∉ wr ∧
          (∀ href : Heap, (∀ b o, s₄.heap.get? b = some o → href.get? b = some o) →
            QuietGenT X.prog X.w (genEnv scope (cloFrom X.env.cells scope.names []) s₄.heap.objs.size code bi X.env) xa xb [] elt (List.range s₄.heap.objs.size) wr Pt pz F href) ∧
          (∀ a h₅ tk gs, gs.bare = true → s₄.heap.objs.size < a → h₅.objs.size = a + 1 → (∀ b o, s₄.heap.get? b = some o → h₅.get? b = some o) →
            WalksS X.prog X.w X.A.in4 a (a :: s₄.heap.objs.size :: List.range s₄.heap.objs.size) (s₄.heap.objs.size :: wr) (GenOnlyQ s₄.gens.size) (passing pz n₀ 0).length
              (fun j y => ∃ i, (passing pz n₀ 0)[j]? = some i ∧ F i y) (GenAt X.prog X.w X.A.in4 a s₄.gens.size s₄.heap.objs.size (List.range s₄.heap.objs.size) wr pz n₀ F) →
            GenAt X.prog X.w X.A.in4 a s₄.gens.size s₄.heap.objs.size (List.range s₄.heap.objs.size) wr pz n₀ F 0 { s₄ with gens := s₄.gens.push gs, toks := tk, heap := h₅ } →
            Q' (.ref a) { s₄ with gens := s₄.gens.push gs, toks := tk, heap := h₅ })) X.xe { s1 with heap := h3, toks := tk } := by
    intro code h3 tk ps' hx hsz hP3 hmore ht3
    obtain ⟨bm, ob, e1, e2, e3, e4, e5, e6, e7, e8⟩ := TB.bm
    have hcP : cStatics ≠ P := fun e => by
      obtain ⟨_, hns, _⟩ := I1.nolimit
      obtain ⟨o', es, ep, ho, hd, _⟩ := hns
      rw [e, hPs] at ho
      cases ho
      cases hd
    have hcl : cStatics < s1.heap.objs.size := let ⟨_, hns, _⟩ := I1.nolimit; hns.lt
    have sz2 : (s1.heap.push o).objs.size = s1.heap.objs.size + 1 := Heap.size_push ..
    have keep3 : ∀ b u, b ≠ P → s1.heap.get? b = some u → h3.get? b = some u := fun b u hb e => hx b u hb (Heap.get?_push_of_some _ e)
    refine wpAny_builtinsFor (m := X.mg) (by rw [I1.ok.glob]; exact ((I1.mod.glob.keeps I1.bk).push o).extBut hx TB.gP) e1 e2 (keep3 _ _ e4 (I1.bk _ _ e5)) e6 e7 e8 ?_
    have hIL3 : h3.IsTuple yl its.toArray := by
      obtain ⟨ob, e, r⟩ := _root_.id hIL
      exact ⟨ob, keep3 _ _ (tupP hIL) e, r⟩
    have hTup3 : ∀ j, j < its.toArray.size → h3.IsTuple (Ts j) (vals j) := fun j hj => by
      obtain ⟨_, _, _, _, t2, _⟩ := hTs j hj
      have t2' := t2
      obtain ⟨ob, e, r⟩ := t2
      exact ⟨ob, keep3 _ _ (tupP t2') e, r⟩
    have hItr3 : h3.IsTupleIter s1.heap.objs.size yl 0 := hitr.at fun u e => hx _ u (Nat.ne_of_gt hPlt) e
    have hTlt : ∀ j, j < its.toArray.size → Ts j < s1.heap.objs.size := fun j hj => by
      obtain ⟨_, _, _, _, ⟨ob, e, _⟩, _⟩ := hTs j hj
      exact Heap.lt_size e
    refine ⟨s1.heap.objs.size, s1.heap.objs.size :: yl :: (List.range its.toArray.size).map Ts, [s1.heap.objs.size], its.toArray.size, (fun j v => v = vals j ∧ j < its.toArray.size),
      (fun j h => h.IsTupleIter s1.heap.objs.size yl j ∧ h.IsTuple yl its.toArray ∧ ∀ k, k < its.toArray.size → h.IsTuple (Ts k) (vals k)),
      (fun j T h => (j < its.toArray.size ∧ T = Ts j) ∧ h.IsTupleIter s1.heap.objs.size yl (j + 1) ∧ h.IsTuple yl its.toArray ∧ ∀ k, k < its.toArray.size → h.IsTuple (Ts k) (vals k)), (fun _ => true),
      (fun i y => ∃ (p : V × V) (t : Tok), prs[i]? = some p ∧ y = .int (f p.1) t), rfl, (fun A' hA => walkPairsT hA _ _ (Nat.ne_of_lt hylt) its.toArray Ts vals (fun j hj => (hTs j hj).elim fun _ z => z.elim fun _ z => z.elim fun _ z => z.1) (fun j hj => Nat.ne_of_lt (hTlt j hj))), ?_, ⟨hItr3, hIL3, hTup3⟩, ?_, lim2.extBut hx hcP, ?_, ?_, ?_⟩
    · rintro i vs ⟨rfl, hi⟩
      obtain ⟨ua, ub, _, _, _, e, _⟩ := hTs i hi
      exact ⟨ua, ub, e⟩
    · intro b hb
      rcases List.mem_cons.mp hb with z | z
      · rw [z]
        show s1.heap.objs.size < h3.objs.size
        omega
      · have e9 : s1.heap.objs.size ≤ h3.objs.size := by omega
        rcases List.mem_cons.mp z with z | z
        · rw [z]
          exact Nat.lt_of_lt_of_le hylt e9
        · obtain ⟨j, hj, rfl⟩ := List.mem_map.mp z
          exact Nat.lt_of_lt_of_le (hTlt j (List.mem_range.mp hj)) e9
    · intro z
      rcases List.mem_cons.mp z with z | z
      · exact Nat.ne_of_lt hcl z
      · cases z
    · intro href hhref
      refine ⟨fun A' E' i va vb s₂ m₂ hA hPv hn hma hmb hk => ?_, fun A' E' i va vb s₂ m₂ hA hPv hp hn hma hmb hk => ?_⟩
      · simp only [List.forIn_nil]
        exact wpAny_pure ⟨rfl, GxR.keeps_refl _⟩
      · obtain ⟨ev, hi⟩ := hPv
        obtain ⟨ua, ub, p, _, _, e, hp2, rp⟩ := hTs i hi
        rw [e] at ev
        have ea : va = ua := by
          have := congrArg (fun z : Array Value => z[0]?) ev
          simpa using this
        subst ea
        have stay : ∀ {b : Addr} {m : Str → Option Value}, s1.heap.Ns b m → s₂.heap.Ns b m := fun {b m} hn1 => by
          have hbP := nsP hn1
          have hblt := hn1.lt
          refine hn1.at' fun o' e' => hk b ?_ ?_ o' (hhref b o' (keep3 b o' hbP e'))
          · refine List.mem_range.mpr ?_
            have e9 : s1.heap.objs.size ≤ h3.objs.size := by omega
            exact Nat.lt_of_lt_of_le hblt e9
          · intro z
            rcases List.mem_cons.mp z with z | z
            · rw [z] at hblt
              exact Nat.lt_irrefl _ hblt
            · cases z
        refine wpAny_mono (hel _ A' E' p.1 va vb s₂ m₂ mb rfl (by show X.env.globals = _; rw [I1.ok.glob]) rfl (stay (I1.mod.glob.keeps I1.bk)) (stay (bl1.keeps I1.bk)) bl2 (hPz p (List.mem_of_getElem? hp2)) rp hn hma hmb) (fun y s3 r => ?_) fun _ _ e => e
        obtain ⟨⟨t, e⟩, kp⟩ := r
        exact ⟨⟨p, t, hp2, e⟩, kp⟩
    · intro g h5 tk5 gs hgb hag hsz5 hk5 W5 hgat
      simp only [GxR.passing_true, List.length_range] at W5
      have hn5 : its.toArray.size = prs.length := by rw [List.size_toArray, hlen]
      rw [hn5] at W5 hgat
      refine hQ prs H1 g _ q1 ⟨_, _, _, _, _, W5.in4_1, hgat, ?_, List.mem_cons_self, fun i s9 h9 => ?_, ?_, fun s' hm => ?_⟩
      · intro b hb
        show b < h5.objs.size
        have e5 : h5.objs.size = g + 1 := hsz5
        have h8 : h3.objs.size < g := hag
        rw [e5]
        rcases List.mem_cons.mp hb with z | z
        · rw [z]
          exact Nat.lt_succ_self g
        · rcases List.mem_cons.mp z with z | z
          · rw [z]
            exact Nat.lt_succ_of_lt h8
          · have z2 := List.mem_range.mp z
            have h7 : b < h3.objs.size := z2
            exact Nat.lt_succ_of_lt (Nat.lt_trans h7 h8)
      · obtain ⟨hg9, _⟩ := h9
        exact hg9.typeIs
      · intro j v hv
        obtain ⟨i, hij, a, t, ha, e⟩ := hv
        obtain ⟨hj, ej⟩ := List.getElem?_eq_some_iff.mp hij
        rw [List.getElem_range] at ej
        subst ej
        exact ⟨a, t, ha, e⟩
      · obtain ⟨more, em⟩ := hmore
        have nwr : ∀ b u, s1.heap.get? b = some u → b ∉ h3.objs.size :: [s1.heap.objs.size] := fun b u e hb => by
          have hl := Heap.lt_size e
          rcases List.mem_cons.mp hb with z | z
          · rw [z] at hl
            have h9 : (h3.objs.size : Nat) < s1.heap.objs.size := hl
            omega
          · rcases List.mem_cons.mp z with z | z
            · rw [z] at hl
              exact Nat.lt_irrefl _ hl
            · cases z
        have J := GxR.inv_tab (more := more) (h' := s'.heap) (g' := s'.gens) (d' := s'.drawn) (t' := s'.toks) I1 hP (fun b u hb e => hm.heap b u (nwr b u e) (hk5 b u (keep3 b u hb e)))
          (by rw [← em]; exact hm.heap P _ (nwr P _ hPs) (hk5 P _ hP3)) (AllBare.movedS (I1.bare.push hgb) hm)
        rw [GxR.sh_eta s1 s' hm.os] at J
        exact ⟨upd H1 P (.tbl (ps ++ more)), ⟨ps, more, hP, ht, by rw [← em]; exact ht3, rfl⟩, J⟩
  refine ⟨lim2, ?_⟩
  cases hf : codeAmong gpos ps.toList with
  | none =>
    refine wpAny_genexprCodeX hcode (cd.code hP2 ht) (cd.tab hP2) hf fun c' h' tk hx hge hlt hco' _ htab' _ => ?_
    obtain ⟨o1, vs, f1, tf, fl, tg, inF, tx, tt, op, _, _, _, _, _, _, _, _, _, htr, _⟩ := hco'
    exact cont _ h' tk _ hx (Nat.le_trans hge (Nat.le_of_lt hlt)) htab'.2 ⟨_, rfl⟩ htr
  | some cv =>
    refine wpAny_genexprCode_hit hcode (cd.code hP2 ht) hf ?_
    exact cont cv (s1.heap.push o) s1.toks ps (Heap.ExtBut.refl _ _) (Nat.le_refl _) hP2 ⟨#[], by simp⟩ ht
/-- sum(elt for a, b in iter) -/
def tSumG (K : PySem.W.Frag) (P : Addr) (Pz : V → Prop) (f : V → Int) (te : TE) : TE := fun σ H Q => te σ H fun v H1 => ∃ (yl : Addr) (xs : List V) (ps : List (V × V)), v = .ref yl ∧ SqT K H1 yl xs ∧ Prs K H1 xs ps ∧ (∀ p ∈ ps, Pz p.1) ∧ GxR.TabG H1 P ∧ ∀ H2, Tabb P H1 H2 → Q (.int ((ps.map fun p => f p.1).sum)) H2
theorem preSum_sum (ps : List (V × V)) (f : V → Int) : ∀ n, n ≤ ps.length → preSum (fun j => ((ps[j]?).map fun p => f p.1).getD 0) n = ((ps.take n).map fun p => f p.1).sum
  | 0, _ => rfl
  | n + 1, h => by
    have hn : n < ps.length := h
    rw [List.take_succ, List.getElem?_eq_getElem hn, List.map_append, List.sum_append, ← preSum_sum ps f n (Nat.le_of_lt hn)]
    show preSum _ n + ((ps[n]?).map fun p => f p.1).getD 0 = _
    rw [List.getElem?_eq_getElem hn]
    simp
theorem pe_sumG {P : Addr} {elt iter : Expr} {xa xb : Str} {pa pb pt : Pos} {kt : Nat} {gpos p pos : Pos} {scope : Scope} {Pz : V → Prop} {f : V → Int} {te : TE} {k : Nat} {K : PySem.W.Frag} (hK : X.K = K)
    (hr : Room k X.A) (hg : Gl X "sum") (hm : X.mg "sum" = none) (hb : bootBuiltins "sum" = some (.builtin "sum")) {c : Addr} (TB : GxR.TabB X.base X.mg c P) (hcode : X.env.code = .ref c) (S : GenS2 X.env scope xa xb) (hi : PE X iter te) (hel : EltI X.prog X.w X.mg scope xa xb elt Pz f)
    (hs : ∀ v, genFold iter X.env v = pure v)
    (he : starEach [.GeneratorExp elt [⟨.Tuple [.Name xa pa, .Name xb pb] kt pt, iter, [], 0⟩] scope gpos] X.env = (false, eval (.GeneratorExp elt [⟨.Tuple [.Name xa pa, .Name xb pb] kt pt, iter, [], 0⟩] scope gpos) X.env) :: starEach [] X.env := by rfl)
    (hpl : (backTo pos (starEach [] X.env)).any (·.1) = false := by rfl) :
    PE X (.Call (.Name "sum" p) [.GeneratorExp elt [⟨.Tuple [.Name xa pa, .Name xb pb] kt pt, iter, [], 0⟩] scope gpos] [] pos) (tSumG K P Pz f te) := by
  subst hK
  refine ⟨fun pins s σ H Q I h => ?_⟩
  refine wpAny_Call_Name_kw (ld_blt I hg hm hb ?_ (by decide) (by decide))
  refine PyProof.Rows.callWith_builtin1 ?_ he hpl
  rw [he]
  show wpAny _ _ (spliced ((false, eval (.GeneratorExp elt [⟨.Tuple [.Name xa pa, .Name xb pb] kt pt, iter, [], 0⟩] scope gpos) X.env) :: backTo pos (starEach [] X.env))) _ _ s
  refine Calls.spliced_cons (gen_prs (R := fun (ps : List (V × V)) (H1 : Hp) => ∀ H2, Tabb P H1 H2 → Q (.int ((ps.map fun (z : V × V) => f z.1).sum)) H2) hr TB hcode S hi hel hs I h fun ps H1 g s5 hR hG => ?_)
  refine Calls.spliced_nil ?_
  obtain ⟨fp, wr, G, F, St, W, hst, hfp, hgf, hT, hF, hinv⟩ := hG
  refine call_sum_walkAnyS (W.self 0 _ _ _ hst ⟨g, fp, wr, G, ps.length, F, St, (fun j => ((ps[j]?).map fun p => f p.1).getD 0), rfl, W, hst, hfp, fun i v hv => ?_, fun s' t' hm => ?_⟩)
  · obtain ⟨p, t, hp, rfl⟩ := hF i v hv
    refine ⟨t, ?_⟩
    show Value.int (f p.1) t = Value.int (((ps[i]?).map fun p => f p.1).getD 0) t
    rw [hp]; rfl
  · obtain ⟨H2, ht, J⟩ := hinv s' hm
    rw [preSum_sum ps f _ (Nat.le_refl _), List.take_length]
    exact ⟨.int _, H2, J, ⟨t', rfl⟩, hR H2 ht⟩
end
/-- len(a) of a text -/
def lenI : V → Int
  | .str x => x.length
  | _ => 0
theorem elt_len {prog : Program} {w : World} {mg : Str → Option Value} {scope : Scope} {x xb : Str} {p1 p2 p3 : Pos} (hk : scope.kind = .function) (hl : scope.names.lookup x = some .local) (hgl : scope.names.lookup ("len" : Str) = some .globalImplicit) (hm : mg "len" = none) (hd : (x == ("__debug__" : Str)) = false := by decide)  :
    EltI prog w mg scope x xb (.Call (.Name "len" p1) [.Name x p2] [] p3) (fun v => ∃ y : Str, v = .str y ∧ y.length ≤ sizeLine) lenI := by
  intro cenv A' E' v ua ub s₂ m₂ mb hs hg hb hn1 hn2 hmb hz rv hn hma hmb2
  obtain ⟨y, rfl, hy⟩ := hz
  obtain ⟨t, rfl⟩ := (show ∃ t, ua = Value.str y t from rv)
  have hk' : cenv.scope.kind = .function := by rw [hs]; exact hk
  refine wpAny_Call_Name_kw (Calls.Name_function_global hk' (show cenv.scope.names.lookup ("len" : Str) = some .globalImplicit by rw [hs]; exact hgl) (Calls.loadGlobal_builtin (by rw [hg]; exact hn1) hm (by rw [hb]; exact hn2) ((hmb "len" (by decide)).trans (show bootBuiltins "len" = some (.builtin "len") by decide +kernel)) ?_))
  refine PyProof.Rows.callWith_builtin1 ?_ (by rfl) (by rfl)
  show wpAny _ _ (spliced ((false, eval (.Name x p2) cenv) :: backTo p3 (starEach [] cenv))) _ _ s₂
  refine Calls.spliced_cons (wpAny_Name (wpAny_loadName_local hk' (show cenv.scope.names.lookup x = some .local by rw [hs]; exact hl) hn hma ?_) hd)
  refine Calls.spliced_nil ?_
  have hl63 := line63
  have hsz : sizeLine = 16777216 := sizeLine_eq
  exact len_str (by omega) ⟨⟨_, rfl⟩, keeps_tok _ _⟩
end Vf
end
section
set_option Elab.async false
set_option linter.all false
set_option maxRecDepth 100000
set_option maxHeartbeats 4000000
/-! != of any data with a text. -/
namespace PySem
open PySem.SeqAt PySem.MeetsSeq
theorem vf_dict_ne_declines_str (l : Addr) (x : Str) (t : Tok) (ob : Obj) (hc : ob.cls = .type "dict") :
    Meets (Builtin.«dict.__ne__» ⟨[.ref l, .str x t], []⟩) (fun _ R s => s.heap.get? l = some ob ∧ R (.ok (.ret .notImplemented)) s) :=
  .of_wp fun prog w A R s h => by obtain ⟨hp, g, d, tk, os⟩ := s; obtain ⟨hl, h⟩ := h; obtain ⟨oc, od, oda, osl⟩ := ob; dsimp only at hc; subst hc; have f1 := F.sub_str_dict; wp_walk using wpAny_loadPart' hl; exact ⟨_, rfl, h⟩
end PySem
namespace PySem
open PySem.SeqAt PySem.MeetsSeq
theorem vf_str_ne_declines_dict (l : Addr) (x : Str) (t : Tok) (ob : Obj) {es : Array DictEntry} {ep : Nat} (hc : ob.cls = .type "dict") (hd : ob.data = .dict es ep) :
    Meets (Builtin.«str.__ne__» ⟨[.str x t, .ref l], []⟩) (fun _ R s => s.heap.get? l = some ob ∧ R (.ok (.ret .notImplemented)) s) :=
  .of_wp fun prog w A R s h => by obtain ⟨hp, g, d, tk, os⟩ := s; obtain ⟨hl, h⟩ := h; obtain ⟨oc, od, oda, osl⟩ := ob; dsimp only at hc hd; subst hc hd; have f1 := F.sub_dict_str; wp_walk using wpAny_loadPart' hl, wpAny_load hl; exact ⟨_, rfl, h⟩
theorem vf_ne_dict_str {A : Around} {s : Shared} {l : Addr} {ob : Obj} (b : Str) (u : Tok) (hl : s.heap.get? l = some ob) {es : Array DictEntry} {ep : Nat} (hc : ob.cls = .type "dict") (hd : ob.data = .dict es ep) (hu : A.units < cLine) : RcNeAt A s (.ref l) (.str b u) true := fun prog w E Q h => by
  exact rc_ne_decline_or (k := false) ⟨_, hl, hc⟩ (typeIs_str s b u) (by decide) F.sub_str_dict F.slot_dict_ne F.slot_str_ne_refl
    (fun _ hq => call_meets F.slot_dict_ne ⟨_, hl, hc⟩ F.entry_dict_ne (F.args_dict_ne_2 _ _) (vf_dict_ne_declines_str l b u ob hc) ⟨hl, hq⟩)
    (fun _ hq => call_meets F.slot_str_ne_refl (typeIs_str s b u) F.entry_str_ne (F.args_str_ne_2 _ _) (vf_str_ne_declines_dict l b u ob hc hd) ⟨hl, hq⟩)
    (fun _ hq => wpAny_of_eq (rfl : isSame (.ref l) (.str b u) = pure false) hq) (.inr hu) h
end PySem
namespace Vf
theorem rcne {prog : PySem.Program} {w : PySem.World} {A : PySem.Around} {E : PySem.Value → PySem.Shared → Prop} {s : PySem.Shared} {Q : PySem.Value → PySem.Shared → Prop} {a b : PySem.Value} {k : Bool} (h : PySem.SeqAt.RcNeAt A s a b k) (hq : Q (.bool k) s) : PySem.wpAny (PySem.model prog w) A (PySem.compareOp .NotEq a b) Q E s := h prog w E Q hq
open PySem PySem.Spec PyProof.Rows L2 GxR GenW RZ
def eqS : PyData → Str → Bool
  | .str x, z => decide (V.str x = V.str z)
  | _, _ => false
section
variable {X : Cx}
/-- x != y, x any data, y a text -/
structure rNeS (K : PySem.W.Frag) (x y : V) (H : Hp) (Q : VK) : Prop where
  h : ∃ (d : PyData) (z : Str), Dd K H x d ∧ y = .str z ∧ Q (.bl (!eqS d z)) H
theorem op_neS {K : PySem.W.Frag} (hK : X.K = K) (hu : X.A.units + 64 < cLine) : OpR X (compareOp .NotEq) (rNeS K) := by
  subst hK
  intro pins s σ H x y v u Q I rx ry h
  obtain ⟨d, z, hd, rfl, q⟩ := h.h
  have huu : X.A.units < cLine := by omega
  cases hd with
  | non => exact op_ne pins s σ H _ _ v u Q I rx ry ⟨rfl, by have e : (!eqS (PyData.none) z) = (!decide (V.non = .str z)) := by simp [eqS]
                                                             rw [← e]; exact q⟩
  | bl b => exact op_ne pins s σ H _ _ v u Q I rx ry ⟨rfl, by have e : (!eqS (PyData.bool b) z) = (!decide (V.bl b = .str z)) := by simp [eqS]
                                                              rw [← e]; exact q⟩
  | int i => exact op_ne pins s σ H _ _ v u Q I rx ry ⟨rfl, by have e : (!eqS (PyData.int i) z) = (!decide (V.int i = .str z)) := by simp [eqS]
                                                               rw [← e]; exact q⟩
  | str w => exact op_ne pins s σ H _ _ v u Q I rx ry ⟨rfl, by have e : (!eqS (PyData.str w) z) = (!decide (V.str w = .str z)) := by simp [eqS]
                                                               rw [← e]; exact q⟩
  | @lst a xs ds h1 h2 =>
    cases rx
    obtain ⟨t, rfl⟩ := ry
    obtain ⟨its, rv, hl, _⟩ := I.list h1
    exact rcne (SeqAt.RcNeAt.list_str z t hl.isList huu) ⟨.bl true, H, I, rfl, by simpa [eqS] using q⟩
  | @tup a xs ds h1 h2 =>
    cases rx
    obtain ⟨t, rfl⟩ := ry
    obtain ⟨its, rv, hl, _⟩ := I.tuple h1
    exact rcne (SeqAt.RcNeAt.tuple_str z t hl huu) ⟨.bl true, H, I, rfl, by simpa [eqS] using q⟩
  | @dct a h1 =>
    cases rx
    obtain ⟨t, rfl⟩ := ry
    obtain ⟨_, hne, vs, kv, hdd⟩ := I.hok _ _ h1
    obtain ⟨o, es, ep, ho, hx, hda, _⟩ := hdd
    exact rcne (vf_ne_dict_str z t ho hx.1 hda huu) ⟨.bl true, H, I, rfl, by simpa [eqS] using q⟩
theorem rceq {prog : PySem.Program} {w : PySem.World} {A : PySem.Around} {E : PySem.Value → PySem.Shared → Prop} {s : PySem.Shared} {Q : PySem.Value → PySem.Shared → Prop} {a b : PySem.Value} {k : Bool} (h : PySem.SeqAt.RcAt A s a b k) (hq : Q (.bool k) s) : PySem.wpAny (PySem.model prog w) A (PySem.compareOp .Eq a b) Q E s := h prog w E Q hq
/-- a list against an empty list -/
structure rLstE (K : PySem.W.Frag) (x y : V) (H : Hp) (Q : Bool → Prop) : Prop where
  h : ∃ (a b : Addr) (xs : List V), x = .ref a ∧ y = .ref b ∧ SqL K H a xs ∧ SqL K H b [] ∧ Q (decide (xs = []))
theorem listE {pins : List (Addr × Obj)} {σ : L2.St} {H : Hp} {s : Shared} {a b : Addr} {xs : List V} (I : Inv X pins σ H s) (ha : SqL X.K H a xs) (hb : SqL X.K H b []) : ∃ its its2 : Array Value, s.heap.IsList a its ∧ s.heap.IsList b its2 ∧ its2.size = 0 ∧ its.size = xs.length := by
  obtain ⟨i1, r1, l1, _⟩ := I.list ha
  obtain ⟨i2, r2, l2, _⟩ := I.list hb
  cases r2
  exact ⟨_, _, l1.isList, l2.isList, rfl, by rw [List.size_toArray]; exact r1.length.symm⟩
theorem op_neE {K : PySem.W.Frag} (hK : X.K = K) (hu : X.A.units + 64 < cLine) : OpR X (compareOp .NotEq) (fun x y H Q => rLstE K x y H fun b => Q (.bl (!b)) H) := by
  subst hK
  intro pins s σ H x y v u Q I rx ry h
  obtain ⟨a, b, xs, rfl, rfl, ha, hb, q⟩ := h.h
  cases rx
  cases ry
  have huu : X.A.units < cLine := by omega
  obtain ⟨its, its2, l1, l2, z2, z1⟩ := listE I ha hb
  cases xs with
  | nil =>
    have e : its.size = its2.size := by rw [z1, z2]; rfl
    refine rcne (SeqAt.RcNeAt.lists (e := fun _ => true) l1 l2 e huu fun j h1 _ => absurd h1 (by rw [z1]; exact Nat.not_lt_zero _)) ?_
    have e0 : its.size = 0 := z1
    rw [e0]
    exact ⟨.bl false, H, I, rfl, q⟩
  | cons x xs =>
    have e : (its.size != its2.size) = true := by rw [z1, z2]; rfl
    exact rcne (SeqAt.RcNeAt.lists_lengths l1 l2 e huu) ⟨.bl true, H, I, rfl, q⟩
theorem op_eqE {K : PySem.W.Frag} (hK : X.K = K) (hu : X.A.units + 64 < cLine) : OpR X (compareOp .Eq) (fun x y H Q => rLstE K x y H fun b => Q (.bl b) H) := by
  subst hK
  intro pins s σ H x y v u Q I rx ry h
  obtain ⟨a, b, xs, rfl, rfl, ha, hb, q⟩ := h.h
  cases rx
  cases ry
  have huu : X.A.units < cLine := by omega
  obtain ⟨its, its2, l1, l2, z2, z1⟩ := listE I ha hb
  cases xs with
  | nil =>
    have e : its.size = its2.size := by rw [z1, z2]; rfl
    refine rceq (SeqAt.RcAt.lists (e := fun _ => true) l1 l2 e huu fun j h1 _ => absurd h1 (by rw [z1]; exact Nat.not_lt_zero _)) ?_
    have e0 : its.size = 0 := z1
    rw [e0]
    exact ⟨.bl true, H, I, rfl, q⟩
  | cons x xs =>
    have e : (its.size != its2.size) = true := by rw [z1, z2]; rfl
    exact rceq (SeqAt.RcAt.lists_lengths l1 l2 e huu) ⟨.bl false, H, I, rfl, q⟩
/-- the wider operators -/
structure rNeW (K : PySem.W.Frag) (x y : V) (H : Hp) (Q : VK) : Prop where
  h : rNeU K x y H Q ∨ rNeS K x y H Q ∨ (rLstE K x y H fun b => Q (.bl (!b)) H)
theorem u_neW {K : PySem.W.Frag} (hK : X.K = K) (hu : X.A.units + 64 < cLine) : OpR X (compareOp .NotEq) (rNeW K) :=
  fun pins s σ H x y v u Q I rx ry h => (OpR.or (u_ne hK hu) (OpR.or (op_neS hK hu) (op_neE hK hu))) pins s σ H x y v u Q I rx ry h.h
structure rEqW (K : PySem.W.Frag) (x y : V) (H : Hp) (Q : VK) : Prop where
  h : rEqU K x y H Q ∨ (rLstE K x y H fun b => Q (.bl b) H) ∨ ∃ (b : Bool) (i : Int), x = .bl b ∧ y = .int i ∧ Q (.bl ((if b then 1 else 0) == i)) H
theorem op_eqBI : OpR X (compareOp .Eq) (fun x y H Q => ∃ (b : Bool) (i : Int), x = .bl b ∧ y = .int i ∧ Q (.bl ((if b then 1 else 0) == i)) H) := by
  intro pins s σ H x y v u Q I rx ry h
  obtain ⟨b, i, rfl, rfl, q⟩ := h
  cases rx
  obtain ⟨t, rfl⟩ := ry
  exact PySem.EqBoolInt.eq_bool_int ⟨.bl _, H, I, rfl, q⟩
theorem u_eqW {K : PySem.W.Frag} (hK : X.K = K) (hu : X.A.units + 64 < cLine) : OpR X (compareOp .Eq) (rEqW K) :=
  fun pins s σ H x y v u Q I rx ry h => (OpR.or (u_eq hK hu) (OpR.or (op_eqE hK hu) op_eqBI)) pins s σ H x y v u Q I rx ry h.h
theorem call_strU : CallR X (.type "str") (fun xs H Q => (∃ i : Int, xs = [.int i] ∧ i.natAbs.log2 < 1920 ∧ Q (.str (toString i)) H) ∨ ∃ b : Bool, xs = [.bl b] ∧ Q (.str (if b then "True" else "False")) H) := by
  intro pins s σ H xs us Q I r h
  rcases h with h | ⟨b, rfl, q⟩
  · exact call_str_int pins s σ H xs us Q I r h
  · obtain ⟨u, rfl, rx⟩ := vals1 r
    cases rx
    exact PySem.P.str_of_bool ⟨.str _, H, I.tok _, ⟨_, rfl⟩, q⟩
end
section
variable {K : PySem.W.Frag} {H : Hp} {Q : VK}
theorem wn_flat {x y : V} (h : scal x y = true) (q : Q (.bl (!decide (x = y))) H) : rNeW K x y H Q := ⟨.inl (n_flat h q)⟩
theorem wn_str {x : V} {d : PyData} {z : Str} (h : Dd K H x d) (q : Q (.bl (!eqS d z)) H) : rNeW K x (.str z) H Q := ⟨.inr (.inl ⟨d, z, h, rfl, q⟩)⟩
theorem wn_nil {a b : Addr} {xs : List V} (h1 : SqL K H a xs) (h2 : SqL K H b []) (q : Q (.bl (!decide (xs = []))) H) : rNeW K (.ref a) (.ref b) H Q := ⟨.inr (.inr ⟨a, b, xs, rfl, rfl, h1, h2, q⟩)⟩
theorem we_flat {x y : V} (h : scal x y = true) (q : Q (.bl (decide (x = y))) H) : rEqW K x y H Q := ⟨.inl (e_flat h q)⟩
theorem we_data {x y : V} {d e : PyData} (h1 : Dp K H x d) (h2 : Dp K H y e) (h3 : SeqAt.shaped d = true) (h4 : SeqAt.shaped e = true) (q : Q (.bl (PyData.eqv d e)) H) : rEqW K x y H Q := ⟨.inl (e_data h1 h2 h3 h4 q)⟩
theorem wn_data {x y : V} {d e : PyData} (h1 : Dp K H x d) (h2 : Dp K H y e) (h3 : SeqAt.shaped d = true) (h4 : SeqAt.shaped e = true) (q : Q (.bl (!PyData.eqv d e)) H) : rNeW K x y H Q := ⟨.inl (n_data h1 h2 h3 h4 q)⟩
theorem we_nil {a b : Addr} {xs : List V} (h1 : SqL K H a xs) (h2 : SqL K H b []) (q : Q (.bl (decide (xs = []))) H) : rEqW K (.ref a) (.ref b) H Q := ⟨.inr (.inl ⟨a, b, xs, rfl, rfl, h1, h2, q⟩)⟩
theorem we_bi {b : Bool} {i : Int} (q : Q (.bl ((if b then 1 else 0) == i)) H) : rEqW K (.bl b) (.int i) H Q := ⟨.inr (.inr ⟨b, i, rfl, rfl, q⟩)⟩
end
end Vf
namespace Vf
open PySem PySem.Spec PyProof.Rows L2 GxR GenW RZ
def gs2B (scope : Scope) (xa xb : Str) : Bool := (match scope.kind with | .function => true | _ => false) && !scope.isCoroutine && scope.names.all (fun y => decide (y.2 ≠ .cell) && decide (y.2 ≠ .free)) && decide (scope.names.lookup (".0" : Str) = some NameKind.local) &&
  decide (scope.names.lookup xa = some .local) && decide (scope.names.lookup xb = some .local) && decide (xa ≠ xb)
theorem gs2_by {env : Env} {scope : Scope} {xa xb : Str} (h : gs2B scope xa xb = true) : GenS2 env scope xa xb := by
  unfold gs2B at h
  simp only [Bool.and_eq_true, List.all_eq_true, decide_eq_true_eq, Bool.not_eq_true'] at h
  obtain ⟨⟨⟨⟨⟨⟨h1, h2⟩, h3⟩, h4⟩, h5⟩, h6⟩, h7⟩ := h
  refine ⟨?_, h2, fun y hy => (h3 y hy).1, h4, h5, h6, h7, fun y hy e => absurd e (h3 y hy).2⟩
  split at h1
  · assumption
  · cases h1
end Vf
end
section
set_option Elab.async false
set_option linter.all false
set_option maxRecDepth 100000
set_option maxHeartbeats 4000000
namespace Vf
open PySem PySem.Spec PyProof.Rows L2 GxR GenW RZ
def strV : List Str → List V := List.map V.str
/-- more of the module's names -/
abbrev tb (K : PySem.W.Frag) (x : Str) : Addr := He.tabOf K (He.codeOf K (x, none))
abbrev TBx (K : PySem.W.Frag) (mg : Str → Option Value) (base : Heap) (x : Str) : Prop := TabB base mg (He.codeOf K (x, none)) (tb K x)

/-! ### what they say -/
theorem str_at {ts : List Str} {i : Nat} {x : V} (hx : (strV ts)[i]? = some x) : ∃ t, ts[i]? = some t ∧ x = .str t := by
  unfold strV at hx
  rw [List.getElem?_map] at hx
  cases e : ts[i]? with
  | none => rw [e] at hx; cases hx
  | some t => rw [e] at hx; exact ⟨t, rfl, (Option.some.inj hx).symm⟩
theorem isStr_iff {d : PyData} : isaD "str" d = true ↔ ∃ x, d = .str x := by
  cases d <;> simp [isaD]
theorem ddA_len {K : PySem.W.Frag} {H : Hp} : ∀ {xs : List V} {ds : List PyData}, DdAll K H xs ds → xs.length = ds.length
  | _, [], h => by cases h; rfl
  | _, d :: ds, h => by
    cases h with
    | cons _ h2 => rw [List.length_cons, List.length_cons, ddA_len h2]
theorem ddA_at {K : PySem.W.Frag} {H : Hp} : ∀ {xs : List V} {ds : List PyData} {i : Nat} {x : V}, DdAll K H xs ds → xs[i]? = some x → ∃ d, ds[i]? = some d ∧ Dd K H x d
  | _, [], i, x, h, e => by cases h; simp at e
  | _, d :: ds, 0, x, h, e => by
    cases h with
    | cons h1 h2 => simp at e; subst e; exact ⟨d, rfl, h1⟩
  | _, d :: ds, i + 1, x, h, e => by
    cases h with
    | cons h1 h2 =>
      obtain ⟨d', e', q⟩ := ddA_at (i := i) h2 (by simpa using e)
      exact ⟨d', by simpa using e', q⟩
def strsOf : List PyData → Option (List Str)
  | [] => some []
  | .str x :: r => (strsOf r).map (x :: ·)
  | _ => none
theorem strsOf_len : ∀ {ds : List PyData} {ts : List Str}, strsOf ds = some ts → ts.length = ds.length
  | [], _, h => by cases h; rfl
  | .str x :: r, ts, h => by
    have h : (strsOf r).map (x :: ·) = some ts := h
    cases q : strsOf r with
    | none => rw [q] at h; cases h
    | some us =>
      rw [q] at h
      cases h
      rw [List.length_cons, List.length_cons, strsOf_len q]
  | .none :: _, _, h => by cases h
  | .bool _ :: _, _, h => by cases h
  | .int _ :: _, _, h => by cases h
  | .list _ :: _, _, h => by cases h
  | .tuple _ :: _, _, h => by cases h
  | .dict _ :: _, _, h => by cases h
theorem strsOf_mem : ∀ {ds : List PyData} {ts : List Str}, strsOf ds = some ts → ∀ t ∈ ts, PyData.str t ∈ ds
  | [], _, h, t, ht => by cases h; cases ht
  | .str x :: r, ts, h, t, ht => by
    have h : (strsOf r).map (x :: ·) = some ts := h
    cases q : strsOf r with
    | none => rw [q] at h; cases h
    | some us =>
      rw [q] at h
      cases h
      rcases List.mem_cons.mp ht with rfl | ht
      · exact List.mem_cons_self
      · exact List.mem_cons_of_mem _ (strsOf_mem q t ht)
  | .none :: _, _, h, _, _ => by cases h
  | .bool _ :: _, _, h, _, _ => by cases h
  | .int _ :: _, _, h, _, _ => by cases h
  | .list _ :: _, _, h, _, _ => by cases h
  | .tuple _ :: _, _, h, _, _ => by cases h
  | .dict _ :: _, _, h, _, _ => by cases h
theorem strs_all {K : PySem.W.Frag} {H : Hp} : ∀ {xs : List V} {ds : List PyData}, DdAll K H xs ds → (∀ d ∈ ds, isaD "str" d = true) → ∃ ts, xs = strV ts ∧ strsOf ds = some ts
  | _, [], h, _ => by cases h; exact ⟨[], rfl, rfl⟩
  | _, d :: ds, h, k => by
    cases h with
    | cons h1 h2 =>
      obtain ⟨ts, e1, e2⟩ := strs_all h2 fun z hz => k z (List.mem_cons_of_mem _ hz)
      obtain ⟨x, rfl⟩ := isStr_iff.mp (k d List.mem_cons_self)
      cases h1
      refine ⟨x :: ts, by rw [e1]; rfl, ?_⟩
      show (strsOf ds).map (x :: ·) = _
      rw [e2]; rfl
theorem strs_none : ∀ {ds : List PyData}, (∃ d ∈ ds, isaD "str" d = false) → strsOf ds = none
  | [], ⟨d, h, _⟩ => by simp at h
  | d :: ds, ⟨z, hz, e⟩ => by
    rcases List.mem_cons.mp hz with rfl | hz
    · cases z <;> first | rfl | simp [isaD] at e
    · have ih := strs_none ⟨z, hz, e⟩
      cases d <;> first | rfl | (show (strsOf ds).map _ = none; rw [ih]; rfl)
theorem k_bm {X : Cx} {K : PySem.W.Frag} {T name id : String} {r : V → List V → Hp → VK → Prop} {o e : Expr} {es : List Expr} {to : TE} {t : TA} {apos cpos : Pos} (hK : X.K = K) (pa : PlainAttrs T) (slot : Slot T name id) (hty : typeOf (.builtin id) = pure (.type "method_descriptor")) (hm : MtR X id r) (ho : PE X o to) (ha : PA X (e :: es) t)
    (hbase : attributeBase o name X.env (eval o X.env) = eval o X.env := by rfl)
    (hfew : ((backTo cpos (starEach (e :: es) X.env)).all (fun x => !x.1) && (backToKw cpos (keywordEach [] X.env)).all (fun x => x.1.isSome)
      && decide ((e :: es).length + ([] : List Keyword).length + (if ([] : List Keyword).isEmpty then 0 else 1) < 30)) = true := by rfl)
    (hline : (apos.endLine == cpos.line) = true := by rfl) (hs : starEach (e :: es) X.env = (false, eval e X.env) :: starEach es X.env := by rfl) (hplain : (backTo cpos (starEach es X.env)).any (·.1) = false := by rfl) :
    PE X (.Call (.Attribute o name apos) (e :: es) [] cpos) (tBM K T r to t) := by
  subst hK
  exact pe_bm pa slot hty hm ho ha hbase hfew hline hs hplain
@[elab_as_elim] theorem newH {C : Hp → Prop} {H : Hp} {p : Addr} {o : HO} (h : H p = none) (k : ∀ H1, Gr H H1 → H1 p = some o → C H1) : C (upd H p o) := k _ (Gr.new h) upd_same
theorem Gr.lst {H H' : Hp} (g : Gr H H') {p : Addr} {xs : List V} (h : H p = some (.lst xs)) : H' p = some (.lst xs) := g.keep h (fun _ z => by cases z)
theorem Gr.tup {H H' : Hp} (g : Gr H H') {p : Addr} {xs : List V} (h : H p = some (.tup xs)) : H' p = some (.tup xs) := g.keep h (fun _ z => by cases z)
theorem m_ll {K : PySem.W.Frag} {H : Hp} {Q : VK} {l : Addr} {k : Int} {xs : List V} (h1 : H l = some (.lst xs)) (h2 : -(2 ^ 63) ≤ k) (h3 : k < 2 ^ 63) (h4 : xs.length * k.toNat ≤ sizeLine) (q : ∀ p, H p = none → Q (.ref p) (upd H p (.lst (List.replicate k.toNat xs).flatten))) : rMu K (.ref l) (.int k) H Q := ⟨.inr (.inr (.inl ⟨_, _, _, rfl, rfl, h1, h2, h3, h4, q⟩))⟩
theorem dp_strs {K : PySem.W.Frag} {H : Hp} : ∀ ts : List Str, DpAll K H (strV ts) (ts.map PyData.str)
  | [] => .nil
  | z :: zs => .cons (.str z) (dp_strs zs)
theorem lay_strs : ∀ ts : List Str, (∀ t ∈ ts, PyData.canLay0 (.str t) = true) → PyData.canLayAll0 (ts.map PyData.str) = true
  | [], _ => rfl
  | z :: zs, h => by
    show (PyData.canLay0 (.str z) && PyData.canLayAll0 (zs.map PyData.str)) = true
    rw [lay_strs zs fun t ht => h t (List.mem_cons_of_mem _ ht), h z List.mem_cons_self]; rfl
theorem dep_strs : ∀ ts : List Str, PyData.depthAll (ts.map PyData.str) ≤ 1
  | [] => Nat.zero_le _
  | z :: zs => by
    have := dep_strs zs
    simp only [List.map_cons, PyData.depthAll, PyData.depth]
    omega
theorem shp_strsT {ts : List Str} (h : ∀ t ∈ ts, PyData.canLay0 (.str t) = true) : SeqAt.shaped (.tuple (ts.map PyData.str)) = true := by
  unfold SeqAt.shaped
  have h1 : PyData.canLay0 (.tuple (ts.map PyData.str)) = true := lay_strs ts h
  have h2 := dep_strs ts
  have h3 : PyData.depth (.tuple (ts.map PyData.str)) ≤ 64 := by simp only [PyData.depth]; omega
  rw [h1, decide_eq_true h3]; rfl
theorem k_truth {X : Cx} {K : PySem.W.Frag} {a : Expr} {ta : TE} (hK : X.K = K) (ha : PE X a ta) (he : ∀ whole, isTrue a X.env whole = (do let v ← whole; standAt a.pos; holding [v] (truthy v))) :
    PT X a (fun σ H Q => ta σ H fun x H' => ∃ k, TruV K x H' k ∧ Q k H') := by
  subst hK
  exact pt_truth ha he
theorem Urn.ne {c u : Addr} {H : Hp} (h : Urn c H u) : c ≠ u := by
  obtain ⟨ns, p, a, r, h1, h2⟩ := h
  exact urn_ne h1 h2
theorem Urn.gr {c u : Addr} {H H' : Hp} (h : Urn c H u) (g : Gr H H') : Urn c H' u := by
  obtain ⟨ns, p, a, r, h1, h2⟩ := h
  exact ⟨ns, p, a, r, g.keep h1 (fun _ z => by cases z), g.keep h2 (fun _ z => by cases z)⟩
theorem Urn.updD {c u D : Addr} {H : Hp} {o : HO} (h : Urn c H u) (n1 : D ≠ u) (n2 : D ≠ c) : Urn c (upd H D o) u := by
  obtain ⟨ns, p, a, r, h1, h2⟩ := h
  exact ⟨ns, p, a, r, by rw [upd_ne (Ne.symm n1)]; exact h1, by rw [upd_ne (Ne.symm n2)]; exact h2⟩
theorem Urn.ou {c u D : Addr} {H : Hp} (h : Urn c H u) (n : H D = none) : D ≠ u := by
  obtain ⟨ns, p, a, r, h1, h2⟩ := h
  exact Ne.symm (ne_of_none h1 n)
theorem Urn.oc {c u D : Addr} {H : Hp} (h : Urn c H u) (n : H D = none) : D ≠ c := by
  obtain ⟨ns, p, a, r, h1, h2⟩ := h
  exact Ne.symm (ne_of_none h2 n)
theorem gruD {u D : Addr} {H H' : Hp} {o : HO} (g : GrU u H H') (h : H D = none) : GrU u H (upd H' D o) := fun b w hb e => by
  rw [upd_ne (ne_of_none e h)]
  exact g b w hb e
theorem GrU.free {u b : Addr} {H H' : Hp} (g : GrU u H H') (hb : b ≠ u) (h : H' b = none) : H b = none := by
  cases q : H b with
  | none => rfl
  | some o =>
    rcases g b o hb q with h1 | ⟨_, _, _, h1, _⟩
    · rw [h] at h1; cases h1
    · rw [h] at h1; cases h1
theorem GrU.seqT {K : PySem.W.Frag} {u c a : Addr} {H H' : Hp} {xs : List V} (g : GrU u H H') (hu : Urn c H u) (h : SqT K H a xs) : SqT K H' a xs := by
  rcases h with (h | ⟨o, h⟩) | h
  · exact .inl (.inl (g.notu hu h (fun _ z => by cases z) (fun _ z => by cases z)))
  · exact .inl (.inr ⟨o, g.notu hu h (fun _ z => by cases z) (fun _ z => by cases z)⟩)
  · exact .inr h
def sS (x : Str) : List Str := x.cps.toList.map fun c => ⟨#[c]⟩
theorem sgn_strV (x : Str) : sgn x = strV (sS x) := by unfold strV sS; rw [List.map_map]; rfl
theorem bt {b : Bool} (h : ¬ (!b) = true) : b = true := by cases b <;> simp at h ⊢
theorem inV_str {x : Str} {l : List Str} : inV (.str x) (strV l) = true ↔ x ∈ l := by
  unfold inV strV
  rw [List.any_map, List.any_eq_true]
  constructor
  · rintro ⟨y, hy, e⟩
    have e : (y == x) = true := e
    have e := eq_of_beq e
    exact e ▸ hy
  · intro h
    exact ⟨x, h, show (x == x) = true from beq_self_eq_true x⟩
theorem strsOf_in : ∀ {ds : List PyData} {ts : List Str}, strsOf ds = some ts → ∀ t, PyData.str t ∈ ds → t ∈ ts
  | .str x :: r, ts, h, t, ht => by
    have h : (strsOf r).map (x :: ·) = some ts := h
    cases q : strsOf r with
    | none => rw [q] at h; cases h
    | some us =>
      rw [q] at h
      cases h
      rcases List.mem_cons.mp ht with e | ht
      · cases e; exact List.mem_cons_self
      · exact List.mem_cons_of_mem _ (strsOf_in q t ht)
  | .none :: _, _, h, _, _ => by cases h
  | .bool _ :: _, _, h, _, _ => by cases h
  | .int _ :: _, _, h, _, _ => by cases h
  | .list _ :: _, _, h, _, _ => by cases h
  | .tuple _ :: _, _, h, _, _ => by cases h
  | .dict _ :: _, _, h, _, _ => by cases h
theorem ddA_snoc {K : PySem.W.Frag} {H : Hp} : ∀ {ys : List V} {es : List PyData} {x : V} {d : PyData}, DdAll K H ys es → Dd K H x d → DdAll K H (ys ++ [x]) (es ++ [d])
  | _, [], _, _, h, k => by cases h; exact .cons k .nil
  | _, _ :: _, _, _, h, k => by
    cases h with
    | cons a b => exact .cons a (ddA_snoc b k)
theorem len0 {x : Str} : x.length = 0 ↔ x = "" := by
  constructor
  · intro h
    obtain ⟨⟨l⟩⟩ := x
    have h : l.length = 0 := h
    cases l with
    | nil => rfl
    | cons a b => cases h
  · rintro rfl
    rfl
theorem canLayAll_mem : ∀ {ds : List PyData}, PyData.canLayAll0 ds = true → ∀ d ∈ ds, PyData.canLay0 d = true
  | d :: ds, h, e, he => by
    have h : (PyData.canLay0 d && PyData.canLayAll0 ds) = true := h
    rw [Bool.and_eq_true] at h
    rcases List.mem_cons.mp he with rfl | he
    · exact h.1
    · exact canLayAll_mem h.2 e he
theorem canLayAll_of : ∀ {ds : List PyData}, (∀ d ∈ ds, PyData.canLay0 d = true) → PyData.canLayAll0 ds = true
  | [], _ => rfl
  | d :: ds, h => by
    show (PyData.canLay0 d && PyData.canLayAll0 ds) = true
    rw [h d List.mem_cons_self, canLayAll_of fun e he => h e (List.mem_cons_of_mem _ he)]; rfl
theorem depAll_mem : ∀ {ds : List PyData} {k : Nat}, PyData.depthAll ds ≤ k → ∀ d ∈ ds, d.depth ≤ k
  | d :: ds, k, h, e, he => by
    have h : max (PyData.depth d) (PyData.depthAll ds) ≤ k := h
    rcases List.mem_cons.mp he with rfl | he
    · omega
    · exact depAll_mem (by omega) e he
theorem depAll_of : ∀ {ds : List PyData} {k : Nat}, (∀ d ∈ ds, d.depth ≤ k) → PyData.depthAll ds ≤ k
  | [], k, _ => Nat.zero_le _
  | d :: ds, k, h => by
    show max (PyData.depth d) (PyData.depthAll ds) ≤ k
    have h1 := h d List.mem_cons_self
    have h2 := depAll_of fun e he => h e (List.mem_cons_of_mem _ he)
    omega
mutual
theorem dp_dd {K : PySem.W.Frag} {H : Hp} : ∀ (d : PyData) (v : V), Dd K H v d → PyData.canLay0 d = true → Dp K H v d
  | .none, _, h, _ => by cases h; exact .non
  | .bool _, _, h, _ => by cases h; exact .bl _
  | .int _, _, h, _ => by cases h; exact .int _
  | .str _, _, h, _ => by cases h; exact .str _
  | .list ds, _, h, c => by
    cases h with
    | lst a b => exact .lst a (dp_ddA ds _ b c)
  | .tuple ds, _, h, c => by
    cases h with
    | tup a b => exact .tup a (dp_ddA ds _ b c)
  | .dict _, _, h, c => by cases c
theorem dp_ddA {K : PySem.W.Frag} {H : Hp} : ∀ (ds : List PyData) (vs : List V), DdAll K H vs ds → PyData.canLayAll0 ds = true → DpAll K H vs ds
  | [], _, h, _ => by cases h; exact .nil
  | d :: ds, _, h, c => by
    have c : (PyData.canLay0 d && PyData.canLayAll0 ds) = true := c
    rw [Bool.and_eq_true] at c
    cases h with
    | cons a b => exact .cons (dp_dd d _ a c.1) (dp_ddA ds _ b c.2)
end
theorem shp_list {ds : List PyData} (h1 : PyData.canLayAll0 ds = true) (h2 : PyData.depthAll ds ≤ 60) : SeqAt.shaped (.list ds) = true := by
  unfold SeqAt.shaped
  have h3 : PyData.depth (.list ds) ≤ 64 := by simp only [PyData.depth]; omega
  have h1 : PyData.canLay0 (.list ds) = true := h1
  rw [h1, decide_eq_true h3]; rfl
theorem eqv_nil (ds : List PyData) : PyData.eqv (.list ds) (.list []) = ds.isEmpty := by
  cases ds <;> simp [PyData.eqv, PyData.eqvAll]
theorem showAll_of : ∀ {ds : List PyData}, (∀ d ∈ ds, d.showable = true) → PyData.showableAll ds = true
  | [], _ => rfl
  | d :: ds, h => by
    show (PyData.showable d && PyData.showableAll ds) = true
    rw [h d List.mem_cons_self, showAll_of fun e he => h e (List.mem_cons_of_mem _ he)]; rfl
theorem shownAll_sum {k : Nat} : ∀ {ds : List PyData}, (∀ d ∈ ds, d.shown.length ≤ k) → ((PyData.shownAll ds).map fun x => x.length).sum ≤ ds.length * k ∧ (PyData.shownAll ds).length = ds.length
  | [], _ => ⟨Nat.zero_le _, rfl⟩
  | d :: ds, h => by
    obtain ⟨h1, h2⟩ := shownAll_sum fun e he => h e (List.mem_cons_of_mem _ he)
    have h3 := h d List.mem_cons_self
    refine ⟨?_, by show (PyData.shownAll ds).length + 1 = _; rw [h2]; rfl⟩
    show d.shown.length + ((PyData.shownAll ds).map fun x => x.length).sum ≤ (ds.length + 1) * k
    rw [Nat.add_mul]
    omega
def Wo (S : List Addr) (H : Hp) : Hp := fun b => if b ∈ S then none else H b
theorem wo_gr (S : List Addr) (H : Hp) : Gr (Wo S H) H := fun b o e => by
  unfold Wo at e
  split at e
  · cases e
  · exact .inl e
theorem wo_some {S : List Addr} {H : Hp} {b : Addr} {o : HO} (h : b ∉ S) (e : H b = some o) : Wo S H b = some o := by
  unfold Wo
  rw [if_neg h]
  exact e
theorem Gr.wo {H H' : Hp} (g : Gr H H') (S : List Addr) : Gr (Wo S H) (Wo S H') := fun b o e => by
  unfold Wo at e ⊢
  split at e
  · cases e
  · rename_i h
    rw [if_neg h]
    exact g b o e
theorem GrU.wo {u : Addr} {H H' : Hp} (g : GrU u H H') {S : List Addr} (hu : u ∈ S) : Gr (Wo S H) (Wo S H') := fun b o e => by
  unfold Wo at e ⊢
  split at e
  · cases e
  · rename_i h
    rw [if_neg h]
    exact g b o (fun z => h (z ▸ hu)) e
theorem wo_upd {S : List Addr} {H : Hp} {D : Addr} {o : HO} (h : D ∈ S) : Wo S (upd H D o) = Wo S H := by
  funext b
  unfold Wo
  split
  · rfl
  · rename_i hb
    exact upd_ne fun z => hb (z ▸ h)
theorem wo_more {u D : Addr} {H : Hp} {o : HO} (h : H D = none) : Gr (Wo [u] H) (Wo [u, D] (upd H D o)) := fun b w e => by
  unfold Wo at e ⊢
  split at e
  · cases e
  · rename_i hb
    have n : b ≠ D := ne_of_none e h
    rw [if_neg (by
      intro z
      rcases List.mem_cons.mp z with z | z
      · exact hb (by rw [z]; exact List.mem_cons_self)
      · exact n (List.mem_singleton.mp z)), upd_ne n]
    exact .inl e
theorem a_ttW {K : PySem.W.Frag} {S : List Addr} {H : Hp} {Q : VK} {a b : Addr} {xs ys : List V} (h1 : SqT K (Wo S H) a xs) (h2 : SqT K (Wo S H) b ys) (h : xs.length + ys.length ≤ sizeLine) (hs : ∀ p, H p = none → p ∉ S)
    (q : ∀ p H', Gr H H' → SqT K (Wo S H') p (xs ++ ys) → Q (.ref p) H') : rAdd K (.ref a) (.ref b) H Q := by
  refine a_tt ((wo_gr S H).seqT h1) ((wo_gr S H).seqT h2) h (fun z => ?_) (fun _ z => ?_) (fun _ _ p hp => ?_)
  · subst z
    exact q b H (Gr.refl H) h2
  · subst z
    rw [List.append_nil] at q
    exact q a H (Gr.refl H) h1
  · exact newH hp fun H1 g1 s1 => q p H1 g1 (SqT.of (wo_some (hs p hp) s1))
theorem dd_strs {K : PySem.W.Frag} {H : Hp} : ∀ ts : List Str, DdAll K H (strV ts) (ts.map PyData.str)
  | [] => .nil
  | z :: zs => .cons (.str z) (dd_strs zs)
theorem ddA_app {K : PySem.W.Frag} {H : Hp} : ∀ {xs ys : List V} {ds es : List PyData}, DdAll K H xs ds → DdAll K H ys es → DdAll K H (xs ++ ys) (ds ++ es)
  | _, _, [], _, h, k => by cases h; exact k
  | _, _, _ :: _, _, h, k => by
    cases h with
    | cons a b => exact .cons a (ddA_app b k)
theorem nin2 {p u D : Addr} (h : p ∉ [u]) (n : p ≠ D) : p ∉ [u, D] := fun z => by
  rcases List.mem_cons.mp z with z | z
  · exact h (by rw [z]; exact List.mem_cons_self)
  · exact n (List.mem_singleton.mp z)
theorem wo_sub {S S' : List Addr} (h : ∀ b, b ∈ S' → b ∈ S) (H : Hp) : Gr (Wo S H) (Wo S' H) := fun b o e => by
  unfold Wo at e ⊢
  split at e
  · cases e
  · rename_i hb
    rw [if_neg fun z => hb (h b z)]
    exact .inl e
theorem GrU.tabG {u c P : Addr} {H H' : Hp} (g : GrU u H H') (hu : Urn c H u) (h : TabG H P) : TabG H' P := by
  obtain ⟨ps, h1, t1⟩ := h
  have n : P ≠ u := by
    rintro rfl
    obtain ⟨_, _, _, _, h2, _⟩ := hu
    rw [h1] at h2
    cases h2
  rcases g P _ n h1 with q | ⟨qs, more, e, q, t⟩
  · exact ⟨ps, q, t1⟩
  · cases e
    exact ⟨_, q, t t1⟩
theorem tabG_upd {H : Hp} {P D : Addr} {xs : List V} {o : HO} (h : TabG H P) (hD : H D = some (.lst xs)) : TabG (upd H D o) P := by
  obtain ⟨ps, h1, t1⟩ := h
  have n : P ≠ D := by
    rintro rfl
    rw [h1] at hD
    cases hD
  exact ⟨ps, by rw [upd_ne n]; exact h1, t1⟩
theorem ddA_mem {K : PySem.W.Frag} {H : Hp} {xs : List V} {ds : List PyData} {x : V} (h : DdAll K H xs ds) (hx : x ∈ xs) : ∃ d ∈ ds, Dd K H x d := by
  obtain ⟨i, hi⟩ := List.getElem?_of_mem hx
  obtain ⟨d, e, q⟩ := ddA_at h hi
  exact ⟨d, List.mem_of_getElem? e, q⟩
theorem cut_strs (fm : List Str) (lo hi : Option Int) : ∃ ts, cutV (strV fm) lo hi = strV ts ∧ (∀ t ∈ ts, t ∈ fm) ∧ ts.length ≤ fm.length := by
  unfold cutV strV
  rw [← List.map_drop, ← List.map_take]
  refine ⟨_, rfl, fun t ht => List.mem_of_mem_drop (List.mem_of_mem_take ht), ?_⟩
  rw [List.length_take, List.length_drop]
  omega
theorem sl_tW {K : PySem.W.Frag} {S : List Addr} {H : Hp} {Q : VK} {a : Addr} {fm : List Str} {lo hi : Option Int} (h1 : SqT K (Wo S H) a (strV fm)) (hs : ∀ p, H p = none → p ∉ S)
    (q : ∀ p H' ts, Gr H H' → SqT K (Wo S H') p (strV ts) → (∀ t ∈ ts, t ∈ fm) → ts.length ≤ fm.length → Q (.ref p) H') : rSlU K (.ref a) lo hi H Q := by
  refine sl_t ((wo_gr S H).seqT h1) (fun _ => q a H fm (Gr.refl H) h1 (fun _ z => z) (Nat.le_refl _)) (fun _ p hp => ?_)
  obtain ⟨ts, e, m, l⟩ := cut_strs fm lo hi
  rw [e]
  exact newH hp fun H1 g1 s1 => q p H1 ts g1 (SqT.of (wo_some (hs p hp) s1)) m l
end Vf
end
section
set_option Elab.async false
set_option linter.all false
set_option maxRecDepth 100000
set_option maxHeartbeats 4000000
namespace Vf
open PySem PySem.Spec PyProof.Rows L2 GxR GenW RZ
mutual
/-- texts within are of a length that there is -/
def tx : PyData → Bool
  | .str x => decide (x.length ≤ 16000000) && PyData.canLay0 (.str x)
  | .tuple ds => decide (ds.length ≤ 16000000) && txA ds
  | _ => true
def txA : List PyData → Bool
  | [] => true
  | d :: ds => tx d && txA ds
end
def okI : List Int := [-1, 0, 1, 2, 3, 4, 5, 6, 7, 8, 1000, 1001, 100000000000000000000]
def aS (x : Str) : Bool := x.cps.all (· < 128)
theorem aS_lay {x : Str} (h : aS x = true) : PyData.canLay0 (.str x) = true := by
  unfold aS at h
  simp only [PyData.canLay0, PyData.strOk]
  rw [← Array.all_toList, List.all_eq_true] at h ⊢
  intro c hc
  have q : c < 128 := by simpa using h c hc
  exact decide_eq_true (by omega)
/-- what is allowed within: lists, dicts, or neither (and small ints alone) -/
inductive Md | l | d | s
def Md.L : Md → Bool | .l => true | _ => false
def Md.D : Md → Bool | .d => true | _ => false
def Md.I : Md → List Int | .s => [0, 1, 2, 3, 4, 5, 6] | _ => okI
def Md.T : Md → Str → Bool | .s, x => aS x | _, x => PyData.canLay0 (.str x)
theorem Md.lay {m : Md} {x : Str} (h : m.T x = true) : PyData.canLay0 (.str x) = true := by
  cases m with
  | s => exact aS_lay h
  | _ => exact h
theorem Md.of {m : Md} {x : Str} (h : aS x = true) : m.T x = true := by
  cases m with
  | s => exact h
  | _ => exact aS_lay h
theorem Md.ok {m : Md} {i : Int} (h : i ∈ m.I) : i ∈ okI := by
  cases m with
  | l => exact h
  | d => exact h
  | s =>
    have h' : i ∈ ([0, 1, 2, 3, 4, 5, 6] : List Int) := h
    simp only [List.mem_cons, List.not_mem_nil, or_false] at h'
    rcases h' with rfl | rfl | rfl | rfl | rfl | rfl | rfl <;> decide
mutual
/-- an upper bound of the length of what repr shows -/
def sz : PyData → Nat
  | .none => 4
  | .bool _ => 5
  | .int _ => 40
  | .str x => 10 * x.length + 2
  | .list ds => szA ds + 3
  | .tuple ds => szA ds + 3
  | .dict _ => 2
def szA : List PyData → Nat
  | [] => 0
  | d :: ds => sz d + 2 + szA ds
end
mutual
/-- no lists (m false) or no dicts (m true) within; small ints; texts that can be laid -/
def fi (m : Md) : PyData → Bool
  | .none => true
  | .bool _ => true
  | .int i => decide (i ∈ m.I)
  | .str x => m.T x
  | .list ds => m.L && fiA m ds
  | .tuple ds => fiA m ds
  | .dict kvs => m.D && kvs.isEmpty
def fiA (m : Md) : List PyData → Bool
  | [] => true
  | d :: ds => fi m d && fiA m ds
end
theorem fiA_mem {m : Md} : ∀ {ds : List PyData}, fiA m ds = true ↔ ∀ d ∈ ds, fi m d = true
  | [] => by simp [fiA]
  | d :: ds => by
    show (fi m d && fiA m ds) = true ↔ _
    rw [Bool.and_eq_true, fiA_mem (ds := ds)]
    simp
theorem szA_app : ∀ xs ys : List PyData, szA (xs ++ ys) = szA xs + szA ys
  | [], ys => by simp [szA]
  | x :: xs, ys => by
    show sz x + 2 + szA (xs ++ ys) = sz x + 2 + szA xs + szA ys
    rw [szA_app xs ys]
    omega
theorem szA_len : ∀ ds : List PyData, ds.length ≤ szA ds
  | [] => Nat.le_refl _
  | d :: ds => by
    show ds.length + 1 ≤ sz d + 2 + szA ds
    have := szA_len ds
    omega
theorem okI_show : ∀ i ∈ okI, (toString i : Str).length ≤ 40 := by decide +kernel
theorem okI_log : ∀ i ∈ okI, i.natAbs.log2 < 1920 := by decide +kernel
theorem shown_str {x : Str} (h : PyData.canLay0 (.str x) = true) : (PyData.str x).shown.length ≤ 10 * x.length + 2 := by
  have q := StrLaws.reprText_len x fun c hc => by
    simp only [PyData.canLay0, PyData.strOk] at h
    rw [← Array.all_toList] at h
    have q2 := List.all_eq_true.mp h c hc
    have q3 : c < 0x110000 := by simpa using q2
    omega
  simp only [PyData.shown]
  exact q
mutual
theorem fi_show : ∀ (m : Md) (d : PyData), fi m d = true → d.showable = true ∧ d.shown.length ≤ sz d
  | _, .none, _ => ⟨by simp only [PyData.showable], by simp only [PyData.shown, sz]; decide⟩
  | _, .bool b, _ => ⟨by simp only [PyData.showable], by simp only [PyData.shown, sz]; cases b <;> decide⟩
  | _, .int i, h => by
    have h' : i ∈ okI := Md.ok (of_decide_eq_true h)
    exact ⟨by simp only [PyData.showable]; exact decide_eq_true (okI_log i h'), by simp only [PyData.shown, sz]; exact okI_show i h'⟩
  | _, .str x, h => ⟨by simp only [PyData.showable], by simp only [sz]; exact shown_str (Md.lay h)⟩
  | m, .list ds, h => by
    have h' : (m.L && fiA m ds) = true := h
    rw [Bool.and_eq_true] at h'
    obtain ⟨a, b, c⟩ := fiA_show m ds h'.2
    refine ⟨by simp only [PyData.showable]; exact a, ?_⟩
    simp only [PyData.shown, sz]
    have q := listText_len_le (PyData.shownAll ds)
    omega
  | m, .tuple ds, h => by
    obtain ⟨a, b, c⟩ := fiA_show m ds h
    refine ⟨by simp only [PyData.showable]; exact a, ?_⟩
    simp only [PyData.shown, sz]
    have q := tupleText_len_le (PyData.shownAll ds)
    omega
  | m, .dict kvs, h => by
    have h' : (m.D && kvs.isEmpty) = true := h
    rw [Bool.and_eq_true] at h'
    have e := List.isEmpty_iff.mp h'.2
    subst e
    exact ⟨rfl, by simp only [PyData.shown, PyData.shownKv, sz]; decide +kernel⟩
theorem fiA_show : ∀ (m : Md) (ds : List PyData), fiA m ds = true → PyData.showableAll ds = true ∧ ((PyData.shownAll ds).map (·.length)).sum + 2 * (PyData.shownAll ds).length ≤ szA ds ∧ (PyData.shownAll ds).length = ds.length
  | _, [], _ => ⟨rfl, Nat.le_refl _, rfl⟩
  | m, d :: ds, h => by
    have h' : (fi m d && fiA m ds) = true := h
    rw [Bool.and_eq_true] at h'
    obtain ⟨a, b⟩ := fi_show m d h'.1
    obtain ⟨a2, b2, c2⟩ := fiA_show m ds h'.2
    refine ⟨?_, ?_, ?_⟩
    · show (d.showable && PyData.showableAll ds) = true
      rw [a, a2]; rfl
    · show d.shown.length + ((PyData.shownAll ds).map (·.length)).sum + 2 * ((PyData.shownAll ds).length + 1) ≤ sz d + 2 + szA ds
      omega
    · show (PyData.shownAll ds).length + 1 = ds.length + 1
      rw [c2]
end
mutual
theorem fi_nd : ∀ d : PyData, fi .l d = true → d.hasDict = false
  | .none, _ => by simp only [PyData.hasDict]
  | .bool _, _ => by simp only [PyData.hasDict]
  | .int _, _ => by simp only [PyData.hasDict]
  | .str _, _ => by simp only [PyData.hasDict]
  | .list ds, h => by
    simp only [PyData.hasDict]
    have h' : (true && fiA .l ds) = true := h
    exact fiA_nd ds h'
  | .tuple ds, h => by
    simp only [PyData.hasDict]
    exact fiA_nd ds h
  | .dict kvs, h => by
    have h' : (false && kvs.isEmpty) = true := h
    cases h'
theorem fiA_nd : ∀ ds : List PyData, fiA .l ds = true → PyData.hasDictAll ds = false
  | [], _ => by simp only [PyData.hasDictAll]
  | d :: ds, h => by
    have h' : (fi .l d && fiA .l ds) = true := h
    rw [Bool.and_eq_true] at h'
    simp only [PyData.hasDictAll, fi_nd d h'.1, fiA_nd ds h'.2, Bool.or_self]
end
mutual
theorem fi_nl : ∀ d : PyData, fi .d d = true → noLst d = true
  | .none, _ => rfl
  | .bool _, _ => rfl
  | .int _, _ => rfl
  | .str _, _ => rfl
  | .list ds, h => by
    have h' : (false && fiA .d ds) = true := h
    cases h'
  | .tuple ds, h => fiA_nl ds h
  | .dict kvs, h => rfl
theorem fiA_nl : ∀ ds : List PyData, fiA .d ds = true → noLstA ds = true
  | [], _ => rfl
  | d :: ds, h => by
    have h' : (fi .d d && fiA .d ds) = true := h
    rw [Bool.and_eq_true] at h'
    show (noLst d && noLstA ds) = true
    rw [fi_nl d h'.1, fiA_nl ds h'.2]; rfl
end
mutual
theorem fi_tx : ∀ (m : Md) (d : PyData), fi m d = true → sz d ≤ 16000000 → tx d = true
  | _, .none, _, _ => rfl
  | _, .bool _, _, _ => rfl
  | _, .int _, _, _ => rfl
  | _, .str x, h, z => by
    have h' : PyData.canLay0 (.str x) = true := Md.lay h
    have z' : 10 * x.length + 2 ≤ 16000000 := z
    show (decide (x.length ≤ 16000000) && PyData.canLay0 (.str x)) = true
    rw [h', decide_eq_true (by omega)]; rfl
  | _, .list _, _, _ => rfl
  | m, .tuple ds, h, z => by
    have z' : szA ds + 3 ≤ 16000000 := z
    have q := szA_len ds
    show (decide (ds.length ≤ 16000000) && txA ds) = true
    rw [decide_eq_true (by omega), fiA_tx m ds h (by omega)]; rfl
  | _, .dict _, _, _ => rfl
theorem fiA_tx : ∀ (m : Md) (ds : List PyData), fiA m ds = true → szA ds ≤ 16000000 → txA ds = true
  | _, [], _, _ => rfl
  | m, d :: ds, h, z => by
    have h' : (fi m d && fiA m ds) = true := h
    have z' : sz d + 2 + szA ds ≤ 16000000 := z
    rw [Bool.and_eq_true] at h'
    show (tx d && txA ds) = true
    rw [fi_tx m d h'.1 (by omega), fiA_tx m ds h'.2 (by omega)]; rfl
end
/-- what the law may ask about -/
structure Ask (d : PyData) : Prop where
  hf : fi .l d = true ∨ fi .d d = true
  hz : sz d ≤ 16000000
  hp : d.depth ≤ 20
theorem Ask.tx {d : PyData} (h : Ask d) : tx d = true := by
  rcases h.hf with q | q
  · exact fi_tx _ d q h.hz
  · exact fi_tx _ d q h.hz
theorem Ask.four {d : PyData} (h : Ask d) : d.showable = true ∧ (d.hasDict = true → noLst d = true) ∧ d.depth < 60 ∧ d.shown.length ≤ sizeLine := by
  have := h.hz
  have := h.hp
  rcases h.hf with q | q
  · obtain ⟨a, b⟩ := fi_show _ d q
    refine ⟨a, fun z => ?_, by omega, by rw [sizeLine_eq]; omega⟩
    rw [fi_nd d q] at z
    cases z
  · obtain ⟨a, b⟩ := fi_show _ d q
    exact ⟨a, fun z => fi_nl d q, by omega, by rw [sizeLine_eq]; omega⟩
/-- clean data of a size: neither lists nor dicts within -/
structure Clz (b n : Nat) (d : PyData) : Prop where
  hf : ∀ m, fi m d = true
  hz : sz d ≤ b
  hp : d.depth ≤ n
theorem Clz.mono {b b' n n' : Nat} {d : PyData} (h : Clz b n d) (h1 : b ≤ b') (h2 : n ≤ n') : Clz b' n' d := ⟨h.hf, Nat.le_trans h.hz h1, Nat.le_trans h.hp h2⟩
theorem Clz.str {x : Str} {k : Nat} (h : x.length ≤ k) (hl : aS x = true) : Clz (10 * k + 2) 0 (.str x) := ⟨fun _ => Md.of hl, by show 10 * x.length + 2 ≤ _; omega, by simp only [PyData.depth]; omega⟩
theorem Clz.bl (b : Bool) : Clz 5 0 (.bool b) := ⟨fun _ => rfl, Nat.le_refl _, by simp only [PyData.depth]; omega⟩
theorem Clz.int {i : Int} (h : ∀ m : Md, i ∈ m.I) : Clz 40 0 (.int i) := ⟨fun m => decide_eq_true (h m), Nat.le_refl _, by simp only [PyData.depth]; omega⟩
theorem Clz.tup {ds : List PyData} {b n : Nat} (h1 : ∀ d ∈ ds, (∀ m, fi m d = true) ∧ d.depth ≤ n) (h2 : szA ds ≤ b) : Clz (b + 3) (n + 1) (.tuple ds) := by
  refine ⟨fun m => fiA_mem.mpr fun d hd => (h1 d hd).1 m, by show szA ds + 3 ≤ _; omega, ?_⟩
  have q := depAll_of (k := n) fun d hd => (h1 d hd).2
  simp only [PyData.depth]
  omega
theorem szA_le {k : Nat} : ∀ {ds : List PyData}, (∀ d ∈ ds, sz d ≤ k) → szA ds ≤ ds.length * (k + 2)
  | [], _ => Nat.zero_le _
  | d :: ds, h => by
    have q := szA_le (k := k) fun e he => h e (List.mem_cons_of_mem _ he)
    have q2 := h d List.mem_cons_self
    show sz d + 2 + szA ds ≤ (ds.length + 1) * (k + 2)
    rw [Nat.add_mul, Nat.one_mul]
    omega
theorem Clz.tups {ds : List PyData} {b n l : Nat} (h : ∀ d ∈ ds, Clz b n d) (hl : ds.length ≤ l) : Clz (l * (b + 2) + 3) (n + 1) (.tuple ds) :=
  Clz.tup (fun d hd => ⟨(h d hd).hf, (h d hd).hp⟩) (Nat.le_trans (szA_le fun d hd => (h d hd).hz) (Nat.mul_le_mul_right _ hl))
theorem Clz.ask {b n : Nat} {d : PyData} (h : Clz b n d) (h1 : b ≤ 16000000) (h2 : n ≤ 20) : Ask d := ⟨.inl (h.hf .l), Nat.le_trans h.hz h1, Nat.le_trans h.hp h2⟩
end Vf
end
section
set_option Elab.async false
set_option linter.all false
set_option maxRecDepth 100000
set_option maxHeartbeats 4000000
/-! tuple * 0, tuple * 1, text * int. -/
namespace L2
open PySem PySem.Spec PyProof.Rows
theorem vf_tuple_mul1 (l : Addr) (items : Array Value) (n : Nat) (dd : Option Addr) (sl : Array (Option Value)) (x : Int) (u : Tok) (hx : x = 1) :
    Meets (Builtin.«tuple.__mul__» ⟨[.ref l, .int x u], []⟩) (fun _ R s => s.heap.get? l = some { cls := .type "tuple", dict := dd, data := .seq items n, slots := sl } ∧ R (.ok (.ret (Value.ref l))) s) :=
  .of_wp fun prog w A R s h => by
    subst hx
    obtain ⟨hp, g, d, tk, os⟩ := s
    obtain ⟨hl, h⟩ := h
    have f1 := AutoSeq1.idx_int
    wp_walk using wpAny_loadPart' hl
    exact ⟨_, rfl, h⟩
theorem vf_tuple_mul0 (l : Addr) (items : Array Value) (n : Nat) (dd : Option Addr) (sl : Array (Option Value)) (x : Int) (u : Tok) (hx : x = 0) (he : items.isEmpty = false) :
    Meets (Builtin.«tuple.__mul__» ⟨[.ref l, .int x u], []⟩) (fun _ R s => s.heap.get? l = some { cls := .type "tuple", dict := dd, data := .seq items n, slots := sl } ∧
      R (.ok (.ret (Value.ref s.heap.objs.size))) { s with heap := s.heap.push { cls := Value.type "tuple", data := Data.seq #[] }, toks := s.toks }) :=
  .of_wp fun prog w A R s h => by
    subst hx
    obtain ⟨hp, g, d, tk, os⟩ := s
    obtain ⟨hl, h⟩ := h
    have f1 := AutoSeq1.idx_int
    wp_walk using wpAny_loadPart' hl
    repeat (first
      | (refine wpAny_ite_false (decide_eq_false (by rw [he]; decide)) ?_; wp_walk using wpAny_loadPart' hl)
      | (refine wpAny_ite_true (decide_eq_true (by rw [he]; decide)) ?_; wp_walk using wpAny_loadPart' hl))
    exact ⟨_, rfl, h⟩
end L2
namespace L2
open PySem PySem.Spec PyProof.Rows
section
variable {X : Cx}
def rRepT1 (K : PySem.W.Frag) : R2 := fun x y H Q => ∃ l xs, x = .ref l ∧ y = .int 1 ∧ SqT K H l xs ∧ Q (.ref l) H
theorem op_repT1 : OpR X (binaryOp .Mult) (rRepT1 X.K) := by
  intro pins s σ H x y v u Q I rx ry h
  obtain ⟨l, xs, rfl, rfl, hT, q⟩ := h
  cases rx
  obtain ⟨t, rfl⟩ := ry
  obtain ⟨its, r, ⟨⟨cls, dd, data, sl⟩, ho, hc, n, hd⟩, hs⟩ := I.tuple hT
  simp only at hc hd
  subst hc hd
  exact wpAny_binaryOp_repeat_ref (T := "tuple") (U := "int") (by decide) ⟨_, ho, rfl⟩ (fun s' => typeIs_int s' 1 t) noFill_tuple_mul F.fills_int_mul F.slot_int_rmul repeat_tuple F.slot_int_index.lookup
    (call_meets F.slot_int_rmul (typeIs_int s 1 t) F.entry_int_rmul (F.args_int_rmul_2 _ _) (int_rmul_tuple 1 t l its.toArray n dd sl)
      ⟨ho, rfl, ⟨_, ho, rfl⟩, call_meets F.slot_tuple_mul ⟨_, ho, rfl⟩ F.entry_tuple_mul (F.args_tuple_mul_2 _ _) (vf_tuple_mul1 l its.toArray n dd sl 1 t rfl) ⟨ho, .ref _, H, I, rfl, q⟩⟩)
def rRepT0 (K : PySem.W.Frag) : R2 := fun x y H Q => ∃ l xs, x = .ref l ∧ y = .int 0 ∧ SqT K H l xs ∧ xs ≠ [] ∧ ∀ p, H p = none → Q (.ref p) (upd H p (.tup []))
theorem op_repT0 : OpR X (binaryOp .Mult) (rRepT0 X.K) := by
  intro pins s σ H x y v u Q I rx ry h
  obtain ⟨l, xs, rfl, rfl, hT, hne, q⟩ := h
  cases rx
  obtain ⟨t, rfl⟩ := ry
  obtain ⟨its, r, ⟨⟨cls, dd, data, sl⟩, ho, hc, n, hd⟩, hs⟩ := I.tuple hT
  simp only at hc hd
  subst hc hd
  have hle : its.length = xs.length := r.length.symm
  have hi : its.toArray.isEmpty = false := by
    cases its with
    | nil => exact absurd (List.eq_nil_of_length_eq_zero hle.symm) hne
    | cons a b => rfl
  refine wpAny_binaryOp_repeat_ref (T := "tuple") (U := "int") (by decide) ⟨_, ho, rfl⟩ (fun s' => typeIs_int s' 0 t) noFill_tuple_mul F.fills_int_mul F.slot_int_rmul repeat_tuple F.slot_int_index.lookup
    (call_meets F.slot_int_rmul (typeIs_int s 0 t) F.entry_int_rmul (F.args_int_rmul_2 _ _) (int_rmul_tuple 0 t l its.toArray n dd sl)
      ⟨ho, rfl, ⟨_, ho, rfl⟩, call_meets F.slot_tuple_mul ⟨_, ho, rfl⟩ F.entry_tuple_mul (F.args_tuple_mul_2 _ _) (vf_tuple_mul0 l its.toArray n dd sl 0 t rfl hi) ⟨ho, ?_⟩⟩)
  refine ⟨.ref s.heap.objs.size, _, I.laid (t' := s.toks) (o := .tup []) (fun b ob q => Heap.get?_push_of_some _ q) (Nat.le_refl _) ?_, rfl, q _ (I.hok.fresh (Nat.le_refl _))⟩
  exact ⟨Nat.zero_le _, [], .nil, IsTup.new _ _⟩
/-- a text times an int of at least two -/
def rMulS : R2 := fun x y H Q => ∃ (z : Str) (k : Int), x = .str z ∧ y = .int k ∧ 2 ≤ k ∧ k ≤ 1000 ∧ 0 < z.length ∧ z.length ≤ 1000 ∧ Q (.str ⟨(List.replicate k.toNat z.cps).foldl (· ++ ·) #[]⟩) H
theorem op_mulS : OpR X (binaryOp .Mult) rMulS := by
  intro pins s σ H x y v u Q I rx ry h
  obtain ⟨z, k, rfl, rfl, h1, h2, h3, h4, q⟩ := h
  obtain ⟨t, rfl⟩ := rx
  obtain ⟨t', rfl⟩ := ry
  have lz : z.length * k.toNat ≤ 1000000 := Nat.le_trans (Nat.mul_le_mul h4 (show k.toNat ≤ 1000 by omega)) (by decide)
  have c1 : (k == 1 || z.length == 0) = false := by
    rw [beq_eq_false_iff_ne.mpr (show k ≠ 1 by omega), beq_eq_false_iff_ne.mpr (show z.length ≠ 0 by omega)]
    rfl
  refine PySem.P.mul_str ?_ (fun _ _ => ?_) (fun _ _ => ?_) ?_
  · rw [decide_eq_false (by omega), decide_eq_false (by omega)]
    rfl
  · have a1 : (1000 : Int) ≤ (2 ^ 63 - 1) / k := by
      refine Int.le_ediv_of_mul_le (by omega) ?_
      omega
    omega
  · show decide (_ > sizeLine) = false
    rw [sizeLine_eq]
    exact decide_eq_false (by omega)
  · rw [if_neg (by omega), c1]
    refine ⟨?_, .str _, H, I.tok _, ⟨_, rfl⟩, q⟩
    have fl : ∀ (m : Nat) (a : Array Nat), (List.foldl (fun x1 x2 => x1 ++ x2) a (List.replicate m z.cps)).size = a.size + m * z.cps.size := fun m => by
      induction m with
      | zero => intro a; simp
      | succ m ih => intro a; rw [List.replicate_succ, List.foldl_cons, ih, Array.size_append, Nat.succ_mul]; omega
    show (List.foldl (fun x1 x2 => x1 ++ x2) #[] (List.replicate k.toNat z.cps)).size ≤ sizeLine
    rw [fl, sizeLine_eq, Nat.mul_comm]
    show 0 + z.length * k.toNat ≤ _
    omega
end
end L2
namespace Vf
open PySem PySem.Spec PyProof.Rows L2 GxR GenW RZ
section
variable {X : Cx}
structure rMuW (K : PySem.W.Frag) (x y : V) (H : Hp) (Q : VK) : Prop where
  h : rMu K x y H Q ∨ rRepT1 K x y H Q ∨ rRepT0 K x y H Q ∨ rMulS x y H Q
theorem u_mulW {K : PySem.W.Frag} (hK : X.K = K) : OpR X (binaryOp .Mult) (rMuW K) := by
  subst hK
  exact fun pins s σ H x y v u Q I rx ry h => (OpR.or (u_mul rfl) (OpR.or op_repT1 (OpR.or op_repT0 op_mulS))) pins s σ H x y v u Q I rx ry h.h
end
/-- any tuple that is not empty, any number of times -/
theorem m_tA {K : PySem.W.Frag} {H : Hp} {Q : VK} {l : Addr} {k : Nat} {xs : List V} (h1 : SqT K H l xs) (h2 : xs ≠ []) (h4 : k ≤ 1000) (h5 : xs.length ≤ 1000) (q1 : k = 1 → Q (.ref l) H)
    (q : k ≠ 1 → ∀ p, H p = none → Q (.ref p) (upd H p (.tup (List.replicate k xs).flatten))) : rMuW K (.ref l) (.int k) H Q := by
  refine ⟨?_⟩
  match k, h4, q1, q with
  | 0, _, _, q => exact .inr (.inr (.inl ⟨l, xs, rfl, rfl, h1, h2, q (by decide)⟩))
  | 1, _, q1, _ => exact .inr (.inl ⟨l, xs, rfl, rfl, h1, q1 rfl⟩)
  | k + 2, h4, _, q => exact .inl (m_tt h1 h2 (by omega) (by omega) h5 (q (by omega)))
theorem m_ss {K : PySem.W.Frag} {H : Hp} {Q : VK} {z : Str} {k : Int} (h1 : 2 ≤ k) (h2 : k ≤ 1000) (h3 : 0 < z.length) (h4 : z.length ≤ 1000) (q : Q (.str ⟨(List.replicate k.toNat z.cps).foldl (· ++ ·) #[]⟩) H) : rMuW K (.str z) (.int k) H Q :=
  ⟨.inr (.inr (.inr ⟨z, k, rfl, rfl, h1, h2, h3, h4, q⟩))⟩
end Vf
end
section
set_option Elab.async false
set_option linter.all false
set_option maxRecDepth 100000
set_option maxHeartbeats 4000000
/-! Own layer: list.extend with a tuple. -/
namespace PySem
theorem vf_extend_tuple (l : Addr) (items : Array Value) (n : Nat) (b : Addr) (ob : Obj) (items2 : Array Value) (n2 : Nat) (hc : ob.cls = .type "tuple") (hd : ob.data = .seq items2 n2) (hs0 : ¬(!items.isEmpty && Builtin.List.listTooLong (items.size + items2.size)) = true) (hs1 : items.size ≤ sizeLine) (hs2 : items.size + items2.size ≤ sizeLine + 1) :
    Meets (Builtin.«list.extend» ⟨[.ref l, .ref b], []⟩) (fun _ R s => s.heap.get? l = some { cls := .type "list", dict := none, data := .seq items n, slots := #[] } ∧ s.heap.get? b = some ob ∧ R (.ok (.ret Value.none)) { s with heap := s.heap.update l (Obj.mapSeq fun x => x ++ items2), toks := s.toks }) :=
  .of_wp fun prog w A R s h => by
    obtain ⟨hp, g, d, tk, os⟩ := s; obtain ⟨hl, hb, h⟩ := h; obtain ⟨oc, od, oda, osl⟩ := ob; dsimp only at hc hd; subst hc hd
    have f1 := F.sub_tuple_tuple; have f5 := F.sub_list_tuple
    have hz' : (items ++ items2).size ≤ sizeLine + 1 := by rw [Array.size_append]; exact hs2
    wp_walk using (wpAny_updateSeq hl rfl (hz := hs1) (_hz' := hz')), wpAny_loadPart' hl, wpAny_loadPart' hb; exact ⟨_, rfl, h⟩
end PySem
namespace Vf
open PySem PySem.Spec PyProof.Rows L2 GxR GenW RZ
section
variable {X : Cx}
def rExtT (K : PySem.W.Frag) : V → List V → Hp → VK → Prop := fun x vs H Q => ∃ l b xs zs, x = .ref l ∧ vs = [.ref b] ∧ H l = some (.lst xs) ∧ SqT K H b zs ∧ xs.length + zs.length ≤ sizeLine ∧ Q .non (upd H l (.lst (xs ++ zs)))
theorem mt_extT : MtR X "list.extend" (rExtT X.K) := by
  intro pins s σ H x vs v us Q I rx rv h
  obtain ⟨l, b, xs, zs, rfl, rfl, hH, hB, hz, q⟩ := h
  cases rx
  obtain ⟨u, rfl, ru⟩ := rv.one
  cases ru
  obtain ⟨z, its, n, r, hl, e⟩ := I.lstM hH
  obtain ⟨its2, r2, ⟨ob, ho, hc, n2, hd⟩, hz2⟩ := I.tuple hB
  have hl2 := r2.length
  have hsz : its.toArray.size + its2.toArray.size ≤ sizeLine := by rw [List.size_toArray, List.size_toArray]; omega
  have hlong : ¬ (!its.toArray.isEmpty && Builtin.List.listTooLong (its.toArray.size + its2.toArray.size)) = true := by
    rw [notLongL hsz, Bool.and_false]
    exact Bool.false_ne_true
  refine call_meets F.slot_list_extend ⟨_, e, rfl⟩ F.entry_list_extend (F.args_list_extend_2 _ _)
    (PySem.vf_extend_tuple l its.toArray n b ob its2.toArray n2 hc hd hlong (by rw [List.size_toArray]; omega) (by omega)) ⟨e, ho, ?_⟩
  refine ⟨.non, _, I.lset (its' := its ++ its2) hH e (by simp) (r.append r2) ?_, rfl, q⟩
  rw [List.length_append]
  omega
end
end Vf
end
section
set_option Elab.async false
set_option linter.all false
set_option maxRecDepth 100000
set_option maxHeartbeats 4000000
/-! Own layer: (a, b, c).index(x), the tuple written where it is asked. -/
namespace Vf
open PySem PySem.Spec PyProof.Rows L2 GxR GenW RZ
def rTupIx (K : PySem.W.Frag) : V → List V → Hp → VK → Prop := fun x xs H Q => ∃ p, ∃ ys : List Str, ∃ z j, x = .ref p ∧ xs = [.str z] ∧ SqT K H p (ys.map V.str) ∧ ys[j]? = some z ∧ (∀ m, m < j → ys[m]? ≠ some z) ∧ Q (.int (j : Nat)) H
section
variable {X : Cx} {K : PySem.W.Frag} {e : Expr} {es : List Expr} {t ta : TA} {x1 : Nat} {tp apos cpos : Pos}
theorem pe_tupIx (hK : X.K = K) (ht : PA X es t) (ha : PA X [e] ta)
    (hbase : attributeBase (.Tuple es x1 tp) "index" X.env (eval (.Tuple es x1 tp) X.env) = eval (.Tuple es x1 tp) X.env := by rfl)
    (hfew : ((backTo cpos (starEach [e] X.env)).all (fun x => !x.1) && (backToKw cpos (keywordEach [] X.env)).all (fun x => x.1.isSome)
      && decide ([e].length + ([] : List Keyword).length + (if ([] : List Keyword).isEmpty then 0 else 1) < 30)) = true := by rfl)
    (hline : (apos.endLine == cpos.line) = true := by rfl) (hs : starEach [e] X.env = (false, eval e X.env) :: starEach [] X.env := by rfl) (hplain : (backTo cpos (starEach [] X.env)).any (·.1) = false := by rfl) :
    PE X (.Call (.Attribute (.Tuple es x1 tp) "index" apos) [e] [] cpos) (fun σ H Q => tTup t σ H fun x H1 => ta σ H1 fun xs H2 => rTupIx K x xs H2 Q) := by
  subst hK
  refine ⟨fun pins s σ H Q I h => ?_⟩
  refine wpAny_Call_method_late hbase hfew hline rfl ?_
  refine wpAny_Tuple_spliced (thn (ht.run tp pins s σ H _ I h) fun us s1 ⟨xs, H1, I1, r, z, q⟩ => ⟨by rw [← r.length]; exact z, ?_⟩)
  have hf : H1 s1.heap.objs.size = none := I1.hok.fresh (Nat.le_refl _)
  have hp : ({ s1 with heap := s1.heap.push { cls := .type "tuple", data := .seq us.toArray } } : Shared).heap.get? s1.heap.objs.size = some { cls := .type "tuple", data := .seq us.toArray } := Heap.get?_push_size _ rfl
  have I2 : Inv X pins σ (upd H1 s1.heap.objs.size (.tup xs)) { s1 with heap := s1.heap.push { cls := .type "tuple", data := .seq us.toArray } } := I1.laid (t' := s1.toks) (fun b u e => Heap.get?_push_of_some _ e) (Nat.le_refl _) ⟨z, us, r, ⟨_, hp, rfl, _, rfl⟩⟩
  refine ⟨"tuple", "tuple.index", F.plainAttrs_tuple, F.slot_tuple_index, F.type_tuple_index, ⟨_, hp, rfl⟩, (fun a e => by cases e; exact ⟨_, hp, rfl⟩), ?_⟩
  have hA := ha.run cpos pins _ σ _ _ I2 (q _ hf)
  rw [hs] at hA ⊢
  refine Calls.callWith_builtin (by show (false || (backTo cpos (starEach [] X.env)).any (·.1)) = false; rw [hplain] <;> rfl) (Calls.evalArgs_plain ?_)
  exact thn hA fun us s2 ⟨vs, H2, I2, r2, q2⟩ => mt_tup_index pins s2 σ H2 (.ref s1.heap.objs.size) vs _ us Q I2 rfl r2 q2
end
end Vf
end
section
set_option Elab.async false
set_option linter.all false
set_option maxRecDepth 100000
set_option maxHeartbeats 4000000
/-! Own layer: *d of a dict, tuple(d.values()). -/
namespace Vf
open PySem PySem.Spec PyProof.Rows L2 PySem.W
section
variable {prog : Program} {w : World} {A : Around} {E : Value → Shared → Prop} {s : Shared} {T : String} {r d : Addr} {n : Nat} {P : Nat → Value → Prop} {OK : Heap → Prop}
theorem collect_kdl {Q : List Value → Shared → Prop} (K : KdlSrc prog w T r d n P OK) (hh : A.handled = none) (hok : OK s.heap) (hn : n ≤ sizeLine)
    (hQ : ∀ (h' : Heap) (tk : Nat) (acc : Array Value), (∀ b o, s.heap.get? b = some o → h'.get? b = some o) → ItemsOf P acc n → Q acc.toList { s with heap := h', toks := tk }) :
    wpAny (model prog w) A (collect (.ref r)) Q E s := by
  unfold collect
  refine wpAny_bind (wpAny_runValue (codeAny_builtin F.entry_proto_collect ?_))
  rw [Around.under_plainId F.plain_proto_collect _]
  show wpAny _ A.in1 (newList [] >>= fun l => again (.builtin "list.__iadd__" ⟨[l, .ref r], []⟩)) _ _ s
  refine wpAny_bind (wpAny_newObj_type ?_)
  refine wpAny_pure ⟨plainId_quiet F.plain_list_iadd _, codeAny_builtin F.entry_list_iadd ?_⟩
  rw [Around.under_plainId F.plain_list_iadd _]
  show wpAny _ A.in1 (Builtin.List.listExtendWith (.ref s.heap.objs.size) (.ref r) (.ref s.heap.objs.size)) _ _ _
  have hS : (s.heap.push { cls := .type "list", data := .seq ([] : List Value).toArray }).get? s.heap.objs.size = some { cls := .type "list", data := .seq #[] 0 } := Heap.get?_push_size _ rfl
  have hlt := K.there _ hok
  refine wpAny_mono (kdl_extend (A := A) (s := { s with heap := s.heap.push { cls := .type "list", data := .seq ([] : List Value).toArray } }) (R := fun rr s' => rr = .ok (.ret (.ref s.heap.objs.size)) ∧ ∃ (h' : Heap) (tk : Nat) (acc : Array Value) (c' : Nat), s' = { s with heap := h', toks := tk } ∧
      (∀ b o, s.heap.get? b = some o → h'.get? b = some o) ∧ h'.get? s.heap.objs.size = some { cls := .type "list", dict := none, data := .seq acc c', slots := #[] } ∧ ItemsOf P acc n)
    K hh (K.keep _ _ hok fun b _ o e => Heap.get?_push_of_some _ e) s.heap.objs.size (Nat.ne_of_gt hlt.1) (Nat.ne_of_gt hlt.2) _ 0 hS
    (fun h' tk acc c' hk e hi => ⟨rfl, h', tk, acc, c', rfl, fun b o q => hk b o (Nat.ne_of_lt (Heap.lt_size q)) (Heap.get?_push_of_some _ q), e, hi⟩) hn) (fun fin s' h => ?_) (fun e s' h => ?_)
  · cases fin with
    | done f =>
      obtain ⟨e, h', tk, acc, c', rfl, hk, hS', hi⟩ := h
      cases e
      show wpAny _ A (load s.heap.objs.size >>= _) _ _ _
      exact wpAny_bind (wpAny_load hS' (wpAny_pure (hQ h' tk acc hk hi)))
    | again c' =>
      refine ⟨h.1, codeAny_mono h.2 fun rr s'' hr' => ?_⟩
      obtain ⟨rfl, h', tk, acc, c', rfl, hk, hS', hi⟩ := hr'
      show wpAny _ A (load s.heap.objs.size >>= _) _ _ _
      exact wpAny_bind (wpAny_load hS' (wpAny_pure (hQ h' tk acc hk hi)))
  · exact absurd h.1 (by simp)
theorem code_tuple_new_kdl {Q₁ : Value → Shared → Prop} (K : KdlSrc prog w "dict_values" r d n P OK) (hh : A.handled = none) (hok : OK s.heap) (hn : n ≤ sizeLine)
    (h : ∀ (h' : Heap) (tk : Nat) (acc : Array Value), (∀ b o, s.heap.get? b = some o → h'.get? b = some o) → ItemsOf P acc n →
      Q₁ (.ref h'.objs.size) { s with heap := h'.push { cls := .type "tuple", data := .seq acc }, toks := tk }) :
    codeAny (model prog w) A (.call (.builtin "tuple.__new__") ⟨[.type "tuple", .ref r], []⟩) (wants Q₁ E) s := by
  refine codeAny_of_tree ?_
  show wpAny _ A.in1 (do checkBuiltinCall "tuple.__new__" ⟨[.type "tuple", .ref r], []⟩; again (.builtin "tuple.__new__" ⟨[.type "tuple", .ref r], []⟩)) _ _ s
  refine wpAny_bind (wpAny_of_eq (F.newCall_tuple_1 _) (wpAny_pure ⟨plainId_quiet F.plain_tuple_new _, codeAny_builtin F.entry_tuple_new ?_⟩))
  rw [Around.under_plainId F.plain_tuple_new _]
  have hsub := sub_tuple_self
  have hinit := init_tuple_lookup
  have hmh := madeHere_tuple
  have hTI : s.TypeIs (.ref r) "dict_values" := K.type s hok
  have hh1 : A.in1.handled = none := hh
  wp_walk using wpAny_typeOf hTI, collect_kdl (A := A.in1) K hh1 hok hn
  intro h' tk acc hk hacc
  show wpAny _ _ (Builtin.Tuple.tupleExact acc.toList.toArray >>= fun v => ret v) _ _ _
  unfold Builtin.Tuple.tupleExact
  refine wpAny_bind (wpAny_newObj_type ?_ (by show acc.toList.toArray.size ≤ sizeLine; simp only [Array.toArray_toList]; rw [hacc.1]; omega))
  refine wpAny_pure ?_
  have e : acc.toList.toArray = acc := by simp
  rw [e]
  exact h h' tk acc hk hacc
theorem call_tuple_kdl {Q : Value → Shared → Prop} (K : KdlSrc prog w "dict_values" r d n P OK) (hh : A.handled = none) (hok : OK s.heap) (hn : n ≤ sizeLine)
    (hQ : ∀ (h' : Heap) (tk : Nat) (acc : Array Value), (∀ b o, s.heap.get? b = some o → h'.get? b = some o) → ItemsOf P acc n →
      Q (.ref h'.objs.size) { s with heap := h'.push { cls := .type "tuple", data := .seq acc }, toks := tk }) :
    wpAny (model prog w) A (call (.type "tuple") [.ref r]) Q E s := by
  refine callType_codes (Q₁ := fun obj s₁ => s₁.TypeIs obj "tuple" ∧ Q obj s₁) F.called_tuple (F.typeCall_tuple_1 _) F.entry_object_init
    (code_tuple_new_kdl (A := A.in1) K hh hok hn fun h' tk acc hk hacc => ⟨⟨_, Heap.get?_push_size _ rfl, rfl⟩, hQ h' tk acc hk hacc⟩) fun obj s₁ h₁ => ?_
  exact ⟨h₁.1, F.args_object_init_2 obj _, object_init_meets F.called_tuple.init.lookup F.called_tuple.made (by decide) prog w A.in1 _ s₁ ⟨h₁.1, rfl, h₁.2⟩⟩
end
theorem kv_vals {κ : Type} {kvs : List (κ × V)} {vs : List (κ × Value)} (r : KV kvs vs) : Vals (kvs.map (·.2)) (vs.map (·.2)) := by
  unfold KV at r
  induction r with
  | nil => exact .nil
  | cons h t ih => exact .cons h.2 ih
section
variable {X : Cx} {pins : List (Addr × Obj)} {σ : L2.St} {H : Hp} {s : Shared}
theorem star_dK {a : Addr} {kvs : List (Key × V)} {E : Value → Shared → Prop} {Q : List Value → Shared → Prop} (hc : X.calm = true) (I : Inv X pins σ H s) (h : H a = some (.dK kvs))
    (hQ : ∀ us s', Inv X pins σ H s' → Vals (kvs.map fun kv => kV kv.1) us → Q us s') : PySem.W.StarOf (model X.prog X.w) X.A E (.ref a) Q s := by
  obtain ⟨z, lo, vs, rk, hd⟩ := (show ObjOk X.prog X.w H s.heap a (.dK kvs) from I.hok a _ h)
  obtain ⟨ep, hat⟩ := hd.dictAt
  have hl : kvs.length = vs.length := Paired.length rk
  unfold PySem.W.StarOf notIterableAtAll
  refine wpAny_bind (wpAny_specialOf hat.dictOf.typeIs PySem.F.slot_dict_iter.lookup (wpAny_pure ⟨rfl, ?_⟩))
  refine collect_kdl (PySem.W.kdl_dict (knd := mixKind X.prog X.w) (kvs := vs) (ep := ep) lo) (I.ok.hd hc) hat (by rw [← hl]; exact z) fun h' tk acc hk hacc => ?_
  refine hQ _ _ (I.kept (t' := tk) hk) ?_
  have el : acc.toList.length = acc.size := by simp
  refine vals_of_at (by rw [List.length_map, el, hacc.1, hl]) fun j x w h1 h2 => ?_
  obtain ⟨k, y, hky, hi⟩ := hacc.2 j w (by rw [← Array.getElem?_toList]; exact h2)
  have e1 : (kvs.map (·.1))[j]? = some k := by
    rw [KV.keys rk, List.getElem?_map, hky] <;> rfl
  have e2 : (kvs.map fun kv => kV kv.1)[j]? = some (kV k) := by
    have e3 : (kvs.map fun kv => kV kv.1) = (kvs.map (·.1)).map kV := by rw [List.map_map] <;> rfl
    rw [e3, List.getElem?_map, e1] <;> rfl
  rw [e2] at h1
  cases h1
  exact keyIs_rel hi
end
section
variable {X : Cx} {K : PySem.W.Frag} {e : Expr} {es : List Expr} {te : TE} {t : TA} {p pos apos cpos : Pos}
/-- the items of a list, a tuple, the keys of a dict -/
structure StarV (K : PySem.W.Frag) (H : Hp) (p : Addr) (xs : List V) : Prop where
  h : SqT K H p xs ∨ SqL K H p xs ∨ ∃ kvs : List (Key × V), H p = some (.dK kvs) ∧ xs = kvs.map fun kv => kV kv.1
def tStarD (K : PySem.W.Frag) (te : TE) (t : TA) : TA := fun σ H Q => te σ H fun x H1 => ∃ p xs, x = V.ref p ∧ StarV K H1 p xs ∧ t σ H1 fun ys H2 => Q (xs ++ ys) H2
theorem pa_starD (hK : X.K = K) (hc : X.calm = true) (he : PE X e te) (hr : PA X es t) (hs : starEach (.Starred e p :: es) X.env = (true, eval e X.env) :: starEach es X.env := by rfl) : PA X (.Starred e p :: es) (tStarD K te t) := by
  subst hK
  refine ⟨fun pos pins s σ H Q I h => ?_⟩
  refine PySem.W.items_star (thn (he.run pins s σ H _ I h) fun v s1 ⟨y, H1, I1, ry, a, xs, ey, hx, q⟩ => ?_) hs
  subst ey
  obtain rfl : v = Value.ref a := ry
  have fin : ∀ us s2, Inv X pins σ H1 s2 → Vals xs us → wpAny (model X.prog X.w) X.A (spliced (backTo pos (starEach es X.env))) (fun ws s3 => ∃ vs H3, Inv X pins σ H3 s3 ∧ Vals vs (us ++ ws) ∧ Q vs H3) X.xe s2 := fun us s2 I2 rv =>
    thn (hr.run pos pins s2 σ H1 _ I2 q) fun ws s3 ⟨vs, H3, I3, r3, q3⟩ => ⟨xs ++ vs, H3, I3, rv.append r3, q3⟩
  rcases hx.h with h1 | h1 | ⟨kvs, h1, rfl⟩
  · exact StX.star_any I1 (.inl h1) fin
  · exact StX.star_any I1 (.inr h1) fin
  · exact star_dK hc I1 h1 fin
/-- tuple(d.values()) -/
def tTupVals (te : TE) : TE := fun σ H Q => te σ H fun x H1 => ∃ d kvs, x = V.ref d ∧ H1 d = some (.dK kvs) ∧ ∀ q, H1 q = none → Q (.ref q) (upd H1 q (.tup (kvs.map (·.2))))
theorem pe_tupVals {tp : Pos} (hc : X.calm = true) (hg : Gl X "tuple") (hm : X.mg "tuple" = none) (he : PE X e te) (hbase : attributeBase e "values" X.env (eval e X.env) = eval e X.env := by rfl) (hline : (apos.endLine == cpos.line) = true := by rfl)
    (na : starEach [(.Call (.Attribute e "values" apos) [] [] cpos : Expr)] X.env = (false, eval (.Call (.Attribute e "values" apos) [] [] cpos) X.env) :: starEach [] X.env := by rfl) :
    PE X (.Call (.Name "tuple" tp) [.Call (.Attribute e "values" apos) [] [] cpos] [] pos) (tTupVals te) := by
  refine ⟨fun pins s σ H Q I h => ?_⟩
  refine Call_ (ld_blt I hg hm boot_tuple (PyProof.Rows.callWith_type1 (args_cons ?_ na) na))
  refine wpAny_Call_method (T := "dict") (id := "dict.values") hbase rfl hline F.plainAttrs_dict F.slot_dict_values F.type_dict_values (thn (he.run pins s σ H _ I h) fun u s1 ⟨x, H1, I1, rx, d, kvs, ex, hd, q⟩ => ?_)
  subst ex
  obtain rfl : u = Value.ref d := rx
  obtain ⟨z, lo, vs, rk, hda⟩ := (show ObjOk X.prog X.w H1 s1.heap d (.dK kvs) from I1.hok d _ hd)
  obtain ⟨ep, hm2⟩ := hda.dictAt
  have hl : kvs.length = vs.length := Paired.length rk
  refine ⟨hm2.dictOf.typeIs, hm2.dictOf.mapOf.noDict, ?_⟩
  have I2 : Inv X pins σ H1 { s1 with heap := s1.heap.push { cls := .type "dict_values", data := .fields #[.ref d] } } := I1.kept (t' := s1.toks) fun b ob q => Heap.get?_push_of_some _ q
  show wpAny _ _ (callWith cpos (.builtin "dict.values") [.ref d] [] []) _ X.xe s1
  refine method_meetsIn F.slot_dict_values F.entry_dict_values rfl (PySem.evalArgs_none ⟨rfl, hm2.dictOf.typeIs, F.args_dict_values_1 _, _, meets_dict_values (mixKind X.prog X.w) d lo, ⟨vs, hm2.dictOf⟩, ?_⟩)
  refine args_nil ?_
  refine call_tuple_kdl (PySem.W.kdl_values (knd := mixKind X.prog X.w) (kvs := vs) (ep := ep) (d := d)) (I2.ok.hd hc) ⟨⟨_, Heap.get?_push_size _ rfl, rfl, rfl⟩, hm2.push _⟩ (by rw [← hl]; exact z) fun h' tk acc hk hacc => ?_
  have I3 : Inv X pins σ H1 { s1 with heap := h', toks := tk } := I2.kept (t' := tk) hk
  have ev : acc.toList = vs.map (·.2) := PySem.W.kdl_vals_eq _ (by simp [hacc.1]) fun j v hj => hacc.2 j v (by rw [← Array.getElem?_toList]; exact hj)
  refine ⟨.ref h'.objs.size, upd H1 h'.objs.size (.tup (kvs.map (·.2))), I3.laid (t' := tk) (fun c o e => Heap.get?_push_of_some _ e) (Nat.le_refl _) (show ObjOk X.prog X.w _ _ _ (.tup (kvs.map (·.2))) from ⟨?_, acc.toList, ?_, ?_⟩), rfl, q _ (I3.hok.fresh (Nat.le_refl _))⟩
  · rw [List.length_map]; exact z
  · rw [ev]
    exact kv_vals rk
  · rw [Array.toArray_toList]; exact IsTup.new _ _
end
end Vf
end
section
set_option Elab.async false
set_option linter.all false
set_option maxRecDepth 100000
set_option maxHeartbeats 4000000
/-! Own layer: texts cut at one sign. -/
namespace Vf
open PySem PySem.Builtin PySem.Builtin.Str
abbrev cp (x : Str) : List Nat := x.cps.toList
theorem cp_app (a b : Str) : cp (a ++ b) = cp a ++ cp b := by
  show (a.cps ++ b.cps).toList = _
  exact Array.toList_append
theorem cp_inj {a b : Str} (h : cp a = cp b) : a = b := Str.ext' (Array.toList_inj.mp h)
theorem cp_len (a : Str) : (cp a).length = a.length := Array.length_toList
def ic (c : Nat) : List (List Nat) → List Nat
  | [] => []
  | [x] => x
  | x :: y :: r => x ++ c :: ic c (y :: r)
/-- cut at each c -/
def sp (c : Nat) : List Nat → List (List Nat)
  | [] => [[]]
  | x :: l => if x = c then [] :: sp c l else match sp c l with
    | p :: r => (x :: p) :: r
    | [] => [[x]]
theorem sp_ne (c : Nat) : ∀ l, sp c l ≠ []
  | [] => by simp [sp]
  | x :: l => by
    unfold sp
    split
    · simp
    · split <;> simp
theorem sp_free {c : Nat} : ∀ {w : List Nat}, c ∉ w → sp c w = [w]
  | [], _ => rfl
  | x :: l, h => by
    have h1 : x ≠ c := fun e => h (by rw [e]; exact List.mem_cons_self)
    unfold sp
    rw [if_neg h1, sp_free (fun z => h (List.mem_cons_of_mem _ z))]
theorem sp_app (c : Nat) (m : List Nat) : ∀ l, sp c (l ++ c :: m) = sp c l ++ sp c m
  | [] => by
    show sp c (c :: m) = _
    conv => lhs; unfold sp
    rw [if_pos rfl]; rfl
  | x :: l => by
    show sp c (x :: (l ++ c :: m)) = _
    conv => lhs; unfold sp
    conv => rhs; arg 1; unfold sp
    rw [sp_app c m l]
    split
    · rfl
    · cases e : sp c l with
      | nil => exact absurd e (sp_ne c l)
      | cons p r => rfl
theorem sp_ic (c : Nat) : ∀ ps : List (List Nat), ps ≠ [] → (∀ p ∈ ps, c ∉ p) → sp c (ic c ps) = ps
  | [], h, _ => absurd rfl h
  | [x], _, h => sp_free (h x List.mem_cons_self)
  | x :: y :: r, _, h => by
    show sp c (x ++ c :: ic c (y :: r)) = _
    rw [sp_app, sp_free (h x List.mem_cons_self), sp_ic c (y :: r) (by simp) fun p hp => h p (List.mem_cons_of_mem _ hp)]; rfl
theorem cp_join (c : Nat) : ∀ ps : List Str, cp (Str.join ⟨#[c]⟩ ps) = ic c (ps.map cp)
  | [] => rfl
  | [x] => rfl
  | x :: y :: r => by
    show cp (x ++ ⟨#[c]⟩ ++ Str.join ⟨#[c]⟩ (y :: r)) = _
    rw [cp_app, cp_app, cp_join c (y :: r), List.append_assoc]; rfl
theorem split_ne (x y : Str) : Txt.split x y ≠ [] := by
  unfold Txt.split
  split
  · simp
  · split
    · simp
    · rw [StrLaws.partsBetween_eq]
      obtain ⟨p, r, e⟩ := StrLaws.partsFrom_ne x y.length 0 (Builtin.Str.occurrences x y 0 x.length (x.length + 1))
      rw [e]; simp
theorem split_sp (x : Str) (c : Nat) : (Txt.split x ⟨#[c]⟩).map cp = sp c (cp x) := by
  have h1 := congrArg cp (StrLaws.join_split x ⟨#[c]⟩)
  rw [cp_join] at h1
  rw [← h1]
  refine (sp_ic c _ (fun z => split_ne x ⟨#[c]⟩ (List.map_eq_nil_iff.mp z)) fun p hp => ?_).symm
  obtain ⟨q, hq, rfl⟩ := List.mem_map.mp hp
  exact StrLaws.split_free x c q hq
theorem map_cp_inj : ∀ {a b : List Str}, a.map cp = b.map cp → a = b
  | [], [], _ => rfl
  | [], _ :: _, h => by cases h
  | _ :: _, [], h => by cases h
  | x :: a, y :: b, h => by
    rw [List.map_cons, List.map_cons] at h
    injection h with h1 h2
    rw [cp_inj h1, map_cp_inj h2]
/-- texts that were joined are found again -/
theorem split_join {c : Nat} {ps : List Str} (h : ps ≠ []) (hf : ∀ p ∈ ps, c ∉ cp p) : Txt.split (Txt.join ⟨#[c]⟩ ps) ⟨#[c]⟩ = ps := by
  refine map_cp_inj ?_
  rw [split_sp]
  show sp c (cp (Builtin.Str.glued ⟨#[c]⟩ ps)) = _
  rw [StrLaws.glued_eq_join, cp_join]
  refine sp_ic c _ (fun z => h (List.map_eq_nil_iff.mp z)) fun p hp => ?_
  obtain ⟨q, hq, rfl⟩ := List.mem_map.mp hp
  exact hf q hq
/-- what stands between spaces -/
def wd (l : List Nat) : List (List Nat) := (sp 32 l).filter fun p => !p.isEmpty
theorem wd_nil : wd [] = [] := rfl
theorem wd_app (l m : List Nat) : wd (l ++ 32 :: m) = wd l ++ wd m := by
  unfold wd
  rw [sp_app, List.filter_append]
theorem wd_one {w : List Nat} (h : 32 ∉ w) (h2 : w ≠ []) : wd w = [w] := by
  unfold wd
  rw [sp_free h]
  cases w with
  | nil => exact absurd rfl h2
  | cons a r => rfl
theorem wd_sp (m : List Nat) : wd (32 :: m) = wd m := wd_app [] m
theorem wd_rep (m : List Nat) : ∀ k, wd (List.replicate k 32 ++ m) = wd m
  | 0 => rfl
  | k + 1 => by
    rw [List.replicate_succ, List.cons_append, wd_sp, wd_rep m k]
theorem wd_end (l : List Nat) : ∀ k, wd (l ++ List.replicate k 32) = wd l
  | 0 => by rw [List.replicate_zero, List.append_nil]
  | k + 1 => by
    rw [List.replicate_succ, wd_app]
    have q := wd_rep [] k
    rw [List.append_nil] at q
    rw [q, wd_nil, List.append_nil]
theorem stripBy_eqV (g : Nat → Bool) (l r : Bool) (x : Str) : Txt.stripBy g l r x = stripped g l r x := by
  unfold Txt.stripBy
  split
  · rename_i h
    simp only [stripSame, Bool.and_eq_true, beq_iff_eq] at h
    show x = strSub x (stripLo g l x) (stripHi g r x (stripLo g l x))
    rw [h.2, h.1, StrLaws.sub_whole]
  · rfl
def wdS (x : Str) : List Str := (Txt.split x " ").filter fun p => !decide (L2.V.str p = L2.V.str "")
theorem emp_cp (p : Str) : (cp p).isEmpty = decide (L2.V.str p = L2.V.str "") := by
  rw [dvs]
  by_cases h : p = ""
  · subst h; rfl
  · rw [decide_eq_false h]
    cases e : cp p with
    | nil => exact absurd (cp_inj (b := "") e) h
    | cons a r => rfl
theorem wdS_cp (x : Str) : (wdS x).map cp = wd (cp x) := by
  unfold wdS wd
  rw [← split_sp x 32]
  show ((Txt.split x ⟨#[32]⟩).filter _).map cp = _
  rw [List.filter_map]
  congr 1
  refine List.filter_congr fun p _ => ?_
  show (!decide (L2.V.str p = L2.V.str "")) = !(cp p).isEmpty
  rw [emp_cp]
theorem wdS_of {x : Str} {ws : List Str} (h : wd (cp x) = ws.map cp) : wdS x = ws := map_cp_inj ((wdS_cp x).trans h)
theorem tw_rep (l : List Nat) : ∃ k, l.takeWhile (fun c => decide (c = 32)) = List.replicate k 32 := by
  induction l with
  | nil => exact ⟨0, rfl⟩
  | cons a r ih =>
    obtain ⟨k, e⟩ := ih
    by_cases h : a = 32
    · subst h
      refine ⟨k + 1, ?_⟩
      rw [List.takeWhile_cons_of_pos (by simp), e, List.replicate_succ]
    · exact ⟨0, by rw [List.takeWhile_cons_of_neg (by simpa using h)]; rfl⟩
theorem rstrip_cp (x : Str) : ∃ k, cp x = cp (Txt.rstripChars x " ") ++ List.replicate k 32 := by
  have e : Txt.rstripChars x " " = strSub x 0 (x.length - ((cp x).reverse.takeWhile (fun c => decide (c = 32))).length) := by
    unfold Txt.rstripChars
    rw [stripBy_eqV]
    have g : (fun c : Nat => (" " : Str).cps.contains c) = fun c => decide (c = 32) := funext fun c => by
      show (#[32] : Array Nat).contains c = _
      simp
    show strSub x 0 (x.length - (((cp x).drop 0).reverse.takeWhile (fun c : Nat => (" " : Str).cps.contains c)).length) = _
    rw [g, List.drop_zero]
  obtain ⟨k, hk⟩ := tw_rep (cp x).reverse
  refine ⟨k, ?_⟩
  rw [e]
  have q : cp (strSub x 0 (x.length - ((cp x).reverse.takeWhile (fun c => decide (c = 32))).length)) = (cp x).take ((cp x).length - k) := by
    show (strSub _ _ _).cps.toList = _
    rw [StrLaws.strSub_toList, List.drop_zero, Nat.sub_zero, hk, List.length_replicate, cp_len]
  rw [q]
  have s := (List.takeWhile_append_dropWhile (p := fun c => decide (c = 32)) (l := (cp x).reverse))
  rw [hk] at s
  have s2 := congrArg List.reverse s
  rw [List.reverse_append, List.reverse_reverse, List.reverse_replicate] at s2
  generalize ((cp x).reverse.dropWhile (fun c => decide (c = 32))).reverse = r at s2
  rw [← s2]
  congr 1
  have l2 : (r ++ List.replicate k 32).length - k = r.length := by
    rw [List.length_append, List.length_replicate]; omega
  rw [l2, List.take_left]
theorem wd_rstrip (x : Str) : wd (cp (Txt.rstripChars x " ")) = wd (cp x) := by
  obtain ⟨k, e⟩ := rstrip_cp x
  rw [e, wd_end]
/-- words joined by one space -/
theorem wd_join : ∀ {ws : List Str}, (∀ w ∈ ws, 32 ∉ cp w ∧ cp w ≠ []) → wd (cp (Txt.join ⟨#[32]⟩ ws)) = ws.map cp := by
  intro ws h
  show wd (cp (Builtin.Str.glued ⟨#[32]⟩ ws)) = _
  rw [StrLaws.glued_eq_join, cp_join]
  cases ws with
  | nil => rfl
  | cons w r =>
    unfold wd
    rw [sp_ic 32 _ (by simp) fun p hp => ?_]
    · refine List.filter_eq_self.mpr fun p hp => ?_
      obtain ⟨q, hq, rfl⟩ := List.mem_map.mp hp
      have := (h q hq).2
      cases e : cp q with
      | nil => exact absurd e this
      | cons a b => rfl
    · obtain ⟨q, hq, rfl⟩ := List.mem_map.mp hp
      exact (h q hq).1
/-- a text that was closed by a space: what is behind it has its own words -/
def Cl (t : Str) (ws : List Str) : Prop := ∀ m, wd (cp t ++ m) = ws.map cp ++ wd m
theorem Cl.word {t w : Str} {ws : List Str} {k : Nat} (h : Cl t ws) (h1 : 32 ∉ cp w) (h2 : cp w ≠ []) (hk : 1 ≤ k) {t' : Str} (e : cp t' = cp t ++ cp w ++ List.replicate k 32) : Cl t' (ws ++ [w]) := fun m => by
  obtain ⟨j, rfl⟩ : ∃ j, k = j + 1 := ⟨k - 1, by omega⟩
  rw [e, List.append_assoc, List.append_assoc, h, List.replicate_succ, List.cons_append, wd_app, wd_one h1 h2, wd_rep, List.map_append, List.append_assoc]; rfl
theorem Cl.start {t : Str} {k : Nat} (e : cp t = List.replicate k 32) : Cl t [] := fun m => by rw [e, wd_rep]; rfl
theorem Cl.done {t : Str} {ws : List Str} (h : Cl t ws) : wd (cp t) = ws.map cp := by
  have q := h []
  rw [List.append_nil, wd_nil, List.append_nil] at q
  exact q
end Vf
end
section
set_option Elab.async false
set_option linter.all false
set_option maxRecDepth 100000
set_option maxHeartbeats 4000000
/-! Own layer: methods and classes by their promises; a heap in which some objects change. -/
namespace Vf
open PySem PySem.Spec PyProof.Rows L2 GxR GenW RZ
structure Mf (P : Program) (w : World) (K : PySem.W.Frag) (mg : Str → Option Value) (base : Heap) (C : Addr) (m : Str) (k : Nat) (ps : List Str) (sp : Sp) : Prop where
  ex : ∃ (f : Addr) (fd : FuncData), FnOk P w K mg base CX0 k f fd ps sp ∧ Meth K C m f ∧ Binds K fd ps []
structure Cf (P : Program) (w : World) (K : PySem.W.Frag) (mg : Str → Option Value) (base : Heap) (C : Addr) (x : Str) (k : Nat) (ps : List Str) (sp : Sp) : Prop where
  ex : ∃ (f : Addr) (fd : FuncData), FnOk P w K mg base CX0 k f fd ps sp ∧ Mk K C f ∧ mg x = some (.ref C) ∧ Binds K fd ps []
section
variable {X : Cx} {k j : Nat} {x m : Str} {ps : List Str} {sp : Sp} {p pos apos : Pos} {o e : Expr} {es : List Expr} {to : TE} {t : TA} {C : Addr}
theorem pe_mt {pl : Sem Bool} (c : Cls X.K C) (D : Mf X.prog X.w X.K X.mg X.base C m k ps sp) (hr : Room j X.A) (hk : k ≤ j) (ho : PE X o to) (ha : PA X (e :: es) t)
    (hst : starEach (e :: es) X.env = (false, eval e X.env) :: starEach es X.env := by rfl) (hpl : (backTo pos (starEach es X.env)).any (·.1) = false := by rfl)
    (ht : eval (.Call (.Attribute o m apos) (e :: es) [] pos) X.env = (do
      let ov ← eval o X.env
      standAt apos.atName
      let (f, first) ← holding [ov] (getMethod ov m pl)
      callWith pos f first (backTo pos (starEach (e :: es) X.env)) (backToKw pos (keywordEach [] X.env))) := by rfl) :
    PE X (.Call (.Attribute o m apos) (e :: es) [] pos) (tMeth C m sp [] E0 to t) := by
  obtain ⟨f, fd, F, hm, hb⟩ := D.ex
  exact pe_meth (pl := pl) ho c hm F (hr.mono hk) hb .nil pass0 ha hst hpl ht
theorem pe_mt0 {pl : Sem Bool} (c : Cls X.K C) (D : Mf X.prog X.w X.K X.mg X.base C m k ps sp) (hr : Room j X.A) (hk : k ≤ j) (ho : PE X o to)
    (ht : eval (.Call (.Attribute o m apos) [] [] pos) X.env = (do
      let ov ← eval o X.env
      standAt apos.atName
      let (f, first) ← holding [ov] (getMethod ov m pl)
      callWith pos f first (backTo pos (starEach [] X.env)) (backToKw pos (keywordEach [] X.env))) := by rfl) :
    PE X (.Call (.Attribute o m apos) [] [] pos) (tMeth C m sp [] E0 to tNil) := by
  obtain ⟨f, fd, F, hm, hb⟩ := D.ex
  exact pe_meth0 (pl := pl) ho c hm F (hr.mono hk) hb .nil pass0 ht
theorem pe_mk (D : Cf X.prog X.w X.K X.mg X.base C x k ps sp) (hr : Room j X.A) (hk : k + 1 ≤ j) (hg : Gl X x) (ha : PA X (e :: es) t) (hdb : (x == ("__debug__" : Str)) = false := by decide)
    (he : starEach (e :: es) X.env = (false, eval e X.env) :: starEach es X.env := by rfl) (hpl : (backTo pos (starEach es X.env)).any (·.1) = false := by rfl) : PE X (.Call (.Name x p) (e :: es) [] pos) (tMake C sp [] E0 t) := by
  obtain ⟨f, fd, F, M, hm, hb⟩ := D.ex
  exact pe_make M F (hr.mono hk) hg hm hb .nil pass0 ha hdb he hpl
end
/-! ### a heap in which the objects S change -/
def isFix : HO → Bool
  | .tup _ => true
  | .tbl _ => true
  | _ => false
def GrM (S : List Addr) (H H' : Hp) : Prop := ∀ b o, (b ∉ S ∨ isFix o = true) → H b = some o → (H' b = some o ∨ ∃ ps more, o = .tbl ps ∧ H' b = some (.tbl (ps ++ more)) ∧ (TriplesOk ps.toList → TriplesOk (ps ++ more).toList))
/-- what may change stands there, and is none of those that do not -/
def Mu (H : Hp) (b : Addr) : Prop := ∀ o, H b = some o → isFix o = false
section
variable {S S' : List Addr} {H H' H1 H2 : Hp} {b : Addr} {o : HO}
theorem GrM.refl (S : List Addr) (H : Hp) : GrM S H H := fun _ _ _ h => .inl h
theorem Gr.m (g : Gr H H') : GrM S H H' := fun b o _ h => g b o h
theorem GrM.trans (a : GrM S H H1) (b : GrM S H1 H2) : GrM S H H2 := by
  intro c o hc e
  rcases a c o hc e with h | ⟨ps, more, rfl, h, k⟩
  · exact b c o hc h
  · rcases b c _ (.inr rfl) h with h2 | ⟨ps2, more2, e2, h2, k2⟩
    · exact .inr ⟨ps, more, rfl, h2, k⟩
    · cases e2
      exact .inr ⟨ps, more ++ more2, rfl, by rw [← Array.append_assoc]; exact h2, fun z => by rw [← Array.append_assoc]; exact k2 (k z)⟩
theorem GrM.mono (h : GrM S H H') (hs : ∀ b ∈ S, b ∈ S') : GrM S' H H' := fun b o hb e => h b o (hb.imp (fun z y => z (hs b y)) id) e
theorem GrM.keep (g : GrM S H H') (hb : b ∉ S) (h : H b = some o) (n : ∀ ps, o ≠ .tbl ps) : H' b = some o := by
  rcases g b o (.inl hb) h with e | ⟨ps, _, e, _⟩
  · exact e
  · exact absurd e (n ps)
theorem GrM.tup {xs : List V} (g : GrM S H H') (h : H b = some (.tup xs)) : H' b = some (.tup xs) := by
  rcases g b _ (.inr rfl) h with e | ⟨ps, _, e, _⟩
  · exact e
  · cases e
theorem GrM.upd (g : GrM S H H') (hb : b ∈ S) (hm : Mu H b) : GrM S H (L2.upd H' b o) := by
  intro c w hc e
  by_cases z : c = b
  · subst z
    rcases hc with hc | hc
    · exact absurd hb hc
    · rw [hm w e] at hc; cases hc
  · rw [upd_ne z]
    exact g c w hc e
theorem GrM.new (g : GrM S H H') (hb : H b = none) : GrM S H (L2.upd H' b o) := by
  intro c w hc e
  rw [upd_ne (ne_of_none e hb)]
  exact g c w hc e
theorem GrM.drop (g : GrM S' H H') (hs : ∀ b ∈ S', b ∈ S ∨ H b = none) : GrM S H H' := fun b o hb e => by
  refine g b o ?_ e
  rcases hb with hb | hb
  · refine .inl fun z => ?_
    rcases hs b z with y | y
    · exact hb y
    · rw [e] at y; cases y
  · exact .inr hb
theorem GrM.gr (g : GrM S H H') (hs : ∀ b ∈ S, H b = none) : Gr H H' := fun b o e => by
  refine g b o (.inl fun z => ?_) e
  rw [hs b z] at e; cases e
theorem GrM.free (g : GrM S H H') (hb : b ∉ S) (h : H' b = none) : H b = none := by
  cases q : H b with
  | none => rfl
  | some o =>
    rcases g b o (.inl hb) q with h1 | ⟨_, _, _, h1, _⟩
    · rw [h] at h1; cases h1
    · rw [h] at h1; cases h1
theorem GrM.tabG {P : Addr} (g : GrM S H H') (h : TabG H P) : TabG H' P := by
  obtain ⟨ps, h1, h2⟩ := h
  rcases g P _ (.inr rfl) h1 with e | ⟨ps2, more, e, e2, k⟩
  · exact ⟨ps, e, h2⟩
  · cases e
    exact ⟨_, e2, k h2⟩
theorem GrM.seqT {K : PySem.W.Frag} {a : Addr} {xs : List V} (g : GrM S H H') (h : SqT K H a xs) (hf : ∀ o ys, H a ≠ some (.frz o ys)) : SqT K H' a xs := by
  rcases h with (h | ⟨o, h⟩) | h
  · exact .inl (.inl (g.tup h))
  · exact absurd h (hf _ _)
  · exact .inr h
theorem Mu.ins {C dx : Addr} {fs : List (Str × V)} (h : H b = some (.ins C dx fs)) : Mu H b := fun o e => by rw [h] at e; cases e; rfl
theorem Mu.lst {xs : List V} (h : H b = some (.lst xs)) : Mu H b := fun o e => by rw [h] at e; cases e; rfl
theorem Mu.dk {xs : List (Key × V)} (h : H b = some (.dK xs)) : Mu H b := fun o e => by rw [h] at e; cases e; rfl
theorem Mu.none (h : H b = Option.none) : Mu H b := fun o e => by rw [h] at e; cases e
end
/-- any text, any number of times -/
def rMulA : R2 := fun x y H Q => ∃ (z : Str) (k : Nat), x = .str z ∧ y = .int k ∧ k ≤ 1000 ∧ 0 < z.length ∧ z.length ≤ 1000 ∧ ∀ r : Str, cp r = (List.replicate k (cp z)).flatten → Q (.str r) H
theorem fold_cp (z : Array Nat) : ∀ (k : Nat) (a : Array Nat), ((List.replicate k z).foldl (· ++ ·) a).toList = a.toList ++ (List.replicate k z.toList).flatten
  | 0, a => by simp
  | k + 1, a => by
    rw [List.replicate_succ, List.foldl_cons, fold_cp z k, Array.toList_append, List.replicate_succ, List.flatten_cons, List.append_assoc]
section
variable {X : Cx}
theorem op_mulA : OpR X (binaryOp .Mult) rMulA := by
  intro pins s σ H x y v u Q I rx ry h
  obtain ⟨z, k, rfl, rfl, h2, h3, h4, q⟩ := h
  obtain ⟨t, rfl⟩ := rx
  obtain ⟨t', rfl⟩ := ry
  have lz : z.length * k ≤ 1000000 := Nat.le_trans (Nat.mul_le_mul h4 h2) (by decide)
  have tn : ((k : Int)).toNat = k := Int.toNat_natCast k
  refine PySem.P.mul_str ?_ (fun h1 _ => ?_) (fun _ _ => ?_) ?_
  · rw [decide_eq_false (by omega), decide_eq_false (by omega)]
    rfl
  · have a1 : (1000 : Int) ≤ (2 ^ 63 - 1) / (k : Int) := by
      refine Int.le_ediv_of_mul_le (by omega) ?_
      omega
    omega
  · rw [tn]
    show decide (_ > sizeLine) = false
    rw [sizeLine_eq]
    exact decide_eq_false (by omega)
  · by_cases c0 : (k : Int) < 1
    · rw [if_pos c0]
      have k0 : k = 0 := by omega
      subst k0
      exact ⟨by rw [sizeLine_eq]; decide, .str _, H, I.tok _, ⟨_, rfl⟩, q _ rfl⟩
    · rw [if_neg c0]
      by_cases c1 : k = 1
      · subst c1
        exact ⟨.str z, H, I, ⟨_, rfl⟩, q z (by show cp z = (List.replicate 1 (cp z)).flatten; rw [List.replicate_one, List.flatten_singleton])⟩
      · have c2 : ((k : Int) == 1 || z.length == 0) = false := by
          rw [beq_eq_false_iff_ne.mpr (show (k : Int) ≠ 1 by omega), beq_eq_false_iff_ne.mpr (show z.length ≠ 0 by omega)]
          rfl
        rw [if_neg (by rw [c2]; decide), tn]
        have e : cp (⟨(List.replicate k z.cps).foldl (· ++ ·) #[]⟩ : Str) = (List.replicate k (cp z)).flatten := by
          show ((List.replicate k z.cps).foldl (· ++ ·) #[]).toList = _
          rw [fold_cp]; rfl
        refine ⟨?_, .str _, H, I.tok _, ⟨_, rfl⟩, q _ e⟩
        have l := congrArg List.length e
        rw [cp_len] at l
        rw [l, List.length_flatten, List.map_replicate, List.sum_replicate_nat, cp_len, sizeLine_eq]
        rw [Nat.mul_comm]
        omega
structure rMuX (K : PySem.W.Frag) (x y : V) (H : Hp) (Q : VK) : Prop where
  h : rMuW K x y H Q ∨ rMulA x y H Q
theorem u_mulX {K : PySem.W.Frag} (hK : X.K = K) : OpR X (binaryOp .Mult) (rMuX K) := by
  subst hK
  exact fun pins s σ H x y v u Q I rx ry h => (OpR.or (u_mulW rfl) op_mulA) pins s σ H x y v u Q I rx ry h.h
end
theorem mx_s {K : PySem.W.Frag} {H : Hp} {Q : VK} {z : Str} {k : Nat} (h2 : k ≤ 1000) (h3 : 0 < z.length) (h4 : z.length ≤ 1000) (q : ∀ r : Str, cp r = (List.replicate k (cp z)).flatten → Q (.str r) H) : rMuX K (.str z) (.int k) H Q := ⟨.inr ⟨z, k, rfl, rfl, h2, h3, h4, q⟩⟩
theorem mx_w {K : PySem.W.Frag} {x y : V} {H : Hp} {Q : VK} (h : rMuW K x y H Q) : rMuX K x y H Q := ⟨.inl h⟩
end Vf
end
section
set_option Elab.async false
set_option linter.all false
set_option maxRecDepth 100000
set_option maxHeartbeats 4000000
namespace Vf
open PySem PySem.Spec PyProof.Rows L2 GxR GenW RZ
/-! ### contents as characters with marks -/
abbrev cps (x : Str) : List Nat := x.cps.toList
theorem cps_app (a b : Str) : cps (a ++ b) = cps a ++ cps b := by
  show (a.cps ++ b.cps).toList = _
  rw [Array.toList_append]
theorem cps_inj {a b : Str} (h : cps a = cps b) : a = b := Str.ext' (Array.toList_inj.mp h)
theorem cps_len (a : Str) : (cps a).length = a.length := Array.length_toList
abbrev Mk3 : Type := Str × Bool × Bool
abbrev Pc : Type := Str × Mk3
abbrev Ch : Type := Nat × Mk3
abbrev Fc : Type := List Ch
abbrev Fln : Type := Nat × List Fc
abbrev Fm : Type := List Fln
def chS (c : Nat) : Str := ⟨#[c]⟩
def putp (c : List Pc) (p : Pc) : List Pc := match c.getLast? with
  | some q => if q.2 = p.2 then c.dropLast ++ [(q.1 ++ p.1, p.2)] else c ++ [p]
  | none => [p]
theorem putp_nil (p : Pc) : putp [] p = [p] := rfl
theorem putp_snoc (c : List Pc) (q p : Pc) : putp (c ++ [q]) p = if q.2 = p.2 then c ++ [(q.1 ++ p.1, p.2)] else c ++ [q] ++ [p] := by
  unfold putp
  rw [List.getLast?_concat, List.dropLast_concat]
theorem snoc_cases {α : Type} (c : List α) : c = [] ∨ ∃ d q, c = d ++ [q] := by
  by_cases h : c = []
  · exact .inl h
  · exact .inr ⟨c.dropLast, c.getLast h, (List.dropLast_concat_getLast h).symm⟩
def fl (ps : List Pc) : Fc := ps.flatMap fun p => (cps p.1).map fun c => (c, p.2)
theorem fl_app (a b : List Pc) : fl (a ++ b) = fl a ++ fl b := List.flatMap_append
theorem fl_one (p : Pc) : fl [p] = (cps p.1).map fun c => (c, p.2) := by simp [fl]
theorem fl_put (c : List Pc) (p : Pc) : fl (putp c p) = fl c ++ fl [p] := by
  rcases snoc_cases c with rfl | ⟨d, q, rfl⟩
  · rfl
  · rw [putp_snoc]
    split
    · rename_i e
      rw [fl_app, fl_app, fl_one, fl_one, fl_one, cps_app, List.map_append, List.append_assoc, e]
    · rw [fl_app]
def stepC (c : List Pc) (x : Ch) : List Pc := putp c (chS x.1, x.2)
def cn (xs : Fc) : List Pc := xs.foldl stepC []
theorem put_put (c : List Pc) (s t : Str) (m : Mk3) : putp (putp c (s, m)) (t, m) = putp c (s ++ t, m) := by
  rcases snoc_cases c with rfl | ⟨d, q, rfl⟩
  · rw [putp_nil, putp_nil, show [(s, m)] = ([] : List Pc) ++ [(s, m)] from rfl, putp_snoc, if_pos rfl]; rfl
  · rw [putp_snoc, putp_snoc]
    split
    · rw [putp_snoc, if_pos rfl]
      have e : q.1 ++ s ++ t = q.1 ++ (s ++ t) := cps_inj (by rw [cps_app, cps_app, cps_app, cps_app, List.append_assoc])
      show d ++ [(q.1 ++ s ++ t, m)] = _
      rw [e]
    · rw [putp_snoc, if_pos rfl]
theorem text_fold (m : Mk3) : ∀ (l : List Nat) (c : List Pc) (s : Str), (l.map fun a => ((a, m) : Ch)).foldl stepC (putp c (s, m)) = putp c (s ++ ⟨l.toArray⟩, m)
  | [], c, s => by
    have e : s ++ (⟨([] : List Nat).toArray⟩ : Str) = s := cps_inj (by rw [cps_app]; show cps s ++ [] = _; rw [List.append_nil])
    rw [e]; rfl
  | a :: l, c, s => by
    have e : s ++ chS a ++ (⟨l.toArray⟩ : Str) = s ++ (⟨(a :: l).toArray⟩ : Str) := cps_inj (by rw [cps_app, cps_app, cps_app, List.append_assoc]; rfl)
    rw [List.map_cons, List.foldl_cons, show stepC (putp c (s, m)) (a, m) = putp c (s ++ chS a, m) from put_put _ _ _ _, text_fold m l c, e]
theorem put_fold {p : Pc} (h : cps p.1 ≠ []) (c : List Pc) : (fl [p]).foldl stepC c = putp c p := by
  rw [fl_one]
  obtain ⟨a, l, e⟩ : ∃ a l, cps p.1 = a :: l := by
    cases q : cps p.1 with
    | nil => exact absurd q h
    | cons a l => exact ⟨a, l, rfl⟩
  rw [e, List.map_cons, List.foldl_cons]
  have e2 : chS a ++ (⟨l.toArray⟩ : Str) = p.1 := cps_inj (by rw [cps_app, e]; rfl)
  show (l.map fun b => ((b, p.2) : Ch)).foldl stepC (putp c (chS a, p.2)) = _
  rw [text_fold, e2]
theorem jn_fold : ∀ (ps : List Pc) (c : List Pc), (∀ p ∈ ps, cps p.1 ≠ []) → ps.foldl putp c = (fl ps).foldl stepC c
  | [], _, _ => rfl
  | p :: ps, c, h => by
    rw [List.foldl_cons, jn_fold ps _ fun q hq => h q (List.mem_cons_of_mem _ hq), show fl (p :: ps) = fl [p] ++ fl ps from fl_app [p] ps, List.foldl_append, put_fold (h p List.mem_cons_self)]
theorem jn_cn {ps : List Pc} (h : ∀ p ∈ ps, cps p.1 ≠ []) : ps.foldl putp [] = cn (fl ps) := jn_fold ps [] h
theorem fl_fold : ∀ (xs : Fc) (c : List Pc), fl (xs.foldl stepC c) = fl c ++ xs
  | [], c => (List.append_nil _).symm
  | x :: xs, c => by
    rw [List.foldl_cons, fl_fold xs, show stepC c x = putp c (chS x.1, x.2) from rfl, fl_put, List.append_assoc]; rfl
theorem fl_cn (xs : Fc) : fl (cn xs) = xs := fl_fold xs []
theorem put_ne {c : List Pc} {p : Pc} (h : ∀ q ∈ c, cps q.1 ≠ []) (hp : cps p.1 ≠ []) : ∀ q ∈ putp c p, cps q.1 ≠ [] := by
  rcases snoc_cases c with rfl | ⟨d, r, rfl⟩
  · rw [putp_nil]
    intro q hq
    rw [List.mem_singleton] at hq
    rw [hq]; exact hp
  · rw [putp_snoc]
    intro q hq
    split at hq
    · rcases List.mem_append.mp hq with z | z
      · exact h q (List.mem_append_left _ z)
      · rw [List.mem_singleton] at z
        rw [z, cps_app]
        exact fun e => hp (List.append_eq_nil_iff.mp e).2
    · rcases List.mem_append.mp hq with z | z
      · exact h q z
      · rw [List.mem_singleton] at z
        rw [z]; exact hp
theorem fold_ne : ∀ (xs : Fc) (c : List Pc), (∀ q ∈ c, cps q.1 ≠ []) → ∀ q ∈ xs.foldl stepC c, cps q.1 ≠ []
  | [], _, h => h
  | x :: xs, c, h => fold_ne xs _ (put_ne h (by show [x.1] ≠ []; simp))
theorem cn_ne (xs : Fc) : ∀ q ∈ cn xs, cps q.1 ≠ [] := fold_ne xs [] (by simp)
theorem cn_in {xs : Fc} {p : Pc} (h : p ∈ cn xs) {c : Nat} (hc : c ∈ cps p.1) : (c, p.2) ∈ xs := by
  have e := fl_cn xs
  rw [← e]
  exact List.mem_flatMap.mpr ⟨p, h, List.mem_map.mpr ⟨c, hc, rfl⟩⟩
theorem cn_mk {xs : Fc} {p : Pc} (h : p ∈ cn xs) : ∃ c, (c, p.2) ∈ xs := by
  have q := cn_ne xs p h
  cases e : cps p.1 with
  | nil => exact absurd e q
  | cons c l => exact ⟨c, cn_in h (by rw [e]; simp)⟩
/-! neighbours' marks differ -/
def Adj (c : List Pc) : Prop := ∀ i p q, c[i]? = some p → c[i + 1]? = some q → p.2 ≠ q.2
theorem adj_snoc {c : List Pc} {p : Pc} (h : Adj c) (hl : ∀ q, c.getLast? = some q → q.2 ≠ p.2) : Adj (c ++ [p]) := by
  intro i a b ha hb
  have hb2 := (List.getElem?_eq_some_iff.mp hb).1
  rw [List.length_append, List.length_singleton] at hb2
  rw [List.getElem?_append_left (by omega)] at ha
  by_cases e : i + 1 < c.length
  · rw [List.getElem?_append_left e] at hb
    exact h i a b ha hb
  · have e2 : i + 1 = c.length := by omega
    rw [List.getElem?_append_right (by omega), e2, Nat.sub_self] at hb
    cases hb
    refine hl a ?_
    rw [List.getLast?_eq_getElem?, ← e2]
    exact ha
theorem adj_pre {c d : List Pc} (h : Adj (c ++ d)) : Adj c := fun i p q hp hq => h i p q (by rw [List.getElem?_append_left (List.getElem?_eq_some_iff.mp hp).1]; exact hp) (by rw [List.getElem?_append_left (List.getElem?_eq_some_iff.mp hq).1]; exact hq)
theorem adj_put {c : List Pc} {p : Pc} (h : Adj c) : Adj (putp c p) := by
  rcases snoc_cases c with rfl | ⟨d, r, rfl⟩
  · rw [putp_nil]
    intro i a b ha hb
    simp at hb
  · rw [putp_snoc]
    split
    · rename_i e
      refine adj_snoc (adj_pre h) fun q hq => ?_
      show q.2 ≠ p.2
      rw [← e]
      rw [List.getLast?_eq_getElem?] at hq
      have hi := (List.getElem?_eq_some_iff.mp hq).1
      refine h (d.length - 1) q r (by rw [List.getElem?_append_left hi]; exact hq) ?_
      rw [show d.length - 1 + 1 = d.length by omega, List.getElem?_append_right (Nat.le_refl _), Nat.sub_self]; rfl
    · rename_i e
      refine adj_snoc h fun q hq => ?_
      rw [List.getLast?_concat] at hq
      cases hq
      exact e
theorem adj_fold : ∀ (xs : Fc) (c : List Pc), Adj c → Adj (xs.foldl stepC c)
  | [], _, h => h
  | x :: xs, c, h => adj_fold xs _ (adj_put h)
theorem cn_adj (xs : Fc) : Adj (cn xs) := adj_fold xs [] fun i p q h => by simp at h
/-! ### the data -/
def mkD (m : Mk3) : PyData := .tuple [.str m.1, .bool m.2.1, .bool m.2.2]
def pcD (p : Pc) : PyData := .tuple [.str p.1, mkD p.2]
def ceD (xs : Fc) : PyData := .tuple ((cn xs).map pcD)
def liD (l : Fln) : PyData := .tuple [.int (l.1 : Nat), .tuple (l.2.map ceD)]
def coD (m : Fm) : PyData := .tuple (m.map liD)
/-! ### dropping -/
abbrev Drp : Type := Str → Bool
def NO : Mk3 := ("", false, false)
def um (s : Drp) (m : Mk3) : Mk3 := (if s "link" then "" else m.1, m.2.1 && !s "bold", m.2.2 && !s "slant")
def umC (s : Drp) (xs : Fc) : Fc := xs.map fun x => (x.1, um s x.2)
def gl : List Fc → Fc
  | [] => []
  | x :: r => x ++ r.flatMap fun c => (32, NO) :: c
def opL (s : Drp) (l : Fln) : Fln := (if s "nest" then 0 else l.1, if s "cells" then [gl (l.2.map (umC s))] else l.2.map (umC s))
def op (s : Drp) (m : Fm) : Fm := m.map (opL s)
def orD (s t : Drp) : Drp := fun f => s f || t f
theorem um_um (s t : Drp) (m : Mk3) : um s (um t m) = um (orD s t) m := by
  obtain ⟨l, b, c⟩ := m
  unfold um orD
  cases s "link" <;> cases t "link" <;> cases s "bold" <;> cases t "bold" <;> cases s "slant" <;> cases t "slant" <;> simp
theorem um_NO (s : Drp) : um s NO = NO := by
  unfold um NO
  cases s "link" <;> simp
theorem umC_umC (s t : Drp) (xs : Fc) : umC s (umC t xs) = umC (orD s t) xs := by
  unfold umC
  rw [List.map_map]
  refine List.map_congr_left fun x _ => ?_
  show (x.1, um s (um t x.2)) = _
  rw [um_um]
theorem umC_app (s : Drp) (a b : Fc) : umC s (a ++ b) = umC s a ++ umC s b := List.map_append
theorem umC_flat (s : Drp) : ∀ r : List Fc, umC s (r.flatMap fun c => (32, NO) :: c) = (r.map (umC s)).flatMap fun c => (32, NO) :: c
  | [] => rfl
  | c :: r => by
    rw [List.flatMap_cons, umC_app, umC_flat s r, List.map_cons, List.flatMap_cons]
    show ((32, um s NO) :: umC s c) ++ _ = _
    rw [um_NO]
theorem umC_gl (s : Drp) : ∀ cs : List Fc, umC s (gl cs) = gl (cs.map (umC s))
  | [] => rfl
  | x :: r => by
    show umC s (x ++ _) = umC s x ++ _
    rw [umC_app, umC_flat]
theorem gl_one (x : Fc) : gl [x] = x := List.append_nil x
theorem opL_opL (s t : Drp) (l : Fln) : opL s (opL t l) = opL (orD s t) l := by
  have e1 : (l.2.map (umC t)).map (umC s) = l.2.map (umC (orD s t)) := by
    rw [List.map_map]
    exact List.map_congr_left fun x _ => umC_umC s t x
  have e2 : ([gl (l.2.map (umC t))].map (umC s)) = [gl (l.2.map (umC (orD s t)))] := by
    show [umC s _] = _
    rw [umC_gl, e1]
  unfold opL
  refine Prod.ext ?_ ?_
  · show (if s "nest" = true then 0 else if t "nest" = true then 0 else l.1) = if (s "nest" || t "nest") = true then 0 else l.1
    cases s "nest" <;> cases t "nest" <;> rfl
  · show (if s "cells" = true then _ else _) = if (s "cells" || t "cells") = true then _ else _
    cases hs : s "cells" <;> cases ht : t "cells" <;> simp only [Bool.false_eq_true, if_false, if_true, Bool.or_false, Bool.or_true, Bool.or_self]
    · exact e1
    · exact e2
    · rw [e1]
    · rw [e2, gl_one]
theorem op_op (s t : Drp) (m : Fm) : op s (op t m) = op (orD s t) m := by
  unfold op
  rw [List.map_map]
  exact List.map_congr_left fun l _ => opL_opL s t l
def five : List Str := ["cells", "nest", "link", "bold", "slant"]
theorem op_congr {s t : Drp} (h : ∀ f ∈ five, s f = t f) (m : Fm) : op s m = op t m := by
  have h1 := h "cells" (by simp [five])
  have h2 := h "nest" (by simp [five])
  have h3 := h "link" (by simp [five])
  have h4 := h "bold" (by simp [five])
  have h5 := h "slant" (by simp [five])
  have e : um s = um t := by
    funext m
    unfold um
    rw [h3, h4, h5]
  have e2 : umC s = umC t := by
    funext xs
    unfold umC
    rw [e]
  have e3 : opL s = opL t := by
    funext l
    unfold opL
    rw [h1, h2, e2]
  unfold op
  rw [e3]
def none5 : Drp := fun _ => false
theorem um_none (m : Mk3) : um none5 m = m := by
  obtain ⟨l, b, c⟩ := m
  simp [um, none5]
theorem umC_none (xs : Fc) : umC none5 xs = xs := by
  unfold umC
  conv => rhs; rw [← List.map_id xs]
  refine List.map_congr_left fun x _ => ?_
  rw [um_none]; rfl
theorem op_none (m : Fm) : op none5 m = m := by
  unfold op
  conv => rhs; rw [← List.map_id m]
  refine List.map_congr_left fun l _ => ?_
  obtain ⟨d, cs⟩ := l
  show (if false = true then 0 else d, if false = true then _ else cs.map (umC none5)) = _
  have e : cs.map (umC none5) = cs := by
    conv => rhs; rw [← List.map_id cs]
    exact List.map_congr_left fun x _ => umC_none x
  rw [e]; rfl
def one (f : Str) : Drp := fun g => decide (g = f)
/-! ### what stands of a content -/
def LK4 : List Str := ["", "w", "w1", "abcdefghijk9", "v"]
theorem LK4_ok : ∀ l ∈ LK4, l.length ≤ 12 ∧ aS l = true := by decide +kernel
def OkC (xs : Fc) : Prop := ∀ x ∈ xs, 32 ≤ x.1 ∧ x.1 ≤ 126 ∧ x.2.1 ∈ LK4
structure OkLn (l : Fln) : Prop where
  d : l.1 ≤ 6
  c1 : 1 ≤ l.2.length
  c12 : l.2.length ≤ 12
  g : (gl l.2).length ≤ 491
  s : l.2.length = 1 ∨ ∀ xs ∈ l.2, xs.length ≤ 40
  c : ∀ xs ∈ l.2, OkC xs
structure OkF (m : Fm) : Prop where
  l1 : 1 ≤ m.length
  l2 : m.length ≤ 200
  l : ∀ x ∈ m, OkLn x
theorem OkC.um {xs : Fc} (h : OkC xs) (s : Drp) : OkC (umC s xs) := by
  intro x hx
  obtain ⟨y, hy, rfl⟩ := List.mem_map.mp hx
  obtain ⟨a, b, c⟩ := h y hy
  refine ⟨a, b, ?_⟩
  show (if s "link" = true then ("" : Str) else y.2.1) ∈ LK4
  split
  · simp [LK4]
  · exact c
theorem OkC.gl {cs : List Fc} (h : ∀ xs ∈ cs, OkC xs) : OkC (gl cs) := by
  cases cs with
  | nil => intro x hx; cases hx
  | cons y r =>
    intro x hx
    rcases List.mem_append.mp hx with z | z
    · exact h y List.mem_cons_self x z
    · obtain ⟨c, hc, z⟩ := List.mem_flatMap.mp z
      rcases List.mem_cons.mp z with rfl | z
      · exact ⟨by decide, by decide, by simp [NO, LK4]⟩
      · exact h c (List.mem_cons_of_mem _ hc) x z
theorem umC_len (s : Drp) (xs : Fc) : (umC s xs).length = xs.length := List.length_map _
theorem gl_um_len (s : Drp) (cs : List Fc) : (gl (cs.map (umC s))).length = (gl cs).length := by rw [← umC_gl, umC_len]
theorem OkLn.op {l : Fln} (h : OkLn l) (s : Drp) : OkLn (opL s l) := by
  have hc : ∀ xs ∈ l.2.map (umC s), OkC xs := fun xs hx => by
    obtain ⟨y, hy, rfl⟩ := List.mem_map.mp hx
    exact (h.c y hy).um s
  have hd : (if s "nest" = true then 0 else l.1) ≤ 6 := by
    split
    · omega
    · exact h.d
  cases e : s "cells" with
  | true =>
    have e2 : opL s l = (if s "nest" = true then 0 else l.1, [Vf.gl (l.2.map (umC s))]) := by unfold opL; rw [e]; rfl
    rw [e2]
    refine ⟨hd, Nat.le_refl _, by show 1 ≤ 12; decide, ?_, .inl rfl, fun xs hx => ?_⟩
    · show (Vf.gl [_]).length ≤ 491
      rw [gl_one, gl_um_len]
      exact h.g
    · rw [List.mem_singleton] at hx
      rw [hx]
      exact OkC.gl hc
  | false =>
    have e2 : opL s l = (if s "nest" = true then 0 else l.1, l.2.map (umC s)) := by unfold opL; rw [e]; rfl
    rw [e2]
    refine ⟨hd, by rw [List.length_map]; exact h.c1, by rw [List.length_map]; exact h.c12, by rw [gl_um_len]; exact h.g, ?_, hc⟩
    rcases h.s with z | z
    · exact .inl (by rw [List.length_map]; exact z)
    · refine .inr fun xs hx => ?_
      obtain ⟨y, hy, rfl⟩ := List.mem_map.mp hx
      rw [umC_len]
      exact z y hy
theorem OkF.op {m : Fm} (h : OkF m) (s : Drp) : OkF (op s m) := ⟨by unfold Vf.op; rw [List.length_map]; exact h.l1, by unfold Vf.op; rw [List.length_map]; exact h.l2, fun x hx => by
  obtain ⟨y, hy, rfl⟩ := List.mem_map.mp hx
  exact (h.l y hy).op s⟩
theorem flatten_rep {α β : Type} (f : α → β) (m : List α) : ∀ k, (List.replicate k m).flatten.map f = (List.replicate k (m.map f)).flatten
  | 0 => rfl
  | k + 1 => by rw [List.replicate_succ, List.flatten_cons, List.map_append, flatten_rep f m k, List.replicate_succ, List.flatten_cons]
theorem flatten_rep_len {α : Type} (m : List α) : ∀ k, (List.replicate k m).flatten.length = k * m.length
  | 0 => by simp
  | k + 1 => by rw [List.replicate_succ, List.flatten_cons, List.length_append, flatten_rep_len m k, Nat.add_mul, Nat.one_mul, Nat.add_comm]
theorem op_rep (s : Drp) (m : Fm) (k : Nat) : op s (List.replicate k m).flatten = (List.replicate k (op s m)).flatten := flatten_rep _ _ _
theorem OkF.rep {m : Fm} (h : OkF m) {k : Nat} (h1 : 1 ≤ k) (h2 : k * m.length ≤ 200) : OkF (List.replicate k m).flatten := ⟨by rw [flatten_rep_len]; exact Nat.mul_le_mul h1 h.l1, by rw [flatten_rep_len]; exact h2, fun x hx => by
  obtain ⟨l, hl, hx⟩ := List.mem_flatten.mp hx
  rw [(List.mem_replicate.mp hl).2] at hx
  exact h.l x hx⟩
end Vf
end
section
set_option Elab.async false
set_option linter.all false
set_option maxRecDepth 100000
set_option maxHeartbeats 4000000
namespace Vf
open PySem PySem.Spec PyProof.Rows L2 GxR GenW RZ
/-! ### how large contents are -/
theorem aS_of {x : Str} (h : ∀ c ∈ cps x, c < 128) : aS x = true := by
  unfold aS
  rw [← Array.all_toList, List.all_eq_true]
  exact fun c hc => decide_eq_true (h c hc)
theorem OkC.as {xs : Fc} (h : OkC xs) {p : Pc} (hp : p ∈ cn xs) : aS p.1 = true := aS_of fun c hc => by
  have := (h _ (cn_in hp hc)).2.1
  have q : c ≤ 126 := this
  omega
theorem OkC.mk {xs : Fc} (h : OkC xs) {p : Pc} (hp : p ∈ cn xs) : p.2.1 ∈ LK4 := by
  obtain ⟨c, hc⟩ := cn_mk hp
  exact (h _ hc).2.2
theorem cl_mk {m : Mk3} (h : m.1 ∈ LK4) : Clz 141 1 (mkD m) := by
  obtain ⟨h1, h2⟩ := LK4_ok _ h
  refine Clz.tup (b := 138) (n := 0) (fun d hd => ?_) (by show 10 * m.1.length + 2 + 2 + (5 + 2 + (5 + 2 + 0)) ≤ 138; omega)
  simp only [List.mem_cons, List.not_mem_nil, or_false] at hd
  rcases hd with rfl | rfl | rfl
  · exact ⟨(Clz.str h1 h2).hf, (Clz.str h1 h2).hp⟩
  · exact ⟨(Clz.bl _).hf, (Clz.bl _).hp⟩
  · exact ⟨(Clz.bl _).hf, (Clz.bl _).hp⟩
theorem cl_pc {p : Pc} (h : p.2.1 ∈ LK4) (ha : aS p.1 = true) : Clz (10 * p.1.length + 147 + 3) 2 (pcD p) := by
  have q := cl_mk h
  have q1 := Clz.str (Nat.le_refl _) ha
  refine Clz.tup (n := 1) (fun d hd => ?_) (by have := q.hz; show 10 * p.1.length + 2 + 2 + (sz (mkD p.2) + 2 + 0) ≤ _; omega)
  simp only [List.mem_cons, List.not_mem_nil, or_false] at hd
  rcases hd with rfl | rfl
  · exact ⟨q1.hf, by have := q1.hp; omega⟩
  · exact ⟨q.hf, q.hp⟩
theorem szA_pcs : ∀ ps : List Pc, (∀ p ∈ ps, cps p.1 ≠ [] ∧ p.2.1 ∈ LK4 ∧ aS p.1 = true) → szA (ps.map pcD) ≤ 162 * (fl ps).length
  | [], _ => Nat.zero_le _
  | p :: ps, h => by
    obtain ⟨h1, h2, h3⟩ := h p List.mem_cons_self
    have ih := szA_pcs ps fun q hq => h q (List.mem_cons_of_mem _ hq)
    have q := (cl_pc h2 h3).hz
    have e : (fl (p :: ps)).length = p.1.length + (fl ps).length := by
      rw [show fl (p :: ps) = fl [p] ++ fl ps from fl_app [p] ps, List.length_append, fl_one, List.length_map, cps_len]
    have l1 : 1 ≤ p.1.length := by
      rw [← cps_len]
      exact List.length_pos_iff.mpr h1
    show sz (pcD p) + 2 + szA (ps.map pcD) ≤ _
    rw [e]
    omega
theorem cl_ce {xs : Fc} (h : OkC xs) : Clz (162 * xs.length + 3) 3 (ceD xs) := by
  refine Clz.tup (n := 2) (fun d hd => ?_) ?_
  · obtain ⟨p, hp, rfl⟩ := List.mem_map.mp hd
    have q := cl_pc (h.mk hp) (h.as hp)
    exact ⟨q.hf, q.hp⟩
  · have q := szA_pcs (cn xs) fun p hp => ⟨cn_ne xs p hp, h.mk hp, h.as hp⟩
    rw [fl_cn] at q
    exact q
theorem szA_rest : ∀ r : List Fc, (∀ xs ∈ r, OkC xs) → szA (r.map ceD) ≤ 162 * (r.flatMap fun c => (32, NO) :: c).length
  | [], _ => Nat.zero_le _
  | c :: r, h => by
    have ih := szA_rest r fun q hq => h q (List.mem_cons_of_mem _ hq)
    have q := (cl_ce (h c List.mem_cons_self)).hz
    rw [List.flatMap_cons, List.length_append, List.length_cons]
    show sz (ceD c) + 2 + szA (r.map ceD) ≤ _
    omega
theorem szA_gl {cs : List Fc} (h : ∀ xs ∈ cs, OkC xs) : szA (cs.map ceD) ≤ 162 * (gl cs).length + 5 := by
  cases cs with
  | nil => exact Nat.zero_le _
  | cons c r =>
    have ih := szA_rest r fun q hq => h q (List.mem_cons_of_mem _ hq)
    have q := (cl_ce (h c List.mem_cons_self)).hz
    show sz (ceD c) + 2 + szA (r.map ceD) ≤ 162 * (c ++ _).length + 5
    rw [List.length_append]
    omega
theorem int_all {i : Nat} (h : i ≤ 6) : ∀ m : Md, ((i : Nat) : Int) ∈ m.I := by
  have q : ∀ j : Fin 7, ((j.val : Nat) : Int) ∈ okI ∧ ((j.val : Nat) : Int) ∈ ([0, 1, 2, 3, 4, 5, 6] : List Int) := by decide +kernel
  intro m
  obtain ⟨a, b⟩ := q ⟨i, by omega⟩
  cases m
  · exact a
  · exact a
  · exact b
theorem cl_cells {cs : List Fc} (h : ∀ xs ∈ cs, OkC xs) : Clz (162 * (gl cs).length + 8) 4 (.tuple (cs.map ceD)) := by
  refine Clz.tup (n := 3) (fun d hd => ?_) (szA_gl h)
  obtain ⟨c, hc, rfl⟩ := List.mem_map.mp hd
  have q := cl_ce (h c hc)
  exact ⟨q.hf, q.hp⟩
theorem cl_li {l : Fln} (h : OkLn l) : Clz 79597 5 (liD l) := by
  have q := cl_cells h.c
  have q1 := Clz.int (int_all h.d)
  have hg := h.g
  refine Clz.tup (b := 79594) (n := 4) (fun d hd => ?_) (by have := q.hz; show 40 + 2 + (sz (.tuple (l.2.map ceD)) + 2 + 0) ≤ _; omega)
  simp only [List.mem_cons, List.not_mem_nil, or_false] at hd
  rcases hd with rfl | rfl
  · exact ⟨q1.hf, by have := q1.hp; omega⟩
  · exact ⟨q.hf, q.hp⟩
theorem cl_co {m : Fm} (h : OkF m) : Clz 15919803 6 (coD m) := by
  refine Clz.mono (Clz.tups (l := 200) (b := 79597) (n := 5) (fun d hd => ?_) (by rw [List.length_map]; exact h.l2)) (by decide) (Nat.le_refl _)
  obtain ⟨l, hl, rfl⟩ := List.mem_map.mp hd
  exact cl_li (h.l l hl)
theorem OkF.ask {m : Fm} (h : OkF m) : Ask (coD m) := (cl_co h).ask (by decide) (by decide)
theorem OkF.tx {m : Fm} (h : OkF m) : Vf.tx (coD m) = true := h.ask.tx
mutual
theorem tx_lay : ∀ d : PyData, (∀ m, fi m d = true) → PyData.canLay0 d = true
  | .none, _ => rfl
  | .bool _, _ => rfl
  | .int _, _ => rfl
  | .str x, h => Md.lay (m := .l) (h .l)
  | .list ds, h => by
    have h' : (false && fiA .d ds) = true := h .d
    cases h'
  | .tuple ds, h => by
    show PyData.canLayAll0 ds = true
    exact txA_lay ds h
  | .dict kvs, h => by
    have h' : (false && kvs.isEmpty) = true := h .l
    cases h'
theorem txA_lay : ∀ ds : List PyData, (∀ m, fiA m ds = true) → PyData.canLayAll0 ds = true
  | [], _ => rfl
  | d :: ds, h => by
    have h1 : ∀ m, fi m d = true ∧ fiA m ds = true := fun m => Bool.and_eq_true_iff.mp (show (fi m d && fiA m ds) = true from h m)
    show (PyData.canLay0 d && PyData.canLayAll0 ds) = true
    rw [tx_lay d fun m => (h1 m).1, txA_lay ds fun m => (h1 m).2]; rfl
end
theorem Clz.lay {b n : Nat} {d : PyData} (h : Clz b n d) : PyData.canLay0 d = true := tx_lay d h.hf
theorem Clz.shaped {b n : Nat} {d : PyData} (h : Clz b n d) (h2 : n ≤ 64) : SeqAt.shaped d = true := by
  have := h.hp
  unfold SeqAt.shaped
  rw [h.lay, decide_eq_true (by omega)]; rfl
theorem Clz.dp {b n : Nat} {d : PyData} (h : Clz b n d) {K : PySem.W.Frag} {H : Hp} {v : V} (hd : Dd K H v d) : Dp K H v d := dp_dd d v hd h.lay
mutual
theorem eqv_refl : ∀ d : PyData, PyData.canLay0 d = true → PyData.eqv d d = true
  | .none, _ => rfl
  | .bool b, _ => by cases b <;> rfl
  | .int i, _ => by show (i == i) = true; exact beq_self_eq_true i
  | .str x, _ => by show (x == x) = true; exact beq_self_eq_true x
  | .list ds, h => eqvA_refl ds h
  | .tuple ds, h => eqvA_refl ds h
  | .dict kvs, h => by
    simp only [PyData.canLay0] at h
    cases h
theorem eqvA_refl : ∀ ds : List PyData, PyData.canLayAll0 ds = true → PyData.eqvAll ds ds = true
  | [], _ => rfl
  | d :: ds, h => by
    have h' : (PyData.canLay0 d && PyData.canLayAll0 ds) = true := h
    rw [Bool.and_eq_true] at h'
    show (PyData.eqv d d && PyData.eqvAll ds ds) = true
    rw [eqv_refl d h'.1, eqvA_refl ds h'.2]; rfl
end
theorem eqvA_app : ∀ {a c b d : List PyData}, a.length = c.length → PyData.eqvAll (a ++ b) (c ++ d) = (PyData.eqvAll a c && PyData.eqvAll b d)
  | [], [], b, d, _ => by show _ = (true && _); rw [Bool.true_and]; rfl
  | x :: a, y :: c, b, d, h => by
    show (PyData.eqv x y && PyData.eqvAll (a ++ b) (c ++ d)) = ((PyData.eqv x y && PyData.eqvAll a c) && _)
    rw [eqvA_app (Nat.succ.inj h), Bool.and_assoc]
theorem eqvA_rep {a c : List PyData} (h : a.length = c.length) : ∀ k, 1 ≤ k → PyData.eqvAll (List.replicate k a).flatten (List.replicate k c).flatten = PyData.eqvAll a c
  | 1, _ => by simp
  | k + 2, _ => by
    rw [List.replicate_succ, List.flatten_cons, List.replicate_succ (n := k + 1) (a := c), List.flatten_cons, eqvA_app h, eqvA_rep h (k + 1) (by omega), Bool.and_self]
theorem eqv_rep {a c : Fm} (h : a.length = c.length) {k : Nat} (hk : 1 ≤ k) : PyData.eqv (coD (List.replicate k a).flatten) (coD (List.replicate k c).flatten) = PyData.eqv (coD a) (coD c) := by
  show PyData.eqvAll (List.map liD _) (List.map liD _) = PyData.eqvAll (List.map liD a) (List.map liD c)
  rw [flatten_rep, flatten_rep]
  exact eqvA_rep (by rw [List.length_map, List.length_map, h]) k hk
theorem mk_eqv {a b : Mk3} (h : PyData.eqv (mkD a) (mkD b) = true) : a = b := by
  obtain ⟨a1, a2, a3⟩ := a
  obtain ⟨b1, b2, b3⟩ := b
  have h' : ((a1 == b1) && ((a2 == b2) && ((a3 == b3) && true))) = true := h
  simp only [Bool.and_eq_true, beq_iff_eq, and_true] at h'
  obtain ⟨h1, h2, h3⟩ := h'
  rw [h1, h2, h3]
theorem gl_ge : ∀ {cs : List Fc} {xs : Fc}, xs ∈ cs → xs.length ≤ (gl cs).length
  | y :: r, xs, h => by
    show _ ≤ (y ++ _).length
    rw [List.length_append]
    rcases List.mem_cons.mp h with rfl | h
    · omega
    · have q : xs.length ≤ (r.flatMap fun c => (32, NO) :: c).length := by
        obtain ⟨a, b, rfl⟩ := List.append_of_mem h
        rw [List.flatMap_append, List.flatMap_cons, List.length_append, List.length_append, List.length_cons]
        omega
      omega
end Vf
end
section
set_option Elab.async false
set_option linter.all false
set_option maxRecDepth 100000
set_option maxHeartbeats 4000000
namespace Vf
open PySem PySem.Spec PyProof.Rows L2 GxR GenW RZ
theorem ixN_last {α : Type} {xs : List α} {y : α} : ixN (xs ++ [y]).length (-1) = some xs.length := by
  unfold ixN
  rw [if_neg (by omega), if_pos (by rw [List.length_append]; show -(((xs.length + 1 : Nat)) : Int) ≤ -1; omega), List.length_append]
  show some ((-1 : Int) + ((xs.length + 1 : Nat) : Int)).toNat = some xs.length
  congr 1
  omega
theorem atI_last {α : Type} {xs : List α} {y : α} : atI (xs ++ [y]) (-1) = some y := by
  unfold atI
  rw [ixN_last]
  simp
theorem set_last {α : Type} {xs : List α} {y z : α} : (xs ++ [y]).set xs.length z = xs ++ [z] := by simp
theorem ddA_last {K : PySem.W.Frag} {H : Hp} : ∀ {xs : List V} {y : V} {ds : List PyData}, DdAll K H (xs ++ [y]) ds → ∃ es e, ds = es ++ [e] ∧ DdAll K H xs es ∧ Dd K H y e
  | [], y, ds, h => by
    cases h with
    | cons a b =>
      cases b
      exact ⟨[], _, rfl, .nil, a⟩
  | x :: xs, y, ds, h => by
    cases h with
    | cons a b =>
      obtain ⟨es, e, rfl, h1, h2⟩ := ddA_last b
      exact ⟨_ :: es, e, rfl, .cons a h1, h2⟩
/-! ### data without lists stand whatever is written into lists -/
def GrN (H H' : Hp) : Prop := ∀ b o, (∀ xs, o ≠ .lst xs) → H b = some o → (H' b = some o ∨ ∃ ps more, o = .tbl ps ∧ H' b = some (.tbl (ps ++ more)) ∧ (TriplesOk ps.toList → TriplesOk (ps ++ more).toList))
theorem GrN.refl (H : Hp) : GrN H H := fun _ _ _ h => .inl h
theorem Gr.n {H H' : Hp} (g : Gr H H') : GrN H H' := fun b o _ h => g b o h
theorem GrU.n {u c : Addr} {H H' : Hp} (g : GrU u H H') (hu : Urn c H u) : GrN H H' := fun b o hn h => by
  refine g b o ?_ h
  rintro rfl
  obtain ⟨ns, p, a, r, h1, _⟩ := hu
  rw [h1] at h
  cases h
  exact hn _ rfl
theorem GrN.trans {H H1 H2 : Hp} (a : GrN H H1) (b : GrN H1 H2) : GrN H H2 := by
  intro c o hn h
  rcases a c o hn h with h1 | ⟨ps, m1, rfl, h1, t1⟩
  · exact b c o hn h1
  · rcases b c _ (fun xs z => by cases z) h1 with h2 | ⟨qs, m2, e, h2, t2⟩
    · exact .inr ⟨ps, m1, rfl, h2, t1⟩
    · cases e
      exact .inr ⟨ps, m1 ++ m2, rfl, by rw [← Array.append_assoc]; exact h2, fun z => by rw [← Array.append_assoc]; exact t2 (t1 z)⟩
theorem GrN.upd {H : Hp} {D : Addr} {xs ys : List V} (h : H D = some (.lst xs)) : GrN H (upd H D (.lst ys)) := fun b o hn e => by
  have hb : b ≠ D := fun z => by
    rw [z, h] at e
    cases e
    exact hn _ rfl
  rw [upd_ne hb]
  exact .inl e
theorem GrN.wo {H : Hp} {D : Addr} {xs : List V} (h : H D = some (.lst xs)) : GrN H (Wo [D] H) := fun b o hn e => by
  refine .inl (wo_some ?_ e)
  simp only [List.mem_singleton]
  intro z
  rw [z, h] at e
  cases e
  exact hn _ rfl
theorem GrN.keep {H H' : Hp} (g : GrN H H') {b : Addr} {o : HO} (h : H b = some o) (n1 : ∀ xs, o ≠ .lst xs) (n2 : ∀ ps, o ≠ .tbl ps) : H' b = some o := by
  rcases g b o n1 h with h1 | ⟨ps, _, rfl, _⟩
  · exact h1
  · exact absurd rfl (n2 ps)
theorem GrN.seqT {K : PySem.W.Frag} {H H' : Hp} (g : GrN H H') {a : Addr} {xs : List V} (h : SqT K H a xs) : SqT K H' a xs := by
  rcases h with (h | ⟨o, h⟩) | h
  · exact .inl (.inl (g.keep h (fun _ z => by cases z) (fun _ z => by cases z)))
  · exact .inl (.inr ⟨o, g.keep h (fun _ z => by cases z) (fun _ z => by cases z)⟩)
  · exact .inr h
mutual
theorem GrN.dd {K : PySem.W.Frag} {H H' : Hp} (g : GrN H H') : ∀ (d : PyData) (v : V), noLst d = true → Dd K H v d → Dd K H' v d
  | .none, _, _, h => by cases h; exact .non
  | .bool _, _, _, h => by cases h; exact .bl _
  | .int _, _, _, h => by cases h; exact .int _
  | .str _, _, _, h => by cases h; exact .str _
  | .list ds, _, n, h => by cases n
  | .tuple ds, _, n, h => by
    cases h with
    | tup a b => exact .tup (g.seqT a) (GrN.ddA g ds _ n b)
  | .dict _, _, _, h => by
    cases h with
    | dct a => exact .dct (g.keep a (fun _ z => by cases z) (fun _ z => by cases z))
theorem GrN.ddA {K : PySem.W.Frag} {H H' : Hp} (g : GrN H H') : ∀ (ds : List PyData) (vs : List V), noLstA ds = true → DdAll K H vs ds → DdAll K H' vs ds
  | [], _, _, h => by cases h; exact .nil
  | d :: ds, _, n, h => by
    have n' : (noLst d && noLstA ds) = true := n
    rw [Bool.and_eq_true] at n'
    cases h with
    | cons a b => exact .cons (GrN.dd g d _ n'.1 a) (GrN.ddA g ds _ n'.2 b)
end
theorem mt_extK {X : Cx} {K : PySem.W.Frag} (hK : X.K = K) : MtR X "list.extend" (rExtT K) := by
  subst hK
  exact mt_extT
theorem Clz.nl {b n : Nat} {d : PyData} (h : Clz b n d) : noLst d = true := fi_nl d (h.hf .d)
theorem noLstA_cl {ds : List PyData} (h : ∀ d ∈ ds, noLst d = true) : noLstA ds = true := by
  induction ds with
  | nil => rfl
  | cons d ds ih =>
    show (noLst d && noLstA ds) = true
    rw [h d List.mem_cons_self, ih fun e he => h e (List.mem_cons_of_mem _ he)]; rfl
theorem nl_pc (p : Pc) : noLst (pcD p) = true := rfl
theorem nl_pcs (ps : List Pc) : noLstA (ps.map pcD) = true := noLstA_cl fun d hd => by
  obtain ⟨p, _, rfl⟩ := List.mem_map.mp hd
  rfl
theorem nl_ce (xs : Fc) : noLst (ceD xs) = true := nl_pcs _
theorem nl_ces (cs : List Fc) : noLstA (cs.map ceD) = true := noLstA_cl fun d hd => by
  obtain ⟨p, _, rfl⟩ := List.mem_map.mp hd
  exact nl_ce p
theorem nl_li (l : Fln) : noLst (liD l) = true := by
  show (true && (noLstA (l.2.map ceD) && true)) = true
  rw [nl_ces]; rfl
theorem nl_lis (m : Fm) : noLstA (m.map liD) = true := noLstA_cl fun d hd => by
  obtain ⟨p, _, rfl⟩ := List.mem_map.mp hd
  exact nl_li p
theorem nl_co (m : Fm) : noLst (coD m) = true := nl_lis m
/-- a piece at hand -/
theorem dd_pc {K : PySem.W.Frag} {H : Hp} {v : V} {p : Pc} (h : Dd K H v (pcD p)) : ∃ b w, v = .ref b ∧ SqT K H b [.str p.1, w] ∧ Dd K H w (mkD p.2) := by
  cases h with
  | tup h1 h2 =>
    cases h2 with
    | cons a1 h2 =>
      cases h2 with
      | cons a2 h2 =>
        cases h2
        cases a1
        exact ⟨_, _, rfl, h1, a2⟩
theorem dd_mk {K : PySem.W.Frag} {H : Hp} {v : V} {m : Mk3} (h : Dd K H v (mkD m)) : ∃ b, v = .ref b ∧ SqT K H b [.str m.1, .bl m.2.1, .bl m.2.2] := by
  cases h with
  | tup h1 h2 =>
    cases h2 with
    | cons a1 h2 =>
      cases h2 with
      | cons a2 h2 =>
        cases h2 with
        | cons a3 h2 =>
          cases h2
          cases a1; cases a2; cases a3
          exact ⟨_, rfl, h1⟩
theorem dd_li {K : PySem.W.Frag} {H : Hp} {v : V} {l : Fln} (h : Dd K H v (liD l)) : ∃ b a xs, v = .ref b ∧ SqT K H b [.int (l.1 : Nat), .ref a] ∧ SqT K H a xs ∧ DdAll K H xs (l.2.map ceD) := by
  cases h with
  | tup h1 h2 =>
    cases h2 with
    | cons a1 h2 =>
      cases h2 with
      | cons a2 h2 =>
        cases h2
        cases a1
        cases a2 with
        | tup b1 b2 => exact ⟨_, _, _, rfl, h1, b1, b2⟩
theorem dd_tup {K : PySem.W.Frag} {H : Hp} {v : V} {ds : List PyData} (h : Dd K H v (.tuple ds)) : ∃ b xs, v = .ref b ∧ SqT K H b xs ∧ DdAll K H xs ds := by
  cases h with
  | tup h1 h2 => exact ⟨_, _, rfl, h1, h2⟩
theorem ddA_map {α : Type} {f : α → PyData} {K : PySem.W.Frag} {H : Hp} {xs : List V} {ps : List α} (h : DdAll K H xs (ps.map f)) {i : Nat} {x : V} (hx : xs[i]? = some x) : ∃ p, ps[i]? = some p ∧ Dd K H x (f p) := by
  obtain ⟨d, e, q⟩ := ddA_at h hx
  rw [List.getElem?_map] at e
  cases hp : ps[i]? with
  | none => rw [hp] at e; cases e
  | some p =>
    rw [hp] at e
    cases e
    exact ⟨p, rfl, q⟩
theorem take_snoc {α : Type} {l : List α} {i : Nat} {x : α} (h : l[i]? = some x) : l.take (i + 1) = l.take i ++ [x] := by rw [List.take_succ, h]; rfl
abbrev s_drop : Stmt := top 12
abbrev n_drop : List Str := ["content", "feature", "depth", "cells", "_"]
abbrev p_drop : List Str := ["content", "feature"]
theorem sc_drop : FnScope n_drop p_drop (defScope s_drop) := ⟨rfl, rfl, rfl, by decide +kernel, rfl, by decide +kernel, by decide +kernel⟩

abbrev s_keep : Stmt := top 13
abbrev n_keep : List Str := ["content", "features", "kept", "feature"]
abbrev p_keep : List Str := ["content", "features"]
theorem sc_keep : FnScope n_keep p_keep (defScope s_keep) := ⟨rfl, rfl, rfl, by decide +kernel, rfl, by decide +kernel, by decide +kernel⟩

abbrev s_one_cell : Stmt := top 14
abbrev n_one_cell : List Str := ["cells", "pieces", "cell"]
abbrev p_one_cell : List Str := ["cells"]
theorem sc_one_cell : FnScope n_one_cell p_one_cell (defScope s_one_cell) := ⟨rfl, rfl, rfl, by decide +kernel, rfl, by decide +kernel, by decide +kernel⟩

abbrev s_unmarked_cells : Stmt := top 15
abbrev n_unmarked_cells : List Str := ["cells", "feature", "cell"]
abbrev p_unmarked_cells : List Str := ["cells", "feature"]
theorem sc_unmarked_cells : FnScope n_unmarked_cells p_unmarked_cells (defScope s_unmarked_cells) := ⟨rfl, rfl, rfl, by decide +kernel, rfl, by decide +kernel, by decide +kernel⟩

abbrev s_unmarked_cell : Stmt := top 16
abbrev n_unmarked_cell : List Str := ["cell", "feature", "text", "marks"]
abbrev p_unmarked_cell : List Str := ["cell", "feature"]
theorem sc_unmarked_cell : FnScope n_unmarked_cell p_unmarked_cell (defScope s_unmarked_cell) := ⟨rfl, rfl, rfl, by decide +kernel, rfl, by decide +kernel, by decide +kernel⟩

abbrev s_unmarked : Stmt := top 17
abbrev n_unmarked : List Str := ["marks", "feature", "link", "bold", "slant"]
abbrev p_unmarked : List Str := ["marks", "feature"]
theorem sc_unmarked : FnScope n_unmarked p_unmarked (defScope s_unmarked) := ⟨rfl, rfl, rfl, by decide +kernel, rfl, by decide +kernel, by decide +kernel⟩

abbrev s_merged : Stmt := top 18
abbrev n_merged : List Str := ["pieces", "cell", "text", "marks"]
abbrev p_merged : List Str := ["pieces"]
theorem sc_merged : FnScope n_merged p_merged (defScope s_merged) := ⟨rfl, rfl, rfl, by decide +kernel, rfl, by decide +kernel, by decide +kernel⟩

/-- more of the module's names -/
structure TD (K : PySem.W.Frag) (mg : Str → Option Value) : Prop extends TX mg where
  b_str : mg "str" = none
  b_tuple : mg "tuple" = none
  b_list : mg "list" = none
  b_zip : mg "zip" = none
  c_MOST_WORD_CHARACTERS : ∃ u, mg "MOST_WORD_CHARACTERS" = some u ∧ RelV (.int 12) u
  c_MOST_LINES : ∃ u, mg "MOST_LINES" = some u ∧ RelV (.int 200) u
  c_MOST_DEPTH : ∃ u, mg "MOST_DEPTH" = some u ∧ RelV (.int 6) u
  c_MOST_CELLS : ∃ u, mg "MOST_CELLS" = some u ∧ RelV (.int 12) u
  c_MOST_CELL_CHARACTERS : ∃ u, mg "MOST_CELL_CHARACTERS" = some u ∧ RelV (.int 40) u
  c_MOST_ONLY_CELL_CHARACTERS : ∃ u, mg "MOST_ONLY_CELL_CHARACTERS" = some u ∧ RelV (.int 491) u
  c_WORD_CHARACTERS : ∃ u, mg "WORD_CHARACTERS" = some u ∧ RelV (.str "abcdefghijklmnopqrstuvwxyz0123456789") u
  c_CELL : ∃ u, mg "CELL" = some u ∧ RelV (.int 1) u
  c_LEVEL : ∃ u, mg "LEVEL" = some u ∧ RelV (.int 2) u
  c_BOLD : ∃ u, mg "BOLD" = some u ∧ RelV (.int 3) u
  c_SLANT : ∃ u, mg "SLANT" = some u ∧ RelV (.int 4) u
  c_OPENING : ∃ u, mg "OPENING" = some u ∧ RelV (.int 5) u
  c_MIDDLE : ∃ u, mg "MIDDLE" = some u ∧ RelV (.int 6) u
  c_END : ∃ u, mg "END" = some u ∧ RelV (.int 7) u
  c_ESCAPE : ∃ u, mg "ESCAPE" = some u ∧ RelV (.int 8) u
  c_NAME : ∃ u, mg "NAME" = some u ∧ RelV (.int 0) u
  c_SOURCE : ∃ u, mg "SOURCE" = some u ∧ RelV (.int 1) u
  c_TARGET : ∃ u, mg "TARGET" = some u ∧ RelV (.int 2) u
  c_MOST_COST : ∃ u, mg "MOST_COST" = some u ∧ RelV (.int 1000) u
  b_all : mg "all" = none
  b_isinstance : mg "isinstance" = none
  b_bool : mg "bool" = none
  c_PLAIN : ∃ a, mg "PLAIN" = some (.ref a) ∧ ∀ H, SqT K H a (strV ["plain", "", "", "", "", "", "", "", ""])
  c_FEATURES : ∃ a, mg "FEATURES" = some (.ref a) ∧ ∀ H, SqT K H a (strV five)
  c_NO_MARKS : ∃ a, mg "NO_MARKS" = some (.ref a) ∧ ∀ H, SqT K H a [.str "", .bl false, .bl false]
  cl : Cls K (He.ga K "CellsReader")
  nA : ∀ f ∈ (["form", "signs", "number", "column", "cells", "pieces", "link_word", "bold", "slant", "word", "is_escaping"] : List Str), NoAttr K (He.ga K "CellsReader") f
def OkP (p : Pc) : Prop := cps p.1 ≠ [] ∧ p.2.1 ∈ LK4
theorem put_len {c : List Pc} {p : Pc} : (putp c p).length ≤ c.length + 1 := by
  rcases snoc_cases c with rfl | ⟨d, q, rfl⟩
  · exact Nat.le_refl _
  · rw [putp_snoc]
    split
    · simp
    · simp
theorem put_mk {c : List Pc} {p : Pc} (h : ∀ q ∈ c, q.2.1 ∈ LK4) (hp : p.2.1 ∈ LK4) : ∀ q ∈ putp c p, q.2.1 ∈ LK4 := by
  rcases snoc_cases c with rfl | ⟨d, r, rfl⟩
  · rw [putp_nil]
    intro q hq
    rw [List.mem_singleton] at hq
    rw [hq]; exact hp
  · rw [putp_snoc]
    intro q hq
    split at hq
    · rcases List.mem_append.mp hq with z | z
      · exact h q (List.mem_append_left _ z)
      · rw [List.mem_singleton] at z
        rw [z]; exact hp
    · rcases List.mem_append.mp hq with z | z
      · exact h q z
      · rw [List.mem_singleton] at z
        rw [z]; exact hp
def spMerged (K : PySem.W.Frag) : Sp := fun vs H Q _ => ∃ (a : Addr) (xs : List V) (ps : List Pc), vs = [.ref a] ∧ H a = some (.lst xs) ∧ DdAll K H xs (ps.map pcD) ∧ (∀ p ∈ ps, OkP p) ∧ (fl ps).length ≤ 1000 ∧ ∀ p H', Gr H H' → Dd K H' (.ref p) (ceD (fl ps)) → Q (.ref p) H'
theorem pcs_len {ps : List Pc} (h : ∀ p ∈ ps, OkP p) : ps.length ≤ (fl ps).length := by
  induction ps with
  | nil => exact Nat.zero_le _
  | cons p ps ih =>
    have := ih fun q hq => h q (List.mem_cons_of_mem _ hq)
    have l1 := List.length_pos_iff.mpr (h p List.mem_cons_self).1
    rw [show fl (p :: ps) = fl [p] ++ fl ps from fl_app [p] ps, List.length_append, fl_one, List.length_map, List.length_cons]
    omega
theorem pc_len {ps : List Pc} {p : Pc} (h : p ∈ ps) : p.1.length ≤ (fl ps).length := by
  obtain ⟨a, b, rfl⟩ := List.append_of_mem h
  rw [fl_app, show fl (p :: b) = fl [p] ++ fl b from fl_app [p] b, fl_one, List.length_append, List.length_append, List.length_map, cps_len]
  omega
theorem fl_take (ps : List Pc) (i : Nat) : (fl (ps.take i)).length ≤ (fl ps).length := by
  conv => rhs; rw [← List.take_append_drop i ps]
  rw [fl_app, List.length_append]
  omega
section
variable {P : Program} {w : World} {K : PySem.W.Frag} {mg : Str → Option Value} {base : Heap}
theorem ok_merged {fd : FuncData} (F : FnP K "merged" s_merged fd) (T : TD K mg) : FnOk P w K mg base CX0 1 (He.fAd K ("merged", none)) fd p_merged (spMerged K) := by
  refine okP F sc_merged (fun vs H Q E h => by obtain ⟨a, xs, ps, rfl, _⟩ := h; rfl) (fun A outer s H vs Q E hr h => ?_)
  obtain ⟨a, xs, ps, rfl, hL, hA, hp, hz, k⟩ := h
  have hl : xs.length = ps.length := by rw [ddA_len hA, List.length_map]
  have hpl := pcs_len hp
  refine ⟨_, (pss_cons (ps_set (i := 1) sc_merged.nd rfl (by first | exact Or.inl rfl | exact Or.inr rfl) (pe_lst pa_nil))
      (pss_cons (ps_for PassesOwn.never rfl (k_list (K := K) rfl (pv 0)) (kg_tup 2 (K := K) rfl rfl (pgs_cons (pg_name (i := 2) sc_merged.nd rfl (by first | exact Or.inl rfl | exact Or.inr rfl)) (pgs_cons (pg_name (i := 3) sc_merged.nd rfl (by first | exact Or.inl rfl | exact Or.inr rfl)) pgs_nil)))
      (pss_one (ps_if (PW.pt (pw_and (k_truth (K := K) rfl (pv 1) (by intro _; rfl)) (pw_and1 (pt_cmpR (u_eq (K := K) rfl hr.units) (pe_ix (u_ix (K := K) rfl) (pe_ix (u_ix (K := K) rfl) (pv 1) (pe_un un_neg pe_int) (fun _ _ => rfl)) pe_int (fun _ _ => rfl)) (pv 3) (nomark _)))))
      (pss_one (ps_asg (pe_tup (pa_cons (pe_op (u_add (K := K) rfl) (pe_ix (u_ix (K := K) rfl) (pe_ix (u_ix (K := K) rfl) (pv 1) (pe_un un_neg pe_int) (fun _ _ => rfl)) pe_int (fun _ _ => rfl)) (pv 2)) (pa_cons (pv 3) pa_nil))) (pg_sub (pv 1) (pe_un un_neg pe_int) set_list)))
      (pss_one (ps_expr (k_bm (K := K) rfl PySem.F.plainAttrs_list PySem.F.slot_list_append PySem.F.type_list_append mt_append (pv 1) (pa_cons (pe_tup (pa_cons (pv 2) (pa_cons (pv 3) pa_nil))) pa_nil)))))))
      (pss_one (ps_ret (k_tuple (K := K) rfl rfl T.b_tuple (pv 1)))))), ?_⟩
  refine ⟨Nat.zero_le _, fun D hD => ?_⟩
  have aD : a ≠ D := ne_of_none hL hD
  refine ⟨_, rfl, a, rfl, ⟨_, SqL.of (by rw [upd_ne aD]; exact hL)⟩, ?_⟩
  refine for_list (K := K) (a := a) (xs := xs) (fun i σ H' => ∃ (o2 o3 : Option V) (ys : List V), σ = [some (.ref a), some (.ref D), o2, o3] ∧ Gr H H' ∧ H' D = some (.lst ys) ∧ DdAll K H' ys (((ps.take i).foldl putp []).map pcD))
    ⟨none, none, [], rfl, Gr.new hD, upd_same, .nil⟩ ?_ ?_ ?_
  · rintro i σ H' _ ⟨o2, o3, ys, rfl, g, _⟩
    exact SqL.of (g.lst hL)
  · rintro i x σ H' hx ⟨o2, o3, ys, rfl, g, hLd, hE⟩
    obtain ⟨p, hpi, dp⟩ := ddA_map hA hx
    have hpm := List.mem_of_getElem? hpi
    have il := (List.getElem?_eq_some_iff.mp hpi).1
    obtain ⟨b, w1, rfl, q1, dm⟩ := dd_pc (g.dd _ _ dp)
    have e1 : (ps.take (i + 1)).foldl putp [] = putp ((ps.take i).foldl putp []) p := by rw [take_snoc hpi, List.foldl_append]; rfl
    have ec : (ps.take i).foldl putp [] = cn (fl (ps.take i)) := jn_cn fun q hq => (hp q (List.mem_of_mem_take hq)).1
    have lp := pc_len hpm
    have ft := fl_take ps i
    generalize hC : (ps.take i).foldl putp [] = C at hE e1 ec
    have mkC : ∀ q ∈ C, q.2.1 ∈ LK4 := by
      intro q hq
      rw [ec] at hq
      obtain ⟨c, hc⟩ := cn_mk hq
      obtain ⟨r, hr, z⟩ := List.mem_flatMap.mp hc
      obtain ⟨c2, _, z⟩ := List.mem_map.mp z
      have z2 : r.2 = q.2 := congrArg (fun y : Ch => y.2) z
      rw [← z2]
      exact (hp r (List.mem_of_mem_take hr)).2
    have lC : ∀ q ∈ C, q.1.length ≤ 1000 := by
      intro q hq
      have := pc_len hq
      rw [ec, fl_cn] at this
      omega
    have lC2 : C.length ≤ 1000 := by
      rw [ec]
      have := pcs_len (ps := cn (fl (ps.take i))) fun q hq => ⟨cn_ne _ q hq, mkC q (by rw [ec]; exact hq)⟩
      rw [fl_cn] at this
      omega
    have sl : ∀ {n : Nat}, n ≤ 3000 → n ≤ sizeLine := fun h => by rw [sizeLine_eq]; omega
    have yl : ys.length = C.length := by rw [ddA_len hE, List.length_map]
    have hDH : ∀ {H2 : Hp} {q : Addr}, Gr H' H2 → H2 q = none → q ≠ D := fun g2 hq z => by
      rw [z, g2.lst hLd] at hq
      cases hq
    have w1dp : Dp K H' w1 (mkD p.2) := (cl_mk (hp p hpm).2).dp dm
    have w1sh : SeqAt.shaped (mkD p.2) = true := (cl_mk (hp p hpm).2).shaped (by decide)
    refine ⟨b, _, rfl, q1, rfl, _, _, rfl, _, _, rfl, rfl, ?_⟩
    refine ⟨_, rfl, _, .inl ⟨ys, SqL.of hLd, rfl⟩, ?_⟩
    rcases snoc_cases C with rfl | ⟨C0, q0, rfl⟩
    · cases hE
      refine iteF (iteF ?_)
      refine ⟨_, rfl, .inl ⟨rfl, _, SqL.of hLd⟩, _, rfl, _, rfl, sl (by show 2 ≤ 3000; decide), fun p9 hp9 => ?_⟩
      have n9 := hDH (Gr.refl _) hp9
      refine newH hp9 fun H9 g9 s9 => ?_
      refine ⟨D, _, .ref p9, rfl, rfl, g9.lst hLd, sl (by show 0 < 3000; decide), ?_⟩
      have g10 := GrN.upd (ys := ([] : List V) ++ [.ref p9]) (g9.lst hLd)
      refine ⟨_, _, [] ++ [.ref p9], rfl, (g.trans g9).upd' hD, upd_same, ?_⟩
      rw [e1, putp_nil]
      exact .cons (g10.dd _ _ (nl_pc p) (.tup (SqT.of s9) (.cons (.str _) (.cons (g9.dd _ _ dm) .nil)))) .nil
    obtain ⟨ys0, y1, rfl⟩ : ∃ ys0 y1, ys = ys0 ++ [y1] := by
      rcases snoc_cases ys with rfl | h
      · rw [List.length_append] at yl
        simp at yl
      · exact h
    rw [List.map_append] at hE
    obtain ⟨es, e, he, hE0, dd1⟩ := ddA_last hE
    obtain ⟨rfl, he2⟩ := List.append_inj' he rfl
    cases he2
    obtain ⟨b1, w2, rfl, r1, dm1⟩ := dd_pc dd1
    have mq := mkC q0 (by simp)
    have lq := lC q0 (by simp)
    have e0 : (!(ys0 ++ [V.ref b1]).isEmpty) = true := by simp
    rw [e0]
    refine iteT ?_
    refine ⟨_, rfl, _, rfl, x_l (SqL.of hLd) atI_last (x_t r1 rfl ⟨_, rfl, e_data ((cl_mk mq).dp dm1) w1dp ((cl_mk mq).shaped (by decide)) w1sh ⟨_, rfl, ite2 (fun h3 => ?_) (fun h3 => ?_)⟩⟩)⟩
    · have e2 : q0.2 = p.2 := mk_eqv h3
      refine ⟨_, rfl, _, rfl, x_l (SqL.of hLd) atI_last (x_t r1 rfl ⟨_, rfl, a_ss (sl (by omega)) ⟨_, rfl, sl (by show 2 ≤ 3000; decide), fun p9 hp9 => ?_⟩⟩)⟩
      refine newH hp9 fun H9 g9 s9 => ?_
      refine ⟨_, rfl, _, rfl, D, _, -1, _, rfl, rfl, g9.lst hLd, ixN_last, ?_⟩
      rw [set_last]
      have g10 := GrN.upd (ys := ys0 ++ [.ref p9]) (g9.lst hLd)
      refine ⟨_, _, ys0 ++ [.ref p9], rfl, (g.trans g9).upd' hD, upd_same, ?_⟩
      rw [e1, putp_snoc, if_pos e2, List.map_append]
      exact ddA_app (g10.ddA _ _ (nl_pcs _) (g9.ddA _ _ hE0)) (.cons (g10.dd _ _ rfl (.tup (SqT.of s9) (.cons (.str _) (.cons (g9.dd _ _ dm) .nil)))) .nil)
    · have e2 : ¬ q0.2 = p.2 := fun z => h3 (by rw [z]; exact eqv_refl _ (cl_mk (hp p hpm).2).lay)
      refine ⟨_, rfl, .inl ⟨rfl, _, SqL.of hLd⟩, _, rfl, _, rfl, sl (by show 2 ≤ 3000; decide), fun p9 hp9 => ?_⟩
      refine newH hp9 fun H9 g9 s9 => ?_
      refine ⟨D, _, .ref p9, rfl, rfl, g9.lst hLd, by rw [sizeLine_eq]; omega, ?_⟩
      have g10 := GrN.upd (ys := (ys0 ++ [V.ref b1]) ++ [.ref p9]) (g9.lst hLd)
      refine ⟨_, _, (ys0 ++ [V.ref b1]) ++ [.ref p9], rfl, (g.trans g9).upd' hD, upd_same, ?_⟩
      rw [e1, putp_snoc, if_neg e2, List.map_append, List.map_append]
      exact ddA_app (g10.ddA _ _ (noLstA_cl fun d hd => by
        rcases List.mem_append.mp hd with z | z
        · obtain ⟨q, _, rfl⟩ := List.mem_map.mp z
          rfl
        · obtain ⟨q, _, rfl⟩ := List.mem_map.mp z
          rfl) (g9.ddA _ _ hE)) (.cons (g10.dd _ _ rfl (.tup (SqT.of s9) (.cons (.str _) (.cons (g9.dd _ _ dm) .nil)))) .nil)
  · rintro σ H' ⟨o2, o3, ys, rfl, g, hLd, hE⟩
    rw [hl, List.take_length, jn_cn fun p hp2 => (hp p hp2).1] at hE
    refine ⟨_, rfl, ⟨.inl ⟨D, _, rfl, SqL.of hLd, fun p hp => ?_⟩⟩⟩
    refine newH hp fun H1 g1 s1 => ?_
    exact k p H1 (g.trans g1) (.tup (SqT.of s1) (g1.ddA _ _ hE))
end
end Vf
end
section
set_option Elab.async false
set_option linter.all false
set_option maxRecDepth 100000
set_option maxHeartbeats 4000000
namespace Vf
open PySem PySem.Spec PyProof.Rows L2 GxR GenW RZ
def three : List Str := ["link", "bold", "slant"]
theorem um_link (m : Mk3) : um (one "link") m = ((("" : Str), m.2.1, m.2.2) : Mk3) := by
  obtain ⟨l, b, c⟩ := m
  have h1 : one "link" "link" = true := by decide +kernel
  have h2 : one "link" "bold" = false := by decide +kernel
  have h3 : one "link" "slant" = false := by decide +kernel
  unfold um
  rw [h1, h2, h3]
  simp
theorem um_bold (m : Mk3) : um (one "bold") m = (m.1, false, m.2.2) := by
  obtain ⟨l, b, c⟩ := m
  have h1 : one "bold" "link" = false := by decide +kernel
  have h2 : one "bold" "bold" = true := by decide +kernel
  have h3 : one "bold" "slant" = false := by decide +kernel
  unfold um
  rw [h1, h2, h3]
  simp
theorem um_slant (m : Mk3) : um (one "slant") m = (m.1, m.2.1, false) := by
  obtain ⟨l, b, c⟩ := m
  have h1 : one "slant" "link" = false := by decide +kernel
  have h2 : one "slant" "bold" = false := by decide +kernel
  have h3 : one "slant" "slant" = true := by decide +kernel
  unfold um
  rw [h1, h2, h3]
  simp
theorem um_LK (s : Drp) {m : Mk3} (h : m.1 ∈ LK4) : (um s m).1 ∈ LK4 := by
  show (if s "link" = true then ("" : Str) else m.1) ∈ LK4
  split
  · simp [LK4]
  · exact h
theorem fl_um (s : Drp) (ps : List Pc) : fl (ps.map fun p => (p.1, um s p.2)) = umC s (fl ps) := by
  unfold fl umC
  rw [List.flatMap_map, List.map_flatMap]
  congr 1
  funext p
  rw [List.map_map]; rfl
section
variable {K : PySem.W.Frag}
theorem sl_t1 {H : Hp} {Q : VK} {a : Addr} {xs : List V} (h : SqT K H a xs) (q : ∀ p H', Gr H H' → SqT K H' p (xs.drop 1) → Q (.ref p) H') : rSlU K (.ref a) (some 1) none H Q := by
  have e1 : HT.sIx xs.length 0 (some 1) = min 1 xs.length := HT.sIx_nat _ _ 1
  refine sl_t h (fun z => ?_) (fun _ p hp => ?_)
  · rw [e1] at z
    have e : xs = [] := List.eq_nil_of_length_eq_zero (by omega)
    subst e
    exact q a H (Gr.refl H) h
  · have e : cutV xs (some 1) none = xs.drop 1 := by
      unfold cutV
      rw [e1, HT.sIx_none]
      by_cases hx : xs = []
      · subst hx; rfl
      · have : 1 ≤ xs.length := List.length_pos_iff.mpr hx
        rw [Nat.min_eq_left this]
        exact List.take_of_length_le (by rw [List.length_drop]; exact Nat.le_refl _)
    rw [e]
    exact newH hp fun H1 g1 s1 => q p H1 g1 (SqT.of s1)
end
/-- [t for x in a tuple of data]: data again -/
theorem lc_dd {α β : Type} {f : α → PyData} {f2 : β → PyData} {h : α → β} {K : PySem.W.Frag} {a : Addr} {xs : List V} {as : List α} {g : TG} {te : TE} {vs : List Nat} {σ : L2.St} {H : Hp} {D : Addr} {Qd : Hp → Prop} (hD : H D = none) (hS : SqT K H a xs) (hA : DdAll K H xs (as.map f)) (hn : as.length ≤ 4000) (nl : ∀ b, noLst (f2 b) = true)
    (step : ∀ (i : Nat) (x : V) (e : α) (H' : Hp) (C : VK), xs[i]? = some x → as[i]? = some e → Gr H H' → Dd K H' x (f e) → (∀ v H4, Gr H' H4 → Dd K H4 v (f2 (h e)) → C v H4) → g x (wipe σ vs) H' fun σ2 H2 => wipe σ2 vs = wipe σ vs ∧ te σ2 H2 C)
    (done : ∀ (H' : Hp) (ys : List V), Gr H H' → H' D = some (.lst ys) → DdAll K H' ys ((as.map h).map f2) → Qd H') :
    ∃ W : Nat → Nat → Hp → Prop, (∃ m, W 0 m (upd H D (.lst []))) ∧ ∀ i m H, W i m H →
      ((Itt K a).stop i H ∧ Qd H) ∨ ((Itt K a).go i H ∧ ∃ Nx : Hp → Prop, (∀ H', Nx H' → ∃ m', m' < m ∧ W (i + 1) m' H') ∧ ∀ x H', (Itt K a).yld i H x H' → g x (wipe σ vs) H' fun σ2 H2 => wipe σ2 vs = wipe σ vs ∧ tYes σ2 H2 fun b H3 =>
        if b = true then te σ2 H3 fun y H4 => ∃ acc, H4 D = some (.lst acc) ∧ acc.length < sizeLine ∧ Nx (upd H4 D (.lst (acc ++ [y]))) else Nx H3) := by
  have xl : xs.length = as.length := by rw [ddA_len hA, List.length_map]
  refine lc_tup (K := K) (a := a) (xs := xs) (fun i H' => ∃ ys, Gr H H' ∧ H' D = some (.lst ys) ∧ DdAll K H' ys (((as.take i).map h).map f2)) ⟨[], Gr.new hD, upd_same, .nil⟩ ?_ ?_ ?_
  · rintro i H' _ ⟨ys, g, _⟩
    exact g.seqT hS
  · rintro i x H' hx ⟨ys, g1, hL, hE⟩
    obtain ⟨e, he, de⟩ := ddA_map hA hx
    have il := (List.getElem?_eq_some_iff.mp he).1
    have yl : ys.length = i := by
      have q := ddA_len hE
      rw [List.length_map, List.length_map, List.length_take] at q
      omega
    refine step i x e H' _ hx he g1 (g1.dd _ _ de) fun v H4 g4 dv => ?_
    have g5 := GrN.upd (ys := ys ++ [v]) (g4.lst hL)
    refine ⟨ys, g4.lst hL, by rw [yl, sizeLine_eq]; omega, ys ++ [v], (g1.trans g4).upd' hD, upd_same, ?_⟩
    rw [take_snoc he, List.map_append, List.map_append]
    exact ddA_app (g5.ddA _ _ (noLstA_cl fun d hd => by
      obtain ⟨b, _, rfl⟩ := List.mem_map.mp hd
      exact nl b) (g4.ddA _ _ hE)) (.cons (g5.dd _ _ (nl _) dv) .nil)
  · rintro H' ⟨ys, g1, hL, hE⟩
    rw [xl, List.take_length] at hE
    exact done H' ys g1 hL hE
def SP : Pc := (" ", NO)
theorem atI_zero {α : Type} {x : α} {l : List α} : atI (x :: l) 0 = some x := by
  unfold atI
  rw [show (0 : Int) = ((0 : Nat) : Int) from rfl, ixN_nat (by show 0 < l.length + 1; omega)]
  rfl
def joinP (c : Fc) (r : List Fc) : List Pc := cn c ++ r.flatMap fun d => SP :: cn d
theorem joinP_snoc (c : Fc) (r : List Fc) (d : Fc) : joinP c (r ++ [d]) = joinP c r ++ [SP] ++ cn d := by
  unfold joinP
  rw [List.flatMap_append, List.append_assoc, List.append_assoc]
  simp
theorem fl_rest : ∀ r : List Fc, fl (r.flatMap fun d => SP :: cn d) = r.flatMap fun d => (32, NO) :: d
  | [] => rfl
  | d :: r => by
    rw [List.flatMap_cons, List.flatMap_cons, fl_app, fl_rest r, show (SP :: cn d : List Pc) = [SP] ++ cn d from rfl, fl_app, fl_cn, fl_one]
    rfl
theorem fl_joinP (c : Fc) (r : List Fc) : fl (joinP c r) = gl (c :: r) := by
  unfold joinP
  rw [fl_app, fl_cn, fl_rest]
  rfl
theorem joinP_ok {c : Fc} {r : List Fc} (h : ∀ xs ∈ c :: r, OkC xs) : ∀ p ∈ joinP c r, OkP p := by
  intro p hp
  rcases List.mem_append.mp hp with z | z
  · exact ⟨cn_ne c p z, (h c List.mem_cons_self).mk z⟩
  · obtain ⟨d, hd, z⟩ := List.mem_flatMap.mp z
    rcases List.mem_cons.mp z with rfl | z
    · exact ⟨by decide +kernel, by simp [SP, NO, LK4]⟩
    · exact ⟨cn_ne d p z, (h d (List.mem_cons_of_mem _ hd)).mk z⟩
theorem gl_take (c : Fc) (r : List Fc) (i : Nat) : (gl (c :: r.take i)).length ≤ (gl (c :: r)).length := by
  show (c ++ _).length ≤ (c ++ _).length
  conv => rhs; rw [← List.take_append_drop i r]
  rw [List.length_append, List.length_append, List.flatMap_append, List.length_append]
  omega
def spUnm (K : PySem.W.Frag) : Sp := fun vs H Q _ => ∃ (v : V) (f : Str) (m : Mk3), vs = [v, .str f] ∧ f ∈ three ∧ Dd K H v (mkD m) ∧ ∀ p H', Gr H H' → Dd K H' (.ref p) (mkD (um (one f) m)) → Q (.ref p) H'
def spUCell (K : PySem.W.Frag) : Sp := fun vs H Q _ => ∃ (v : V) (f : Str) (xs : Fc), vs = [v, .str f] ∧ f ∈ three ∧ Dd K H v (ceD xs) ∧ OkC xs ∧ xs.length ≤ 491 ∧ ∀ p H', Gr H H' → Dd K H' (.ref p) (ceD (umC (one f) xs)) → Q (.ref p) H'
def spUCells (K : PySem.W.Frag) : Sp := fun vs H Q _ => ∃ (v : V) (f : Str) (cs : List Fc), vs = [v, .str f] ∧ f ∈ three ∧ Dd K H v (.tuple (cs.map ceD)) ∧ (∀ xs ∈ cs, OkC xs ∧ xs.length ≤ 491) ∧ cs.length ≤ 12 ∧ ∀ p H', Gr H H' → Dd K H' (.ref p) (.tuple ((cs.map (umC (one f))).map ceD)) → Q (.ref p) H'
def spOne (K : PySem.W.Frag) : Sp := fun vs H Q _ => ∃ (v : V) (cs : List Fc), vs = [v] ∧ Dd K H v (.tuple (cs.map ceD)) ∧ (∀ xs ∈ cs, OkC xs) ∧ cs ≠ [] ∧ cs.length ≤ 12 ∧ (gl cs).length ≤ 491 ∧ ∀ p H', Gr H H' → Dd K H' (.ref p) (ceD (gl cs)) → Q (.ref p) H'
section
variable {P : Program} {w : World} {K : PySem.W.Frag} {mg : Str → Option Value} {base : Heap}
theorem dd_newmk {H1 : Hp} {p : Addr} {m : Mk3} (h : H1 p = some (.tup [.str m.1, .bl m.2.1, .bl m.2.2])) : Dd K H1 (.ref p) (mkD m) := .tup (SqT.of h) (.cons (.str _) (.cons (.bl _) (.cons (.bl _) .nil)))
theorem ok_unm {fd : FuncData} (F : FnP K "unmarked" s_unmarked fd) (T : TD K mg) : FnOk P w K mg base CX0 1 (He.fAd K ("unmarked", none)) fd p_unmarked (spUnm K) := by
  refine okP F sc_unmarked (fun vs H Q E h => by obtain ⟨v, f, m, rfl, _⟩ := h; rfl) (fun A outer s H vs Q E hr h => ?_)
  obtain ⟨v, f, m, rfl, hf, hd, k⟩ := h
  obtain ⟨b, rfl, sq⟩ := dd_mk hd
  have sl : ∀ {n : Nat}, n ≤ 3000 → n ≤ sizeLine := fun h => by rw [sizeLine_eq]; omega
  have d1 : decide (V.str "bold" = V.str "link") = false := by decide +kernel
  have d2 : decide (V.str "slant" = V.str "link") = false := by decide +kernel
  have d3 : decide (V.str "slant" = V.str "bold") = false := by decide +kernel
  have d4 : decide (V.str "bold" = V.str "bold") = true := by decide +kernel
  have d5 : decide (V.str "link" = V.str "link") = true := by decide +kernel
  refine ⟨_, (pss_cons (ps_asg (pv 0) (kg_tup 3 (K := K) rfl rfl (pgs_cons (pg_name (i := 2) sc_unmarked.nd rfl (by first | exact Or.inl rfl | exact Or.inr rfl)) (pgs_cons (pg_name (i := 3) sc_unmarked.nd rfl (by first | exact Or.inl rfl | exact Or.inr rfl)) (pgs_cons (pg_name (i := 4) sc_unmarked.nd rfl (by first | exact Or.inl rfl | exact Or.inr rfl)) pgs_nil)))))
      (pss_cons (ps_if (pt_cmpR (u_eq (K := K) rfl hr.units) (pv 1) pe_str (nomark _))
      (pss_one (ps_ret (pe_tup (pa_cons pe_str (pa_cons (pv 3) (pa_cons (pv 4) pa_nil))))))
      pss_nil)
      (pss_cons (ps_if (pt_cmpR (u_eq (K := K) rfl hr.units) (pv 1) pe_str (nomark _))
      (pss_one (ps_ret (pe_tup (pa_cons (pv 2) (pa_cons pe_bl (pa_cons (pv 4) pa_nil))))))
      pss_nil)
      (pss_one (ps_ret (pe_tup (pa_cons (pv 2) (pa_cons (pv 3) (pa_cons pe_bl pa_nil))))))))), ?_⟩
  refine ⟨_, rfl, b, _, rfl, sq, rfl, _, _, rfl, _, _, rfl, _, _, rfl, rfl, ?_⟩
  simp only [three, List.mem_cons, List.not_mem_nil, or_false] at hf
  rcases hf with rfl | rfl | rfl
  · refine ⟨_, rfl, e_flat rfl ⟨_, rfl, ?_⟩⟩
    rw [d5]
    refine iteT ⟨_, rfl, _, rfl, sl (by show 3 ≤ 3000; decide), fun p hp => ?_⟩
    refine newH hp fun H1 g1 s1 => ?_
    exact k p H1 g1 (by rw [um_link]; exact dd_newmk s1)
  · refine ⟨_, rfl, e_flat rfl ⟨_, rfl, ?_⟩⟩
    rw [d1]
    refine iteF ⟨_, rfl, e_flat rfl ⟨_, rfl, ?_⟩⟩
    rw [d4]
    refine iteT ⟨_, rfl, _, rfl, sl (by show 3 ≤ 3000; decide), fun p hp => ?_⟩
    refine newH hp fun H1 g1 s1 => ?_
    exact k p H1 g1 (by rw [um_bold]; exact dd_newmk s1)
  · refine ⟨_, rfl, e_flat rfl ⟨_, rfl, ?_⟩⟩
    rw [d2]
    refine iteF ⟨_, rfl, e_flat rfl ⟨_, rfl, ?_⟩⟩
    rw [d3]
    refine iteF ⟨_, rfl, _, rfl, sl (by show 3 ≤ 3000; decide), fun p hp => ?_⟩
    refine newH hp fun H1 g1 s1 => ?_
    exact k p H1 g1 (by rw [um_slant]; exact dd_newmk s1)
theorem ok_ucell {fd : FuncData} (F : FnP K "unmarked_cell" s_unmarked_cell fd) (T : TD K mg) (D_unmarked : Df P w K mg base "unmarked" 1 p_unmarked (spUnm K)) (D_merged : Df P w K mg base "merged" 1 p_merged (spMerged K)) : FnOk P w K mg base CX0 2 (He.fAd K ("unmarked_cell", none)) fd p_unmarked_cell (spUCell K) := by
  refine okP F sc_unmarked_cell (fun vs H Q E h => by obtain ⟨v, f, xs, rfl, _⟩ := h; rfl) (fun A outer s H vs Q E hr h => ?_)
  obtain ⟨v, f, fs, rfl, hf, hd, ok, hl, k⟩ := h
  obtain ⟨b, xs, rfl, sq, dA⟩ := dd_tup hd
  have okp : ∀ p ∈ cn fs, OkP p := fun p hp => ⟨cn_ne fs p hp, ok.mk hp⟩
  have cl : (cn fs).length ≤ 491 := by
    have := pcs_len okp
    rw [fl_cn] at this
    omega
  have xl : xs.length = (cn fs).length := by rw [ddA_len dA, List.length_map]
  have sl : ∀ {n : Nat}, n ≤ 3000 → n ≤ sizeLine := fun h => by rw [sizeLine_eq]; omega
  refine ⟨_, (pss_one (ps_ret (pe_fn D_merged hr (by decide) rfl (pa_cons (pe_lc (own := [("text", 2), ("marks", 3)])  (tt := tYes) rfl sc_unmarked_cell.nd (k_tup (K := K) rfl (pv 0)) (blkOk_by (own := [("text", 2), ("marks", 3)]) (N := n_unmarked_cell) (sc := defScope s_unmarked_cell) (by decide +kernel)) (fun _ _ _ _ _ => (kg_tup 2 (K := K) rfl rfl (pgs_cons (pg_name (i := 2) sc_unmarked_cell.nd rfl (by first | exact Or.inl rfl | exact Or.inr rfl)) (pgs_cons (pg_name (i := 3) sc_unmarked_cell.nd rfl (by first | exact Or.inl rfl | exact Or.inr rfl)) pgs_nil)))) (fun _ _ _ _ _ => pts_nil) (fun _ _ _ _ _ => (pe_tup (pa_cons (pv 2) (pa_cons (pe_fn D_unmarked hr (by decide) rfl (pa_cons (pv 3) (pa_cons (pv 1) pa_nil))) pa_nil))))) pa_nil)))), ?_⟩
  refine ⟨_, rfl, b, rfl, ⟨_, sq⟩, fun D hD => ?_⟩
  refine lc_dd (K := K) (f2 := pcD) (h := fun p => (p.1, um (one f) p.2)) hD sq dA (by omega) nl_pc ?_ ?_
  · intro i x p H' C hx hp g1 dp hC
    have pm := List.mem_of_getElem? hp
    obtain ⟨b1, w1, rfl, q1, dm⟩ := dd_pc dp
    refine ⟨b1, _, rfl, q1, rfl, _, _, rfl, _, _, rfl, rfl, rfl, ?_⟩
    refine ⟨_, rfl, _, rfl, _, rfl, w1, f, p.2, rfl, hf, dm, fun p2 H2 g2 d2 => ?_⟩
    refine ⟨sl (by show 2 ≤ 3000; decide), fun p9 hp9 => ?_⟩
    refine newH hp9 fun H9 g9 s9 => ?_
    exact hC _ _ (g2.trans g9) (.tup (SqT.of s9) (.cons (.str _) (.cons (g9.dd _ _ d2) .nil)))
  · intro H' ys g1 hL hE
    refine ⟨D, ys, (cn fs).map fun p => (p.1, um (one f) p.2), rfl, hL, hE, ?_, ?_, ?_⟩
    · intro q hq
      obtain ⟨p, hp, rfl⟩ := List.mem_map.mp hq
      exact ⟨(okp p hp).1, um_LK _ (okp p hp).2⟩
    · rw [fl_um, fl_cn, umC_len]
      omega
    · intro p H2 g2 d2
      rw [fl_um, fl_cn] at d2
      exact k p H2 (g1.trans g2) d2
theorem ok_ucells {fd : FuncData} (F : FnP K "unmarked_cells" s_unmarked_cells fd) (T : TD K mg) (D_unmarked_cell : Df P w K mg base "unmarked_cell" 2 p_unmarked_cell (spUCell K)) : FnOk P w K mg base CX0 3 (He.fAd K ("unmarked_cells", none)) fd p_unmarked_cells (spUCells K) := by
  refine okP F sc_unmarked_cells (fun vs H Q E h => by obtain ⟨v, f, cs, rfl, _⟩ := h; rfl) (fun A outer s H vs Q E hr h => ?_)
  obtain ⟨v, f, cs, rfl, hf, hd, ok, hl, k⟩ := h
  obtain ⟨b, xs, rfl, sq, dA⟩ := dd_tup hd
  refine ⟨_, (pss_one (ps_ret (k_tuple (K := K) rfl rfl T.b_tuple (pe_lc (own := [("cell", 2)]) (g := gName 2) (tt := tYes) rfl sc_unmarked_cells.nd (k_tup (K := K) rfl (pv 0)) (blkOk_by (own := [("cell", 2)]) (N := n_unmarked_cells) (sc := defScope s_unmarked_cells) (by decide +kernel)) (fun _ _ _ _ _ => (pg_name (i := 2) sc_unmarked_cells.nd rfl (by first | exact Or.inl rfl | exact Or.inr rfl))) (fun _ _ _ _ _ => pts_nil) (fun _ _ _ _ _ => (pe_fn D_unmarked_cell hr (by decide) rfl (pa_cons (pv 2) (pa_cons (pv 1) pa_nil)))))))), ?_⟩
  refine ⟨_, rfl, b, rfl, ⟨_, sq⟩, fun D hD => ?_⟩
  refine lc_dd (K := K) (f2 := ceD) (h := umC (one f)) hD sq dA (by omega) nl_ce ?_ ?_
  · intro i x c H' C hx hc g1 dc hC
    have cm := ok c (List.mem_of_getElem? hc)
    refine ⟨rfl, ?_⟩
    exact ⟨_, rfl, _, rfl, x, f, c, rfl, hf, dc, cm.1, cm.2, fun p2 H2 g2 d2 => hC _ _ g2 d2⟩
  · intro H' ys g1 hL hE
    refine ⟨.inl ⟨D, _, rfl, SqL.of hL, fun p hp => ?_⟩⟩
    refine newH hp fun H1 g2 s1 => ?_
    exact k p H1 (g1.trans g2) (.tup (SqT.of s1) (g2.ddA _ _ hE))
theorem ok_one {fd : FuncData} (F : FnP K "one_cell" s_one_cell fd) (T : TD K mg) (D_merged : Df P w K mg base "merged" 1 p_merged (spMerged K)) : FnOk P w K mg base CX0 2 (He.fAd K ("one_cell", none)) fd p_one_cell (spOne K) := by
  obtain ⟨aN, m_NO_MARKS, sN⟩ := T.c_NO_MARKS
  refine okP F sc_one_cell (fun vs H Q E h => by obtain ⟨v, cs, rfl, _⟩ := h; rfl) (fun A outer s H vs Q E hr h => ?_)
  obtain ⟨v, cs, rfl, hd, ok, hne, hl, hg, k⟩ := h
  obtain ⟨b, xs, rfl, sq, dA⟩ := dd_tup hd
  refine ⟨_, (pss_cons (ps_set (i := 1) sc_one_cell.nd rfl (by first | exact Or.inl rfl | exact Or.inr rfl) (pe_callTy (call_listU (K := K) rfl rfl) rfl T.b_list (by decide +kernel) (pa_cons (pe_ix (u_ix (K := K) rfl) (pv 0) pe_int (fun _ _ => rfl)) pa_nil)))
      (pss_cons (ps_for PassesOwn.never rfl (k_tup (K := K) rfl (pe_slice (u_sl (K := K) rfl) (pv 0) (po_some pe_int) po_none)) (pg_name (i := 2) sc_one_cell.nd rfl (by first | exact Or.inl rfl | exact Or.inr rfl))
      (pss_cons (ps_expr (k_bm (K := K) rfl PySem.F.plainAttrs_list PySem.F.slot_list_append PySem.F.type_list_append mt_append (pv 1) (pa_cons (pe_tup (pa_cons pe_str (pa_cons (pe_ref rfl m_NO_MARKS) pa_nil))) pa_nil)))
      (pss_one (ps_expr (k_bm (K := K) rfl PySem.F.plainAttrs_list PySem.F.slot_list_extend PySem.F.type_list_extend (mt_extK (K := K) rfl) (pv 1) (pa_cons (pv 2) pa_nil))))))
      (pss_one (ps_ret (pe_fn D_merged hr (by decide) rfl (pa_cons (pv 1) pa_nil)))))), ?_⟩
  cases cs with
  | nil => exact absurd rfl hne
  | cons c0 r =>
  cases xs with
  | nil => cases dA
  | cons x0 rest =>
  have dA' : DdAll K H (x0 :: rest) (ceD c0 :: r.map ceD) := dA
  cases dA' with
  | cons d0 dR =>
  obtain ⟨b0, ys0, rfl, sq0, dA0⟩ := dd_tup d0
  have rl : rest.length = r.length := by rw [ddA_len dR, List.length_map]
  have sl : ∀ {n : Nat}, n ≤ 3000 → n ≤ sizeLine := fun h => by rw [sizeLine_eq]; omega
  refine ⟨_, rfl, x_t sq atI_zero (lsU_q (.inr sq0) fun D hD => ?_)⟩
  refine newH hD fun H1 g1 s1 => ?_
  refine ⟨_, rfl, _, rfl, sl_t1 (g1.seqT sq) fun p1 H2 g2 sq2 => ?_⟩
  have g02 := g1.trans g2
  refine ⟨p1, rfl, ⟨_, sq2⟩, ?_⟩
  refine for_tup (K := K) (a := p1) (xs := rest) (fun i σ H' => ∃ (o2 : Option V) (ys : List V), σ = [some (.ref b), some (.ref D), o2] ∧ Gr H H' ∧ SqT K H' p1 rest ∧ H' D = some (.lst ys) ∧ DdAll K H' ys ((joinP c0 (r.take i)).map pcD))
    ⟨none, ys0, rfl, g02, sq2, g2.lst s1, by unfold joinP; rw [List.take_zero, List.flatMap_nil, List.append_nil]; exact g02.ddA _ _ dA0⟩ ?_ ?_ ?_
  · rintro i σ H' _ ⟨o2, ys, rfl, g, sq, _⟩
    exact sq
  · rintro i x σ H' hx ⟨o2, ys, rfl, g, sq, hL, hE⟩
    obtain ⟨d, hd, dd⟩ := ddA_map (g.ddA _ _ dR) hx
    have il := (List.getElem?_eq_some_iff.mp hd).1
    obtain ⟨b2, zs, rfl, sqz, dz⟩ := dd_tup dd
    have jo : ∀ xs ∈ c0 :: r.take (i + 1), OkC xs := fun xs hx => ok xs (by
      rcases List.mem_cons.mp hx with rfl | hx
      · exact List.mem_cons_self
      · exact List.mem_cons_of_mem _ (List.mem_of_mem_take hx))
    have l1 := pcs_len (joinP_ok jo)
    rw [fl_joinP] at l1
    have l2 := gl_take c0 r (i + 1)
    have e1 : joinP c0 (r.take (i + 1)) = joinP c0 (r.take i) ++ [SP] ++ cn d := by rw [take_snoc hd, joinP_snoc]
    have l3 : ys.length + 1 + zs.length ≤ 491 := by
      have q1 := ddA_len hE
      have q2 := ddA_len dz
      rw [List.length_map] at q1 q2
      rw [e1, List.length_append, List.length_append, List.length_singleton] at l1
      omega
    refine ⟨_, rfl, .inl ⟨rfl, _, SqL.of hL⟩, sl (by show 2 ≤ 3000; decide), fun p9 hp9 => ?_⟩
    refine newH hp9 fun H9 g9 s9 => ?_
    refine ⟨D, _, .ref p9, rfl, rfl, g9.lst hL, sl (by omega), ?_⟩
    have g10 := GrN.upd (ys := ys ++ [.ref p9]) (g9.lst hL)
    have n1 : Dd K H9 (.ref p9) (pcD SP) := .tup (SqT.of s9) (.cons (.str _) (.cons (.tup (sN _) (.cons (.str _) (.cons (.bl _) (.cons (.bl _) .nil)))) .nil))
    have hz10 : SqT K (upd H9 D (.lst (ys ++ [.ref p9]))) b2 zs := g10.seqT (g9.seqT sqz)
    refine ⟨_, rfl, .inl ⟨rfl, _, SqL.of upd_same⟩, _, rfl, D, b2, _, zs, rfl, rfl, upd_same, hz10, sl (by rw [List.length_append, List.length_singleton]; omega), ?_⟩
    have g11 := GrN.upd (H := upd H9 D (.lst (ys ++ [.ref p9]))) (ys := (ys ++ [.ref p9]) ++ zs) upd_same
    refine ⟨_, _, rfl, ((g.trans g9).upd' hD).upd' hD, g11.seqT (g10.seqT (g9.seqT sq)), upd_same, ?_⟩
    rw [e1, List.map_append, List.map_append]
    exact g11.ddA _ _ (noLstA_cl fun q hq => by
      simp only [List.mem_append, List.mem_map] at hq
      rcases hq with (⟨q, _, rfl⟩ | ⟨q, _, rfl⟩) | ⟨q, _, rfl⟩ <;> rfl) (ddA_app (ddA_app (g10.ddA _ _ (nl_pcs _) (g9.ddA _ _ hE)) (.cons (g10.dd _ _ rfl n1) .nil)) (g10.ddA _ _ (nl_pcs _) (g9.ddA _ _ dz)))
  · rintro σ H' ⟨o2, ys, rfl, g, sq, hL, hE⟩
    rw [rl, List.take_length] at hE
    refine ⟨_, rfl, D, ys, joinP c0 r, rfl, hL, hE, joinP_ok ok, by rw [fl_joinP]; omega, fun p H3 g3 d3 => ?_⟩
    rw [fl_joinP] at d3
    exact k p H3 (g.trans g3) d3
end
end Vf
end
section
set_option Elab.async false
set_option linter.all false
set_option maxRecDepth 100000
set_option maxHeartbeats 4000000
namespace Vf
open PySem PySem.Spec PyProof.Rows L2 GxR GenW RZ
theorem umC_eq {s t : Drp} (h3 : s "link" = t "link") (h4 : s "bold" = t "bold") (h5 : s "slant" = t "slant") : umC s = umC t := by
  funext xs
  unfold umC um
  rw [h3, h4, h5]
theorem map_umC_none {s : Drp} (h3 : s "link" = false) (h4 : s "bold" = false) (h5 : s "slant" = false) (cs : List Fc) : cs.map (umC s) = cs := by
  rw [umC_eq (t := none5) h3 h4 h5]
  conv => rhs; rw [← List.map_id cs]
  exact List.map_congr_left fun x _ => umC_none x
theorem opL_cells (l : Fln) : opL (one "cells") l = (l.1, [gl l.2]) := by
  unfold opL
  rw [show one "cells" "nest" = false by decide +kernel, show one "cells" "cells" = true by decide +kernel, map_umC_none (by decide +kernel) (by decide +kernel) (by decide +kernel)]
  rfl
theorem opL_nest (l : Fln) : opL (one "nest") l = (0, l.2) := by
  unfold opL
  rw [show one "nest" "nest" = true by decide +kernel, show one "nest" "cells" = false by decide +kernel, map_umC_none (by decide +kernel) (by decide +kernel) (by decide +kernel)]
  rfl
theorem opL_three {f : Str} (h : f ∈ three) (l : Fln) : opL (one f) l = (l.1, l.2.map (umC (one f))) := by
  have h1 : one f "nest" = false := by
    simp only [three, List.mem_cons, List.not_mem_nil, or_false] at h
    rcases h with rfl | rfl | rfl <;> decide +kernel
  have h2 : one f "cells" = false := by
    simp only [three, List.mem_cons, List.not_mem_nil, or_false] at h
    rcases h with rfl | rfl | rfl <;> decide +kernel
  unfold opL
  rw [h1, h2]
  rfl
def spDrop (K : PySem.W.Frag) : Sp := fun vs H Q _ => ∃ (v : V) (f : Str) (m : Fm), vs = [v, .str f] ∧ f ∈ five ∧ Dd K H v (coD m) ∧ OkF m ∧ ∀ p H', Gr H H' → Dd K H' (.ref p) (coD (op (one f) m)) → Q (.ref p) H'
theorem dd_line {K : PySem.W.Frag} {H : Hp} {p a : Addr} {d : Nat} {cs : List Fc} (h : H p = some (.tup [.int (d : Nat), .ref a])) (h2 : Dd K H (.ref a) (.tuple (cs.map ceD))) : Dd K H (.ref p) (liD (d, cs)) := .tup (SqT.of h) (.cons (.int _) (.cons h2 .nil))
section
variable {P : Program} {w : World} {K : PySem.W.Frag} {mg : Str → Option Value} {base : Heap}
theorem ok_drop {fd : FuncData} (F : FnP K "drop" s_drop fd) (T : TD K mg) (D_one_cell : Df P w K mg base "one_cell" 2 p_one_cell (spOne K)) (D_unmarked_cells : Df P w K mg base "unmarked_cells" 3 p_unmarked_cells (spUCells K)) : FnOk P w K mg base CX0 4 (He.fAd K ("drop", none)) fd p_drop (spDrop K) := by
  refine okP F sc_drop (fun vs H Q E h => by obtain ⟨v, f, m, rfl, _⟩ := h; rfl) (fun A outer s H vs Q E hr h => ?_)
  obtain ⟨v, f, m, rfl, hf, hd, ok, k⟩ := h
  obtain ⟨b, xs, rfl, sq, dA⟩ := dd_tup hd
  have sl : ∀ {n : Nat}, n ≤ 3000 → n ≤ sizeLine := fun h => by rw [sizeLine_eq]; omega
  have hm2 := ok.l2
  refine ⟨_, (pss_cons (ps_if (pt_cmpR (u_eq (K := K) rfl hr.units) (pv 1) pe_str (nomark _))
      (pss_one (ps_ret (k_tuple (K := K) rfl rfl T.b_tuple (pe_lc (own := [("depth", 2), ("cells", 3)])  (tt := tYes) rfl sc_drop.nd (k_tup (K := K) rfl (pv 0)) (blkOk_by (own := [("depth", 2), ("cells", 3)]) (N := n_drop) (sc := defScope s_drop) (by decide +kernel)) (fun _ _ _ _ _ => (kg_tup 2 (K := K) rfl rfl (pgs_cons (pg_name (i := 2) sc_drop.nd rfl (by first | exact Or.inl rfl | exact Or.inr rfl)) (pgs_cons (pg_name (i := 3) sc_drop.nd rfl (by first | exact Or.inl rfl | exact Or.inr rfl)) pgs_nil)))) (fun _ _ _ _ _ => pts_nil) (fun _ _ _ _ _ => (pe_tup (pa_cons (pv 2) (pa_cons (pe_tup (pa_cons (pe_fn D_one_cell hr (by decide) rfl (pa_cons (pv 3) pa_nil)) pa_nil)) pa_nil))))))))
      pss_nil)
      (pss_cons (ps_if (pt_cmpR (u_eq (K := K) rfl hr.units) (pv 1) pe_str (nomark _))
      (pss_one (ps_ret (k_tuple (K := K) rfl rfl T.b_tuple (pe_lc (own := [("_", 4), ("cells", 3)])  (tt := tYes) rfl sc_drop.nd (k_tup (K := K) rfl (pv 0)) (blkOk_by (own := [("_", 4), ("cells", 3)]) (N := n_drop) (sc := defScope s_drop) (by decide +kernel)) (fun _ _ _ _ _ => (kg_tup 2 (K := K) rfl rfl (pgs_cons (pg_name (i := 4) sc_drop.nd rfl (by first | exact Or.inl rfl | exact Or.inr rfl)) (pgs_cons (pg_name (i := 3) sc_drop.nd rfl (by first | exact Or.inl rfl | exact Or.inr rfl)) pgs_nil)))) (fun _ _ _ _ _ => pts_nil) (fun _ _ _ _ _ => (pe_tup (pa_cons pe_int (pa_cons (pv 3) pa_nil))))))))
      pss_nil)
      (pss_one (ps_ret (k_tuple (K := K) rfl rfl T.b_tuple (pe_lc (own := [("depth", 2), ("cells", 3)])  (tt := tYes) rfl sc_drop.nd (k_tup (K := K) rfl (pv 0)) (blkOk_by (own := [("depth", 2), ("cells", 3)]) (N := n_drop) (sc := defScope s_drop) (by decide +kernel)) (fun _ _ _ _ _ => (kg_tup 2 (K := K) rfl rfl (pgs_cons (pg_name (i := 2) sc_drop.nd rfl (by first | exact Or.inl rfl | exact Or.inr rfl)) (pgs_cons (pg_name (i := 3) sc_drop.nd rfl (by first | exact Or.inl rfl | exact Or.inr rfl)) pgs_nil)))) (fun _ _ _ _ _ => pts_nil) (fun _ _ _ _ _ => (pe_tup (pa_cons (pv 2) (pa_cons (pe_fn D_unmarked_cells hr (by decide) rfl (pa_cons (pv 3) (pa_cons (pv 1) pa_nil))) pa_nil)))))))))), ?_⟩
  by_cases f1 : f = "cells"
  · subst f1
    have d1 : decide (V.str "cells" = V.str "cells") = true := by decide +kernel
    refine ⟨_, rfl, e_flat rfl ⟨_, rfl, ?_⟩⟩
    rw [d1]
    refine iteT ⟨_, rfl, b, rfl, ⟨_, sq⟩, fun D hD => ?_⟩
    refine lc_dd (K := K) (f2 := liD) (h := opL (one "cells")) hD sq dA (by omega) nl_li ?_ ?_
    · intro i x l H' C hx hl g1 dl hC
      have ol := ok.l l (List.mem_of_getElem? hl)
      obtain ⟨b1, a1, ys, rfl, q1, q2, dA1⟩ := dd_li dl
      have c1 := ol.c1
      refine ⟨b1, _, rfl, q1, rfl, _, _, rfl, _, _, rfl, rfl, rfl, ?_⟩
      refine ⟨_, rfl, _, rfl, .ref a1, l.2, rfl, .tup q2 dA1, ol.c, (fun z => by rw [z] at c1; exact absurd c1 (by decide)), ol.c12, ol.g, fun p2 H2 g2 d2 => ?_⟩
      refine ⟨sl (by show 1 ≤ 3000; decide), fun p8 hp8 => ?_⟩
      refine newH hp8 fun H8 g8 s8 => ?_
      refine ⟨sl (by show 2 ≤ 3000; decide), fun p9 hp9 => ?_⟩
      refine newH hp9 fun H9 g9 s9 => ?_
      refine hC _ _ ((g2.trans g8).trans g9) ?_
      rw [opL_cells]
      exact .tup (SqT.of s9) (.cons (.int _) (.cons (.tup (SqT.of (g9.tup s8)) (.cons ((g8.trans g9).dd _ _ d2) .nil)) .nil))
    · intro H' ys g1 hL hE
      refine ⟨.inl ⟨D, _, rfl, SqL.of hL, fun p hp => ?_⟩⟩
      refine newH hp fun H1 g2 s1 => ?_
      exact k p H1 (g1.trans g2) (.tup (SqT.of s1) (g2.ddA _ _ hE))
  have d1 : decide (V.str f = V.str "cells") = false := decide_eq_false fun z => f1 (V.str.inj z)
  refine ⟨_, rfl, e_flat rfl ⟨_, rfl, ?_⟩⟩
  rw [d1]
  refine iteF ?_
  by_cases f2 : f = "nest"
  · subst f2
    have d2 : decide (V.str "nest" = V.str "nest") = true := by decide +kernel
    refine ⟨_, rfl, e_flat rfl ⟨_, rfl, ?_⟩⟩
    rw [d2]
    refine iteT ⟨_, rfl, b, rfl, ⟨_, sq⟩, fun D hD => ?_⟩
    refine lc_dd (K := K) (f2 := liD) (h := opL (one "nest")) hD sq dA (by omega) nl_li ?_ ?_
    · intro i x l H' C hx hl g1 dl hC
      obtain ⟨b1, a1, ys, rfl, q1, q2, dA1⟩ := dd_li dl
      refine ⟨b1, _, rfl, q1, rfl, _, _, rfl, _, _, rfl, rfl, rfl, ?_⟩
      refine ⟨_, rfl, sl (by show 2 ≤ 3000; decide), fun p9 hp9 => ?_⟩
      refine newH hp9 fun H9 g9 s9 => ?_
      refine hC _ _ g9 ?_
      rw [opL_nest]
      exact .tup (SqT.of s9) (.cons (.int _) (.cons (g9.dd _ _ (.tup q2 dA1)) .nil))
    · intro H' ys g1 hL hE
      refine ⟨.inl ⟨D, _, rfl, SqL.of hL, fun p hp => ?_⟩⟩
      refine newH hp fun H1 g2 s1 => ?_
      exact k p H1 (g1.trans g2) (.tup (SqT.of s1) (g2.ddA _ _ hE))
  have d2 : decide (V.str f = V.str "nest") = false := decide_eq_false fun z => f2 (V.str.inj z)
  have f3 : f ∈ three := by
    simp only [five, List.mem_cons, List.not_mem_nil, or_false] at hf
    rcases hf with h | h | h | h | h
    · exact absurd h f1
    · exact absurd h f2
    · rw [h]; simp [three]
    · rw [h]; simp [three]
    · rw [h]; simp [three]
  refine ⟨_, rfl, e_flat rfl ⟨_, rfl, ?_⟩⟩
  rw [d2]
  refine iteF ⟨_, rfl, b, rfl, ⟨_, sq⟩, fun D hD => ?_⟩
  refine lc_dd (K := K) (f2 := liD) (h := opL (one f)) hD sq dA (by omega) nl_li ?_ ?_
  · intro i x l H' C hx hl g1 dl hC
    have ol := ok.l l (List.mem_of_getElem? hl)
    obtain ⟨b1, a1, ys, rfl, q1, q2, dA1⟩ := dd_li dl
    refine ⟨b1, _, rfl, q1, rfl, _, _, rfl, _, _, rfl, rfl, rfl, ?_⟩
    refine ⟨_, rfl, _, rfl, _, rfl, .ref a1, f, l.2, rfl, f3, .tup q2 dA1, (fun xs hx => ⟨ol.c xs hx, Nat.le_trans (gl_ge hx) ol.g⟩), ol.c12, fun p2 H2 g2 d2 => ?_⟩
    refine ⟨sl (by show 2 ≤ 3000; decide), fun p9 hp9 => ?_⟩
    refine newH hp9 fun H9 g9 s9 => ?_
    refine hC _ _ (g2.trans g9) ?_
    rw [opL_three f3]
    exact .tup (SqT.of s9) (.cons (.int _) (.cons (g9.dd _ _ d2) .nil))
  · intro H' ys g1 hL hE
    refine ⟨.inl ⟨D, _, rfl, SqL.of hL, fun p hp => ?_⟩⟩
    refine newH hp fun H1 g2 s1 => ?_
    exact k p H1 (g1.trans g2) (.tup (SqT.of s1) (g2.ddA _ _ hE))
end
end Vf
end
section
set_option Elab.async false
set_option linter.all false
set_option maxRecDepth 100000
set_option maxHeartbeats 4000000
namespace Vf
open PySem PySem.Spec PyProof.Rows L2 GxR GenW RZ
abbrev s__law_keeping : Stmt := top 67
abbrev n__law_keeping : List Str := ["content", "features", "feature"]
abbrev p__law_keeping : List Str := ["content", "features"]
theorem sc__law_keeping : FnScope n__law_keeping p__law_keeping (defScope s__law_keeping) := ⟨rfl, rfl, rfl, by decide +kernel, rfl, by decide +kernel, by decide +kernel⟩

abbrev s__law_dropped : Stmt := top 66
abbrev n__law_dropped : List Str := ["content", "feature", "found", "depth", "cells", "parts", "cell", "place", "bare", "rows", "text", "marks"]
abbrev p__law_dropped : List Str := ["content", "feature"]
theorem sc__law_dropped : FnScope n__law_dropped p__law_dropped (defScope s__law_dropped) := ⟨rfl, rfl, rfl, by decide +kernel, rfl, by decide +kernel, by decide +kernel⟩

def keepS (L fs : List Str) : Drp := fun g => decide (g ∈ L) && !decide (g ∈ fs)
theorem keep_step {L fs : List Str} {f : Str} (h : f ∉ fs) (m : Fm) : op (one f) (op (keepS L fs) m) = op (keepS (L ++ [f]) fs) m := by
  rw [op_op]
  refine op_congr (fun g _ => ?_) m
  unfold orD one keepS
  by_cases e : g = f
  · subst e
    simp [h]
  · simp [e]
theorem keep_skip {L fs : List Str} {f : Str} (h : f ∈ fs) (m : Fm) : op (keepS L fs) m = op (keepS (L ++ [f]) fs) m := by
  refine op_congr (fun g _ => ?_) m
  unfold keepS
  by_cases e : g = f
  · subst e
    simp [h]
  · simp [e]
theorem keep_nil (fs : List Str) (m : Fm) : op (keepS [] fs) m = m := by
  rw [show keepS [] fs = none5 from by funext g; simp [keepS, none5], op_none]
def keepM (fs : List Str) (m : Fm) : Fm := op (keepS five fs) m
theorem keep_any {L : List Str} (h : ∀ f, f ∈ L ↔ f ∈ five) (fs : List Str) (m : Fm) : op (keepS L fs) m = keepM fs m := by
  refine op_congr (fun g _ => ?_) m
  unfold keepS
  rw [decide_eq_decide.mpr (h g)]
def spKeep (K : PySem.W.Frag) : Sp := fun vs H Q _ => ∃ (v : V) (a : Addr) (fs : List Str) (m : Fm), vs = [v, .ref a] ∧ SqT K H a (strV fs) ∧ Dd K H v (coD m) ∧ OkF m ∧ ∀ v' H', Gr H H' → Dd K H' v' (coD (keepM fs m)) → Q v' H'
def other5 : List Str := ["slant", "link", "cells", "bold", "nest"]
theorem other_five (f : Str) : f ∈ other5 ↔ f ∈ five := by
  simp only [other5, five, List.mem_cons, List.not_mem_nil, or_false]
  constructor
  · rintro (h | h | h | h | h) <;> simp [h]
  · rintro (h | h | h | h | h) <;> simp [h]
theorem strV_get {l : List Str} {i : Nat} {x : V} (h : (strV l)[i]? = some x) : ∃ f, l[i]? = some f ∧ x = .str f := by
  unfold strV at h
  rw [List.getElem?_map] at h
  cases e : l[i]? with
  | none => rw [e] at h; cases h
  | some f =>
    rw [e] at h
    cases h
    exact ⟨f, rfl, rfl⟩
theorem strV_flat (l : List Str) : (strV l).all flatV = true := flat_strs l
section
variable {P : Program} {w : World} {K : PySem.W.Frag} {mg : Str → Option Value} {base : Heap}
theorem ok_keep {fd : FuncData} (F : FnP K "keep" s_keep fd) (T : TD K mg) (D_drop : Df P w K mg base "drop" 4 p_drop (spDrop K)) : FnOk P w K mg base CX0 5 (He.fAd K ("keep", none)) fd p_keep (spKeep K) := by
  obtain ⟨aF, m_FEATURES, sF⟩ := T.c_FEATURES
  refine okP F sc_keep (fun vs H Q E h => by obtain ⟨v, a, fs, m, rfl, _⟩ := h; rfl) (fun A outer s H vs Q E hr h => ?_)
  obtain ⟨v, a, fs, m, rfl, hf, hd, ok, k⟩ := h
  refine ⟨_, (pss_cons (ps_set (i := 2) sc_keep.nd rfl (by first | exact Or.inl rfl | exact Or.inr rfl) (pv 0))
      (pss_cons (ps_for PassesOwn.never rfl (k_tup (K := K) rfl (pe_ref rfl m_FEATURES)) (pg_name (i := 3) sc_keep.nd rfl (by first | exact Or.inl rfl | exact Or.inr rfl))
      (pss_one (ps_if (pt_cmpR (u_ni (K := K) rfl) (pv 3) (pv 1) (by first | exact nomark _ | rfl))
      (pss_one (ps_set (i := 2) sc_keep.nd rfl (by first | exact Or.inl rfl | exact Or.inr rfl) (pe_fn D_drop hr (by decide) rfl (pa_cons (pv 2) (pa_cons (pv 3) pa_nil)))))
      pss_nil)))
      (pss_one (ps_ret (pv 2))))), ?_⟩
  refine ⟨_, rfl, aF, rfl, ⟨_, sF _⟩, ?_⟩
  refine for_tup (K := K) (a := aF) (xs := strV five) (fun i σ H' => ∃ (v' : V) (o3 : Option V), σ = [some v, some (.ref a), some v', o3] ∧ Gr H H' ∧ Dd K H' v' (coD (op (keepS (five.take i) fs) m)))
    ⟨v, none, rfl, Gr.refl _, by rw [List.take_zero, keep_nil]; exact hd⟩ (fun i σ H' _ _ => sF _) ?_ ?_
  · rintro i x σ H' hx ⟨v', o3, rfl, g, d⟩
    obtain ⟨f, hfi, rfl⟩ := strV_get hx
    refine ⟨_, rfl, _, rfl, ni_seq (.inr (g.seqT hf)) rfl (strV_flat _) ⟨_, rfl, ?_⟩⟩
    by_cases hin : f ∈ fs
    · rw [inV_str.mpr hin]
      refine iteF ⟨_, _, rfl, g, ?_⟩
      rw [take_snoc hfi, ← keep_skip hin]
      exact d
    · have e : inV (.str f) (strV fs) = false := Bool.eq_false_iff.mpr fun z => hin (inV_str.mp z)
      rw [e]
      refine iteT ⟨_, rfl, _, rfl, v', f, _, rfl, List.mem_of_getElem? hfi, d, ok.op _, fun p H2 g2 d2 => ?_⟩
      refine ⟨_, _, rfl, g.trans g2, ?_⟩
      rw [take_snoc hfi, ← keep_step hin]
      exact d2
  · rintro σ H' ⟨v', o3, rfl, g, d⟩
    exact ⟨_, rfl, k v' H' g d⟩
theorem ok_lkeep {fd : FuncData} (F : FnP K "_law_keeping" s__law_keeping fd) (T : TD K mg) (D__law_dropped : Df P w K mg base "_law_dropped" 2 p__law_dropped (spDrop K)) : FnOk P w K mg base CX0 3 (He.fAd K ("_law_keeping", none)) fd p__law_keeping (spKeep K) := by
  refine okP F sc__law_keeping (fun vs H Q E h => by obtain ⟨v, a, fs, m, rfl, _⟩ := h; rfl) (fun A outer s H vs Q E hr h => ?_)
  obtain ⟨v, a, fs, m, rfl, hf, hd, ok, k⟩ := h
  refine ⟨_, (pss_cons (ps_for PassesOwn.never rfl (k_tup (K := K) rfl (pe_tup (pa_cons pe_str (pa_cons pe_str (pa_cons pe_str (pa_cons pe_str (pa_cons pe_str pa_nil))))))) (pg_name (i := 2) sc__law_keeping.nd rfl (by first | exact Or.inl rfl | exact Or.inr rfl))
      (pss_one (ps_if (pt_cmpR (u_ni (K := K) rfl) (pv 2) (pv 1) (by first | exact nomark _ | rfl))
      (pss_one (ps_set (i := 0) sc__law_keeping.nd rfl (by first | exact Or.inl rfl | exact Or.inr rfl) (pe_fn D__law_dropped hr (by decide) rfl (pa_cons (pv 0) (pa_cons (pv 2) pa_nil)))))
      pss_nil)))
      (pss_one (ps_ret (pv 0)))), ?_⟩
  refine ⟨by show 5 ≤ sizeLine; rw [sizeLine_eq]; decide, fun p0 hp0 => ?_⟩
  refine newH hp0 fun H0 g0 s0 => ?_
  refine ⟨p0, rfl, ⟨_, SqT.of s0⟩, ?_⟩
  refine for_tup (K := K) (a := p0) (xs := strV other5) (fun i σ H' => ∃ (v' : V) (o3 : Option V), σ = [some v', some (.ref a), o3] ∧ Gr H0 H' ∧ Dd K H' v' (coD (op (keepS (other5.take i) fs) m)))
    ⟨v, none, rfl, Gr.refl _, by rw [List.take_zero, keep_nil]; exact g0.dd _ _ hd⟩ (fun i σ H' _ ⟨_, _, _, g, _⟩ => SqT.of (g.tup s0)) ?_ ?_
  · rintro i x σ H' hx ⟨v', o3, rfl, g, d⟩
    obtain ⟨f, hfi, rfl⟩ := strV_get hx
    refine ⟨_, rfl, _, rfl, ni_seq (.inr ((g0.trans g).seqT hf)) rfl (strV_flat _) ⟨_, rfl, ?_⟩⟩
    by_cases hin : f ∈ fs
    · rw [inV_str.mpr hin]
      refine iteF ⟨_, _, rfl, g, ?_⟩
      rw [take_snoc hfi, ← keep_skip hin]
      exact d
    · have e : inV (.str f) (strV fs) = false := Bool.eq_false_iff.mpr fun z => hin (inV_str.mp z)
      rw [e]
      refine iteT ⟨_, rfl, _, rfl, v', f, _, rfl, (other_five f).mp (List.mem_of_getElem? hfi), d, ok.op _, fun p H2 g2 d2 => ?_⟩
      refine ⟨_, _, rfl, g.trans g2, ?_⟩
      rw [take_snoc hfi, ← keep_step hin]
      exact d2
  · rintro σ H' ⟨v', o3, rfl, g, d⟩
    refine ⟨_, rfl, k v' H' (g0.trans g) ?_⟩
    rw [← keep_any other_five]
    exact d
end
end Vf
end
section
set_option Elab.async false
set_option linter.all false
set_option maxRecDepth 100000
set_option maxHeartbeats 4000000
namespace Vf
open PySem PySem.Spec PyProof.Rows L2 GxR GenW RZ
abbrev s__law_joined : Stmt := top 62
abbrev n__law_joined : List Str := ["parts", "found", "text", "marks"]
abbrev p__law_joined : List Str := ["parts"]
theorem sc__law_joined : FnScope n__law_joined p__law_joined (defScope s__law_joined) := ⟨rfl, rfl, rfl, by decide +kernel, rfl, by decide +kernel, by decide +kernel⟩

theorem sl_any {K : PySem.W.Frag} {H : Hp} {Q : VK} {a : Addr} {xs : List V} {lo hi : Option Int} (h : SqT K H a xs) (q : ∀ p H', Gr H H' → SqT K H' p (cutV xs lo hi) → Q (.ref p) H') : rSlU K (.ref a) lo hi H Q := by
  refine sl_t h (fun z => ?_) (fun _ p hp => ?_)
  · have e : cutV xs lo hi = xs := by
      unfold cutV
      rw [z.1, z.2]
      simp
    exact q a H (Gr.refl H) (by rw [e]; exact h)
  · exact newH hp fun H1 g1 s1 => q p H1 g1 (SqT.of s1)
theorem a_tA {K : PySem.W.Frag} {H : Hp} {Q : VK} {a b : Addr} {xs ys : List V} (h1 : SqT K H a xs) (h2 : SqT K H b ys) (h : xs.length + ys.length ≤ sizeLine) (q : ∀ p H', Gr H H' → SqT K H' p (xs ++ ys) → Q (.ref p) H') : rAdd K (.ref a) (.ref b) H Q := by
  refine a_tt h1 h2 h (fun z => ?_) (fun _ z => ?_) (fun _ _ p hp => ?_)
  · subst z
    exact q b H (Gr.refl H) h2
  · subst z
    rw [List.append_nil] at q
    exact q a H (Gr.refl H) h1
  · exact newH hp fun H1 g1 s1 => q p H1 g1 (SqT.of s1)
/-- mark j of a text's marks, cleared -/
def bareV (j : Nat) : V := match j with
  | 0 => .str ""
  | 1 => .bl false
  | _ => .bl false
def mkV (m : Mk3) : List V := [.str m.1, .bl m.2.1, .bl m.2.2]
theorem three_ix {f : Str} (h : f ∈ three) : ∃ j : Nat, j < 3 ∧ three[j]? = some f ∧ (∀ n, n < j → three[n]? ≠ some f) ∧ atI [V.str "", V.bl false, V.bl false] (j : Int) = some (bareV j) ∧
    ∀ m : Mk3, (cutV (mkV m) none (some (j : Int)) ++ [bareV j]) ++ cutV (mkV m) (some ((j : Int) + 1)) none = mkV (um (one f) m) := by
  simp only [three, List.mem_cons, List.not_mem_nil, or_false] at h
  rcases h with rfl | rfl | rfl
  · refine ⟨0, by decide, rfl, (fun n hn => absurd hn (Nat.not_lt_zero _)), rfl, fun m => ?_⟩
    rw [um_link]; rfl
  · refine ⟨1, by decide, rfl, ?_, rfl, fun m => ?_⟩
    · intro n hn
      have e : n = 0 := by omega
      subst e
      decide +kernel
    · rw [um_bold]; rfl
  · refine ⟨2, by decide, rfl, ?_, rfl, fun m => ?_⟩
    · intro n hn
      rcases (show n = 0 ∨ n = 1 by omega) with rfl | rfl <;> decide +kernel
    · rw [um_slant]; rfl
theorem dd_mkV {K : PySem.W.Frag} {H : Hp} {p : Addr} {m : Mk3} (h : SqT K H p (mkV m)) : Dd K H (.ref p) (mkD m) := .tup h (.cons (.str _) (.cons (.bl _) (.cons (.bl _) .nil)))
section
variable {P : Program} {w : World} {K : PySem.W.Frag} {mg : Str → Option Value} {base : Heap}
theorem ok_joined {fd : FuncData} (F : FnP K "_law_joined" s__law_joined fd) (T : TD K mg) : FnOk P w K mg base CX0 1 (He.fAd K ("_law_joined", none)) fd p__law_joined (spMerged K) := by
  refine okP F sc__law_joined (fun vs H Q E h => by obtain ⟨a, xs, ps, rfl, _⟩ := h; rfl) (fun A outer s H vs Q E hr h => ?_)
  obtain ⟨a, xs, ps, rfl, hL, hA, hp, hz, k⟩ := h
  have hl : xs.length = ps.length := by rw [ddA_len hA, List.length_map]
  have hpl := pcs_len hp
  refine ⟨_, (pss_cons (ps_set (i := 1) sc__law_joined.nd rfl (by first | exact Or.inl rfl | exact Or.inr rfl) (pe_lst pa_nil))
      (pss_cons (ps_for PassesOwn.never rfl (k_list (K := K) rfl (pv 0)) (kg_tup 2 (K := K) rfl rfl (pgs_cons (pg_name (i := 2) sc__law_joined.nd rfl (by first | exact Or.inl rfl | exact Or.inr rfl)) (pgs_cons (pg_name (i := 3) sc__law_joined.nd rfl (by first | exact Or.inl rfl | exact Or.inr rfl)) pgs_nil)))
      (pss_one (ps_if (PW.pt (pw_and (pt_cmpR (u_neW (K := K) rfl hr.units) (pv 2) pe_str (nomark _)) (pw_and (pt_cmpR (u_neW (K := K) rfl hr.units) (pv 1) (pe_lst pa_nil) (nomark _)) (pw_and1 (pt_cmpR (u_eqW (K := K) rfl hr.units) (pe_ix (u_ix (K := K) rfl) (pe_ix (u_ix (K := K) rfl) (pv 1) (pe_un un_neg pe_int) (fun _ _ => rfl)) pe_int (fun _ _ => rfl)) (pv 3) (nomark _))))))
      (pss_one (ps_asg (pe_tup (pa_cons (pe_op (u_add (K := K) rfl) (pe_ix (u_ix (K := K) rfl) (pe_ix (u_ix (K := K) rfl) (pv 1) (pe_un un_neg pe_int) (fun _ _ => rfl)) pe_int (fun _ _ => rfl)) (pv 2)) (pa_cons (pv 3) pa_nil))) (pg_sub (pv 1) (pe_un un_neg pe_int) set_list)))
      (pss_one (ps_if (pt_cmpR (u_neW (K := K) rfl hr.units) (pv 2) pe_str (nomark _))
      (pss_one (ps_expr (k_bm (K := K) rfl PySem.F.plainAttrs_list PySem.F.slot_list_append PySem.F.type_list_append mt_append (pv 1) (pa_cons (pe_tup (pa_cons (pv 2) (pa_cons (pv 3) pa_nil))) pa_nil))))
      pss_nil)))))
      (pss_one (ps_ret (k_tuple (K := K) rfl rfl T.b_tuple (pv 1)))))), ?_⟩
  refine ⟨Nat.zero_le _, fun D hD => ?_⟩
  have aD : a ≠ D := ne_of_none hL hD
  refine ⟨_, rfl, a, rfl, ⟨_, SqL.of (by rw [upd_ne aD]; exact hL)⟩, ?_⟩
  refine for_list (K := K) (a := a) (xs := xs) (fun i σ H' => ∃ (o2 o3 : Option V) (ys : List V), σ = [some (.ref a), some (.ref D), o2, o3] ∧ Gr H H' ∧ H' D = some (.lst ys) ∧ DdAll K H' ys (((ps.take i).foldl putp []).map pcD))
    ⟨none, none, [], rfl, Gr.new hD, upd_same, .nil⟩ ?_ ?_ ?_
  · rintro i σ H' _ ⟨o2, o3, ys, rfl, g, _⟩
    exact SqL.of (g.lst hL)
  · rintro i x σ H' hx ⟨o2, o3, ys, rfl, g, hLd, hE⟩
    obtain ⟨p, hpi, dp⟩ := ddA_map hA hx
    have hpm := List.mem_of_getElem? hpi
    have il := (List.getElem?_eq_some_iff.mp hpi).1
    obtain ⟨b, w1, rfl, q1, dm⟩ := dd_pc (g.dd _ _ dp)
    have e1 : (ps.take (i + 1)).foldl putp [] = putp ((ps.take i).foldl putp []) p := by rw [take_snoc hpi, List.foldl_append]; rfl
    have ec : (ps.take i).foldl putp [] = cn (fl (ps.take i)) := jn_cn fun q hq => (hp q (List.mem_of_mem_take hq)).1
    have lp := pc_len hpm
    have ft := fl_take ps i
    generalize hC : (ps.take i).foldl putp [] = C at hE e1 ec
    have mkC : ∀ q ∈ C, q.2.1 ∈ LK4 := by
      intro q hq
      rw [ec] at hq
      obtain ⟨c, hc⟩ := cn_mk hq
      obtain ⟨r, hr, z⟩ := List.mem_flatMap.mp hc
      obtain ⟨c2, _, z⟩ := List.mem_map.mp z
      have z2 : r.2 = q.2 := congrArg (fun y : Ch => y.2) z
      rw [← z2]
      exact (hp r (List.mem_of_mem_take hr)).2
    have lC : ∀ q ∈ C, q.1.length ≤ 1000 := by
      intro q hq
      have := pc_len hq
      rw [ec, fl_cn] at this
      omega
    have lC2 : C.length ≤ 1000 := by
      rw [ec]
      have := pcs_len (ps := cn (fl (ps.take i))) fun q hq => ⟨cn_ne _ q hq, mkC q (by rw [ec]; exact hq)⟩
      rw [fl_cn] at this
      omega
    have sl : ∀ {n : Nat}, n ≤ 3000 → n ≤ sizeLine := fun h => by rw [sizeLine_eq]; omega
    have yl : ys.length = C.length := by rw [ddA_len hE, List.length_map]
    have ne0 : (!decide (V.str p.1 = V.str "")) = true := by
      have : ¬ V.str p.1 = V.str "" := fun z => (hp p hpm).1 (by rw [V.str.inj z]; decide +kernel)
      simp [this]
    refine ⟨b, _, rfl, q1, rfl, _, _, rfl, _, _, rfl, rfl, ?_⟩
    refine ⟨_, rfl, wn_flat rfl ⟨_, rfl, ?_⟩⟩
    rw [ne0]
    refine iteT ⟨_, rfl, Nat.zero_le _, fun l2 hl2 => ?_⟩
    refine newH hl2 fun H2 g2 s2 => ?_
    have hL2 := g2.lst hLd
    have hE2 := g2.ddA _ _ hE
    have dm2 := g2.dd _ _ dm
    have w1dp : Dp K H2 w1 (mkD p.2) := (cl_mk (hp p hpm).2).dp dm2
    have w1sh : SeqAt.shaped (mkD p.2) = true := (cl_mk (hp p hpm).2).shaped (by decide)
    refine wn_nil (SqL.of hL2) (SqL.of s2) ⟨_, rfl, ?_⟩
    rcases snoc_cases C with rfl | ⟨C0, q0, rfl⟩
    · cases hE
      refine iteF (iteF ?_)
      refine ⟨_, rfl, wn_flat rfl ⟨_, rfl, ?_⟩⟩
      rw [ne0]
      refine iteT ⟨_, rfl, .inl ⟨rfl, _, SqL.of hL2⟩, _, rfl, _, rfl, sl (by show 2 ≤ 3000; decide), fun p9 hp9 => ?_⟩
      refine newH hp9 fun H9 g9 s9 => ?_
      refine ⟨D, _, .ref p9, rfl, rfl, g9.lst hL2, sl (by show 0 < 3000; decide), ?_⟩
      have g10 := GrN.upd (ys := ([] : List V) ++ [.ref p9]) (g9.lst hL2)
      refine ⟨_, _, [] ++ [.ref p9], rfl, ((g.trans g2).trans g9).upd' hD, upd_same, ?_⟩
      rw [e1, putp_nil]
      exact .cons (g10.dd _ _ (nl_pc p) (.tup (SqT.of s9) (.cons (.str _) (.cons (g9.dd _ _ dm2) .nil)))) .nil
    obtain ⟨ys0, y1, rfl⟩ : ∃ ys0 y1, ys = ys0 ++ [y1] := by
      rcases snoc_cases ys with rfl | h
      · rw [List.length_append] at yl
        simp at yl
      · exact h
    rw [List.map_append] at hE2
    obtain ⟨es, e, he, hE0, dd1⟩ := ddA_last hE2
    obtain ⟨rfl, he2⟩ := List.append_inj' he rfl
    cases he2
    obtain ⟨b1, w2, rfl, r1, dm1⟩ := dd_pc dd1
    have mq := mkC q0 (by simp)
    have lq := lC q0 (by simp)
    have e0 : (!decide (ys0 ++ [V.ref b1] = [])) = true := by simp
    rw [e0]
    refine iteT ?_
    refine ⟨_, rfl, _, rfl, x_l (SqL.of hL2) atI_last (x_t r1 rfl ⟨_, rfl, we_data ((cl_mk mq).dp dm1) w1dp ((cl_mk mq).shaped (by decide)) w1sh ⟨_, rfl, ite2 (fun h3 => ?_) (fun h3 => ?_)⟩⟩)⟩
    · have e2 : q0.2 = p.2 := mk_eqv h3
      refine ⟨_, rfl, _, rfl, x_l (SqL.of hL2) atI_last (x_t r1 rfl ⟨_, rfl, a_ss (sl (by omega)) ⟨_, rfl, sl (by show 2 ≤ 3000; decide), fun p9 hp9 => ?_⟩⟩)⟩
      refine newH hp9 fun H9 g9 s9 => ?_
      refine ⟨_, rfl, _, rfl, D, _, -1, _, rfl, rfl, g9.lst hL2, ixN_last, ?_⟩
      rw [set_last]
      have g10 := GrN.upd (ys := ys0 ++ [.ref p9]) (g9.lst hL2)
      refine ⟨_, _, ys0 ++ [.ref p9], rfl, ((g.trans g2).trans g9).upd' hD, upd_same, ?_⟩
      rw [e1, putp_snoc, if_pos e2, List.map_append]
      exact ddA_app (g10.ddA _ _ (nl_pcs _) (g9.ddA _ _ hE0)) (.cons (g10.dd _ _ rfl (.tup (SqT.of s9) (.cons (.str _) (.cons (g9.dd _ _ dm2) .nil)))) .nil)
    · have e2 : ¬ q0.2 = p.2 := fun z => h3 (by rw [z]; exact eqv_refl _ (cl_mk (hp p hpm).2).lay)
      refine ⟨_, rfl, wn_flat rfl ⟨_, rfl, ?_⟩⟩
      rw [ne0]
      refine iteT ⟨_, rfl, .inl ⟨rfl, _, SqL.of hL2⟩, _, rfl, _, rfl, sl (by show 2 ≤ 3000; decide), fun p9 hp9 => ?_⟩
      refine newH hp9 fun H9 g9 s9 => ?_
      refine ⟨D, _, .ref p9, rfl, rfl, g9.lst hL2, by rw [sizeLine_eq]; omega, ?_⟩
      have g10 := GrN.upd (ys := (ys0 ++ [V.ref b1]) ++ [.ref p9]) (g9.lst hL2)
      refine ⟨_, _, (ys0 ++ [V.ref b1]) ++ [.ref p9], rfl, ((g.trans g2).trans g9).upd' hD, upd_same, ?_⟩
      rw [e1, putp_snoc, if_neg e2, List.map_append, List.map_append]
      exact ddA_app (g10.ddA _ _ (noLstA_cl fun d hd => by
        rcases List.mem_append.mp hd with z | z
        · obtain ⟨q, _, rfl⟩ := List.mem_map.mp z
          rfl
        · obtain ⟨q, _, rfl⟩ := List.mem_map.mp z
          rfl) (g9.ddA _ _ hE2)) (.cons (g10.dd _ _ rfl (.tup (SqT.of s9) (.cons (.str _) (.cons (g9.dd _ _ dm2) .nil)))) .nil)
  · rintro σ H' ⟨o2, o3, ys, rfl, g, hLd, hE⟩
    rw [hl, List.take_length, jn_cn fun p hp2 => (hp p hp2).1] at hE
    refine ⟨_, rfl, ⟨.inl ⟨D, _, rfl, SqL.of hLd, fun p hp => ?_⟩⟩⟩
    refine newH hp fun H1 g1 s1 => ?_
    exact k p H1 (g.trans g1) (.tup (SqT.of s1) (g1.ddA _ _ hE))
theorem ok_ldrop {fd : FuncData} (F : FnP K "_law_dropped" s__law_dropped fd) (T : TD K mg) (D__law_joined : Df P w K mg base "_law_joined" 1 p__law_joined (spMerged K)) : FnOk P w K mg base CX0 2 (He.fAd K ("_law_dropped", none)) fd p__law_dropped (spDrop K) := by
  refine okP F sc__law_dropped (fun vs H Q E h => by obtain ⟨v, f, m, rfl, _⟩ := h; rfl) (fun A outer s H vs Q E hr h => ?_)
  obtain ⟨v, f, m, rfl, hf, hd, ok, k⟩ := h
  obtain ⟨b, xs, rfl, sq, dA⟩ := dd_tup hd
  have sl : ∀ {n : Nat}, n ≤ 3000 → n ≤ sizeLine := fun h => by rw [sizeLine_eq]; omega
  have hm2 := ok.l2
  have xl : xs.length = m.length := by rw [ddA_len dA, List.length_map]
  refine ⟨_, (pss_cons (ps_set (i := 2) sc__law_dropped.nd rfl (by first | exact Or.inl rfl | exact Or.inr rfl) (pe_lst pa_nil))
      (pss_cons (ps_for PassesOwn.never rfl (k_tup (K := K) rfl (pv 0)) (kg_tup 2 (K := K) rfl rfl (pgs_cons (pg_name (i := 3) sc__law_dropped.nd rfl (by first | exact Or.inl rfl | exact Or.inr rfl)) (pgs_cons (pg_name (i := 4) sc__law_dropped.nd rfl (by first | exact Or.inl rfl | exact Or.inr rfl)) pgs_nil)))
      (C8.pss_cut (ps_if (pt_cmpR (u_eqW (K := K) rfl hr.units) (pv 1) pe_str (nomark _))
      (pss_cons (ps_set (i := 5) sc__law_dropped.nd rfl (by first | exact Or.inl rfl | exact Or.inr rfl) (pe_callTy (call_listU (K := K) rfl rfl) rfl T.b_list (by decide +kernel) (pa_cons (pe_ix (u_ix (K := K) rfl) (pv 4) pe_int (fun _ _ => rfl)) pa_nil)))
      (pss_cons (ps_for PassesOwn.never rfl (k_tup (K := K) rfl (pe_slice (u_sl (K := K) rfl) (pv 4) (po_some pe_int) po_none)) (pg_name (i := 6) sc__law_dropped.nd rfl (by first | exact Or.inl rfl | exact Or.inr rfl))
      (pss_one (ps_set (i := 5) sc__law_dropped.nd rfl (by first | exact Or.inl rfl | exact Or.inr rfl) (pe_op (u_add (K := K) rfl) (pe_op (u_add (K := K) rfl) (pv 5) (pe_lst (pa_cons (pe_tup (pa_cons pe_str (pa_cons (pe_tup (pa_cons pe_str (pa_cons pe_bl (pa_cons pe_bl pa_nil)))) pa_nil))) pa_nil))) (pe_callTy (call_listU (K := K) rfl rfl) rfl T.b_list (by decide +kernel) (pa_cons (pv 6) pa_nil))))))
      (pss_one (ps_set (i := 4) sc__law_dropped.nd rfl (by first | exact Or.inl rfl | exact Or.inr rfl) (pe_tup (pa_cons (pe_fn D__law_joined hr (by decide) rfl (pa_cons (pv 5) pa_nil)) pa_nil))))))
      (pss_one (ps_if (pt_cmpR (u_eqW (K := K) rfl hr.units) (pv 1) pe_str (nomark _))
      (pss_one (ps_set (i := 3) sc__law_dropped.nd rfl (by first | exact Or.inl rfl | exact Or.inr rfl) pe_int))
      (pss_cons (ps_set (i := 7) sc__law_dropped.nd rfl (by first | exact Or.inl rfl | exact Or.inr rfl) (pe_tupIx (K := K) rfl (pa_cons pe_str (pa_cons pe_str (pa_cons pe_str pa_nil))) (pa_cons (pv 1) pa_nil)))
      (pss_cons (ps_set (i := 8) sc__law_dropped.nd rfl (by first | exact Or.inl rfl | exact Or.inr rfl) (pe_ix (u_ix (K := K) rfl) (pe_tup (pa_cons pe_str (pa_cons pe_bl (pa_cons pe_bl pa_nil)))) (pv 7) (fun _ _ => rfl)))
      (pss_cons (ps_set (i := 9) sc__law_dropped.nd rfl (by first | exact Or.inl rfl | exact Or.inr rfl) (pe_lst pa_nil))
      (pss_cons (ps_for PassesOwn.never rfl (k_tup (K := K) rfl (pv 4)) (pg_name (i := 6) sc__law_dropped.nd rfl (by first | exact Or.inl rfl | exact Or.inr rfl))
      (pss_cons (ps_setLc (i := 5) (own := [("text", 10), ("marks", 11)])  (tt := tYes) rfl sc__law_dropped.nd rfl rfl (sw_true rfl rfl rfl (by decide +kernel)) (k_tup (K := K) rfl (pv 6)) (blkOk_by (own := [("text", 10), ("marks", 11)]) (N := n__law_dropped) (sc := defScope s__law_dropped) (by decide +kernel)) (fun _ _ _ _ _ => (kg_tup 2 (K := K) rfl rfl (pgs_cons (pg_name (i := 10) sc__law_dropped.nd rfl (by first | exact Or.inl rfl | exact Or.inr rfl)) (pgs_cons (pg_name (i := 11) sc__law_dropped.nd rfl (by first | exact Or.inl rfl | exact Or.inr rfl)) pgs_nil)))) (fun _ _ _ _ _ => pts_nil) (fun _ _ _ _ _ => (pe_tup (pa_cons (pv 10) (pa_cons (pe_op (u_add (K := K) rfl) (pe_op (u_add (K := K) rfl) (pe_slice (u_sl (K := K) rfl) (pv 11) po_none (po_some (pv 7))) (pe_tup (pa_cons (pv 8) pa_nil))) (pe_slice (u_sl (K := K) rfl) (pv 11) (po_some (pe_op (u_add (K := K) rfl) (pv 7) pe_int)) po_none)) pa_nil)))))
      (pss_one (ps_expr (k_bm (K := K) rfl PySem.F.plainAttrs_list PySem.F.slot_list_append PySem.F.type_list_append mt_append (pv 9) (pa_cons (pe_fn D__law_joined hr (by decide) rfl (pa_cons (pv 5) pa_nil)) pa_nil))))))
      (pss_one (ps_set (i := 4) sc__law_dropped.nd rfl (by first | exact Or.inl rfl | exact Or.inr rfl) (k_tuple (K := K) rfl rfl T.b_tuple (pv 9)))))))))))
      (pss_one (ps_expr (k_bm (K := K) rfl PySem.F.plainAttrs_list PySem.F.slot_list_append PySem.F.type_list_append mt_append (pv 2) (pa_cons (pe_tup (pa_cons (pv 3) (pa_cons (pv 4) pa_nil))) pa_nil))))))
      (pss_one (ps_ret (k_tuple (K := K) rfl rfl T.b_tuple (pv 2)))))), ?_⟩
  refine ⟨Nat.zero_le _, fun D hD => ?_⟩
  refine newH hD fun H0 g0 s0 => ?_
  refine ⟨_, rfl, b, rfl, ⟨_, g0.seqT sq⟩, ?_⟩
  refine for_tup (K := K) (a := b) (xs := xs) (fun i σ H' => ∃ (o3 o4 o5 o6 o7 o8 o9 : Option V) (ys : List V), σ = [some (.ref b), some (.str f), some (.ref D), o3, o4, o5, o6, o7, o8, o9, none, none] ∧ Gr H H' ∧ H' D = some (.lst ys) ∧ DdAll K H' ys ((op (one f) (m.take i)).map liD))
    ⟨none, none, none, none, none, none, none, [], rfl, g0, s0, .nil⟩ ?_ ?_ ?_
  · rintro i σ H' _ ⟨o3, o4, o5, o6, o7, o8, o9, ys, rfl, g, _⟩
    exact g.seqT sq
  · rintro i x σ H' hx ⟨o3, o4, o5, o6, o7, o8, o9, ys, rfl, g, hL, hE⟩
    obtain ⟨l, hli, dl⟩ := ddA_map (g.ddA _ _ dA) hx
    have ol := ok.l l (List.mem_of_getElem? hli)
    have il := (List.getElem?_eq_some_iff.mp hli).1
    obtain ⟨b1, a1, zs, rfl, q1, q2, dA1⟩ := dd_li dl
    have yl : ys.length = i := by
      have q := ddA_len hE
      unfold op at q
      rw [List.length_map, List.length_map, List.length_take] at q
      omega
    refine ⟨b1, _, rfl, q1, rfl, _, _, rfl, _, _, rfl, rfl, ?_⟩
    refine ⟨fun σ2 H2 => ∃ (p5 p6 p7 p8 p9 : Option V) (a2 : Addr), σ2 = [some (.ref b), some (.str f), some (.ref D), some (.int ((opL (one f) l).1 : Nat)), some (.ref a2), p5, p6, p7, p8, p9, none, none] ∧ Gr H' H2 ∧ Dd K H2 (.ref a2) (.tuple ((opL (one f) l).2.map ceD)), ?_, ?_⟩
    · by_cases f1 : f = "cells"
      · subst f1
        have dd1 : decide (V.str "cells" = V.str "cells") = true := by decide +kernel
        refine ⟨_, rfl, we_flat rfl ⟨_, rfl, ?_⟩⟩
        rw [dd1]
        refine iteT ?_
        have c1 := ol.c1
        obtain ⟨ld, lcs⟩ := l
        cases lcs with
        | nil => exact absurd c1 (by show ¬ 1 ≤ 0; decide)
        | cons c0 r =>
        cases zs with
        | nil => cases dA1
        | cons x0 rest =>
        have dA' : DdAll K H' (x0 :: rest) (ceD c0 :: r.map ceD) := dA1
        cases dA' with
        | cons d0 dR =>
        obtain ⟨b0, ys0, rfl, sq0, dA0⟩ := dd_tup d0
        have rl : rest.length = r.length := by rw [ddA_len dR, List.length_map]
        have og : (gl (c0 :: r)).length ≤ 491 := ol.g
        have oc : ∀ xs ∈ c0 :: r, OkC xs := ol.c
        refine ⟨_, rfl, x_t q2 atI_zero (lsU_q (.inr sq0) fun D5 hD5 => ?_)⟩
        refine newH hD5 fun H1 g1 s1 => ?_
        refine ⟨_, rfl, _, rfl, sl_t1 (g1.seqT q2) fun p1 H2 g2 sq2 => ?_⟩
        have g02 := g1.trans g2
        refine ⟨p1, rfl, ⟨_, sq2⟩, ?_⟩
        refine for_tup (K := K) (a := p1) (xs := rest) (fun i σ H3 => ∃ (o6 : Option V) (q5 : Addr) (ys : List V), σ = [some (.ref b), some (.str "cells"), some (.ref D), some (.int (ld : Nat)), some (.ref a1), some (.ref q5), o6, o7, o8, o9, none, none] ∧ Gr H' H3 ∧ SqT K H3 p1 rest ∧ H3 q5 = some (.lst ys) ∧ DdAll K H3 ys ((joinP c0 (r.take i)).map pcD))
          ⟨_, D5, ys0, rfl, g02, sq2, g2.lst s1, by unfold joinP; rw [List.take_zero, List.flatMap_nil, List.append_nil]; exact g02.ddA _ _ dA0⟩ ?_ ?_ ?_
        · rintro i σ H3 _ ⟨o6, q5, ys, rfl, g, sq, _⟩
          exact sq
        · rintro i x σ H3 hx ⟨o6, q5, ys, rfl, g3, sq3, hL3, hE3⟩
          obtain ⟨d, hd, dd⟩ := ddA_map (g3.ddA _ _ dR) hx
          obtain ⟨b2, zs, rfl, sqz, dz⟩ := dd_tup dd
          have jo : ∀ xs ∈ c0 :: r.take (i + 1), OkC xs := fun xs hx => oc xs (by
            rcases List.mem_cons.mp hx with rfl | hx
            · exact List.mem_cons_self
            · exact List.mem_cons_of_mem _ (List.mem_of_mem_take hx))
          have l1 := pcs_len (joinP_ok jo)
          rw [fl_joinP] at l1
          have l2 := gl_take c0 r (i + 1)
          have e1 : joinP c0 (r.take (i + 1)) = joinP c0 (r.take i) ++ [SP] ++ cn d := by rw [take_snoc hd, joinP_snoc]
          have l3 : ys.length + 1 + zs.length ≤ 491 := by
            have q1 := ddA_len hE3
            have q2 := ddA_len dz
            rw [List.length_map] at q1 q2
            rw [e1, List.length_append, List.length_append, List.length_singleton] at l1
            omega
          refine ⟨_, rfl, sl (by show 3 ≤ 3000; decide), fun p6 hp6 => ?_⟩
          refine newH hp6 fun H6 g6 s6 => ?_
          refine ⟨sl (by show 2 ≤ 3000; decide), fun p7 hp7 => ?_⟩
          refine newH hp7 fun H7 g7 s7 => ?_
          refine ⟨sl (by show 1 ≤ 3000; decide), fun p8 hp8 => ?_⟩
          refine newH hp8 fun H8 g8 s8 => ?_
          have g38 := (g6.trans g7).trans g8
          refine a_ll (g38.lst hL3) s8 (sl (by show ys.length + 1 ≤ 3000; omega)) fun p9 hp9 => ?_
          refine newH hp9 fun H9 g9 s9 => ?_
          have g39 := g38.trans g9
          refine ⟨_, rfl, lsU_q (.inr (g39.seqT sqz)) fun p10 hp10 => ?_⟩
          refine newH hp10 fun H10 g10 s10 => ?_
          refine a_ll (g10.lst s9) s10 (sl (by rw [List.length_append, List.length_singleton]; omega)) fun p11 hp11 => ?_
          refine newH hp11 fun H11 g11 s11 => ?_
          have g311 := (g39.trans g10).trans g11
          have n1 : Dd K H11 (.ref p7) (pcD SP) := .tup (SqT.of ((((g8.trans g9).trans g10).trans g11).tup s7)) (.cons (.str _) (.cons (.tup (SqT.of (((((g7.trans g8).trans g9).trans g10).trans g11).tup s6)) (.cons (.str _) (.cons (.bl _) (.cons (.bl _) .nil)))) .nil))
          refine ⟨_, p11, _, rfl, g3.trans g311, g311.seqT sq3, s11, ?_⟩
          rw [e1, List.map_append, List.map_append]
          exact ddA_app (ddA_app (g311.ddA _ _ hE3) (.cons n1 .nil)) (g311.ddA _ _ dz)
        · rintro σ H3 ⟨o6, q5, ys, rfl, g3, sq3, hL3, hE3⟩
          rw [rl, List.take_length] at hE3
          refine ⟨_, rfl, q5, ys, joinP c0 r, rfl, hL3, hE3, joinP_ok oc, by rw [fl_joinP]; omega, fun p H4 g4 d4 => ?_⟩
          rw [fl_joinP] at d4
          refine ⟨sl (by show 1 ≤ 3000; decide), fun p5 hp5 => ?_⟩
          refine newH hp5 fun H5 g5 s5 => ?_
          rw [opL_cells]
          exact ⟨_, _, _, _, _, p5, rfl, (g3.trans g4).trans g5, .tup (SqT.of s5) (.cons (g5.dd _ _ d4) .nil)⟩
      have dd1 : decide (V.str f = V.str "cells") = false := decide_eq_false fun z => f1 (V.str.inj z)
      refine ⟨_, rfl, we_flat rfl ⟨_, rfl, ?_⟩⟩
      rw [dd1]
      refine iteF ?_
      by_cases f2 : f = "nest"
      · subst f2
        have dd2 : decide (V.str "nest" = V.str "nest") = true := by decide +kernel
        refine ⟨_, rfl, we_flat rfl ⟨_, rfl, ?_⟩⟩
        rw [dd2]
        refine iteT ?_
        rw [opL_nest]
        exact ⟨_, _, _, _, _, a1, rfl, Gr.refl _, .tup q2 dA1⟩
      have dd2 : decide (V.str f = V.str "nest") = false := decide_eq_false fun z => f2 (V.str.inj z)
      have f3 : f ∈ three := by
        simp only [five, List.mem_cons, List.not_mem_nil, or_false] at hf
        rcases hf with h | h | h | h | h
        · exact absurd h f1
        · exact absurd h f2
        · rw [h]; simp [three]
        · rw [h]; simp [three]
        · rw [h]; simp [three]
      refine ⟨_, rfl, we_flat rfl ⟨_, rfl, ?_⟩⟩
      rw [dd2]
      refine iteF ?_
      obtain ⟨j, hj, j1, j2, j3, j4⟩ := three_ix f3
      refine ⟨sl (by show 3 ≤ 3000; decide), fun p1 hp1 => ?_⟩
      refine newH hp1 fun H1 g1 s1 => ?_
      refine ⟨_, rfl, p1, three, f, j, rfl, rfl, SqT.of s1, j1, j2, ?_⟩
      refine ⟨sl (by show 3 ≤ 3000; decide), fun p2 hp2 => ?_⟩
      refine newH hp2 fun H2 g2 s2 => ?_
      refine ⟨_, rfl, x_t (SqT.of s2) j3 ⟨Nat.zero_le _, fun D9 hD9 => ?_⟩⟩
      refine newH hD9 fun H3 g3 s3 => ?_
      have g03 := (g1.trans g2).trans g3
      have zl : zs.length = l.2.length := by rw [ddA_len dA1, List.length_map]
      have oc12 := ol.c12
      refine ⟨_, rfl, a1, rfl, ⟨_, g03.seqT q2⟩, ?_⟩
      refine for_tup (K := K) (a := a1) (xs := zs) (fun i σ H4 => ∃ (o5 o6 : Option V) (ys : List V), σ = [some (.ref b), some (.str f), some (.ref D), some (.int (l.1 : Nat)), some (.ref a1), o5, o6, some (.int (j : Nat)), some (bareV j), some (.ref D9), none, none] ∧ Gr H' H4 ∧ H4 D9 = some (.lst ys) ∧ DdAll K H4 ys (((l.2.take i).map (umC (one f))).map ceD))
        ⟨_, _, [], rfl, g03, s3, .nil⟩ ?_ ?_ ?_
      · rintro i σ H4 _ ⟨o5, o6, ys, rfl, g, _⟩
        exact g.seqT q2
      · rintro i2 x σ H4 hx2 ⟨o5, o6, ys2, rfl, g4, hL4, hE4⟩
        obtain ⟨c, hc, dc⟩ := ddA_map (g4.ddA _ _ dA1) hx2
        have cm := ol.c c (List.mem_of_getElem? hc)
        have cl := Nat.le_trans (gl_ge (List.mem_of_getElem? hc)) ol.g
        have ic := (List.getElem?_eq_some_iff.mp hc).1
        obtain ⟨b2, ws, rfl, sqz, dz⟩ := dd_tup dc
        have okp : ∀ p ∈ cn c, OkP p := fun p hp => ⟨cn_ne c p hp, cm.mk hp⟩
        have cl2 : (cn c).length ≤ 491 := by
          have := pcs_len okp
          rw [fl_cn] at this
          omega
        have yl2 : ys2.length = i2 := by
          have q := ddA_len hE4
          rw [List.length_map, List.length_map, List.length_take] at q
          omega
        refine ⟨_, rfl, b2, rfl, ⟨_, sqz⟩, fun D5 hD5 => ?_⟩
        refine lc_dd (K := K) (f2 := pcD) (h := fun p => (p.1, um (one f) p.2)) hD5 sqz dz (by omega) nl_pc ?_ ?_
        · intro i3 x p H5 C hx hp g5 dp hC
          obtain ⟨b3, w3, rfl, q3, dm⟩ := dd_pc dp
          obtain ⟨b4, rfl, q4⟩ := dd_mk dm
          refine ⟨b3, _, rfl, q3, rfl, _, _, rfl, _, _, rfl, rfl, rfl, ?_⟩
          refine ⟨_, rfl, _, rfl, _, rfl, _, rfl, sl_any q4 fun p6 H6 g6 s6 => ?_⟩
          refine ⟨_, rfl, sl (by show 1 ≤ 3000; decide), fun p7 hp7 => ?_⟩
          refine newH hp7 fun H7 g7 s7 => ?_
          refine a_tA (g7.seqT s6) (SqT.of s7) (sl ?_) fun p8 H8 g8 s8 => ?_
          · have := cut_len (mkV p.2) none (some (j : Int))
            show (cutV (mkV p.2) none (some (j : Int))).length + 1 ≤ 3000
            have e3 : (mkV p.2).length = 3 := rfl
            omega
          have g68 := (g6.trans g7).trans g8
          refine ⟨_, rfl, _, rfl, a_ii ⟨_, rfl, sl_any (g68.seqT q4) fun p9 H9 g9 s9 => ?_⟩⟩
          refine a_tA (g9.seqT s8) s9 (sl ?_) fun p10 H10 g10 s10 => ?_
          · have h1 := cut_len (mkV p.2) none (some (j : Int))
            have h2 := cut_len (mkV p.2) (some ((j : Int) + 1)) none
            have e3 : (mkV p.2).length = 3 := rfl
            rw [List.length_append]
            show _ + 1 + (cutV (mkV p.2) (some ((j : Int) + 1)) none).length ≤ 3000
            have h3 : (cutV (mkV p.2) none (some (j : Int))).length ≤ 3 := by omega
            show (cutV (mkV p.2) none (some (j : Int))).length + 1 + _ ≤ 3000
            omega
          refine ⟨sl (by show 2 ≤ 3000; decide), fun p11 hp11 => ?_⟩
          refine newH hp11 fun H11 g11 s11 => ?_
          have e10 : SqT K H10 p10 (mkV (um (one f) p.2)) := by rw [← j4 p.2]; exact s10
          exact hC _ _ (((g68.trans g9).trans g10).trans g11) (.tup (SqT.of s11) (.cons (.str _) (.cons (g11.dd _ _ (dd_mkV e10)) .nil)))
        · intro H5 ys5 g5 hL5 hE5
          refine ⟨_, rfl, .inl ⟨rfl, _, SqL.of (g5.lst hL4)⟩, _, rfl, D5, ys5, (cn c).map fun p => (p.1, um (one f) p.2), rfl, hL5, hE5, ?_, ?_, ?_⟩
          · intro q hq
            obtain ⟨p, hp, rfl⟩ := List.mem_map.mp hq
            exact ⟨(okp p hp).1, um_LK _ (okp p hp).2⟩
          · rw [fl_um, fl_cn, umC_len]
            omega
          · intro p H6 g6 d6
            rw [fl_um, fl_cn] at d6
            refine ⟨D9, _, .ref p, rfl, rfl, (g5.trans g6).lst hL4, sl (by omega), ?_⟩
            have g10 := GrN.upd (ys := ys2 ++ [.ref p]) ((g5.trans g6).lst hL4)
            refine ⟨_, _, ys2 ++ [.ref p], rfl, ((g4.trans g5).trans g6).upd' ?_, upd_same, ?_⟩
            · exact (g1.trans g2).free hD9
            · rw [take_snoc hc, List.map_append, List.map_append]
              exact ddA_app (g10.ddA _ _ (nl_ces _) ((g5.trans g6).ddA _ _ hE4)) (.cons (g10.dd _ _ (nl_ce _) d6) .nil)
      · rintro σ H4 ⟨o5, o6, ys2, rfl, g4, hL4, hE4⟩
        rw [zl, List.take_length] at hE4
        refine ⟨_, rfl, ⟨.inl ⟨D9, _, rfl, SqL.of hL4, fun p hp => ?_⟩⟩⟩
        refine newH hp fun H5 g5 s5 => ?_
        rw [opL_three f3]
        exact ⟨_, _, _, _, _, p, rfl, g4.trans g5, .tup (SqT.of s5) (g5.ddA _ _ hE4)⟩
    · rintro σ2 H2 ⟨p5, p6, p7, p8, p9, a2, rfl, g2, d2⟩
      refine ⟨_, rfl, .inl ⟨rfl, _, SqL.of (g2.lst hL)⟩, _, rfl, _, rfl, sl (by show 2 ≤ 3000; decide), fun p10 hp10 => ?_⟩
      refine newH hp10 fun H3 g3 s3 => ?_
      refine ⟨D, _, .ref p10, rfl, rfl, (g2.trans g3).lst hL, sl (by omega), ?_⟩
      have g10 := GrN.upd (ys := ys ++ [.ref p10]) ((g2.trans g3).lst hL)
      refine ⟨_, _, _, _, _, _, _, ys ++ [.ref p10], rfl, ((g.trans g2).trans g3).upd' hD, upd_same, ?_⟩
      rw [take_snoc hli]
      unfold op
      rw [List.map_append, List.map_append]
      exact ddA_app (g10.ddA _ _ (nl_lis _) ((g2.trans g3).ddA _ _ hE)) (.cons (g10.dd _ _ (nl_li _) (dd_line s3 (g3.dd _ _ d2))) .nil)
  · rintro σ H' ⟨o3, o4, o5, o6, o7, o8, o9, ys, rfl, g, hL, hE⟩
    rw [xl, List.take_length] at hE
    refine ⟨_, rfl, ⟨.inl ⟨D, _, rfl, SqL.of hL, fun p hp => ?_⟩⟩⟩
    refine newH hp fun H1 g1 s1 => ?_
    exact k p H1 (g.trans g1) (.tup (SqT.of s1) (g1.ddA _ _ hE))
end
end Vf
end
section
set_option Elab.async false
set_option linter.all false
set_option maxRecDepth 100000
set_option maxHeartbeats 4000000
namespace Vf
open PySem PySem.Spec PyProof.Rows L2 GxR GenW RZ
abbrev s__law_some_text : Stmt := top 60
abbrev n__law_some_text : List Str := ["urn", "many", "signs", "turn"]
abbrev p__law_some_text : List Str := ["urn", "many", "signs"]
theorem sc__law_some_text : FnScope n__law_some_text p__law_some_text (defScope s__law_some_text) := ⟨rfl, rfl, rfl, by decide +kernel, rfl, by decide +kernel, by decide +kernel⟩

abbrev s__law_some_marks : Stmt := top 61
abbrev n__law_some_marks : List Str := ["urn", "link"]
abbrev p__law_some_marks : List Str := ["urn"]
theorem sc__law_some_marks : FnScope n__law_some_marks p__law_some_marks (defScope s__law_some_marks) := ⟨rfl, rfl, rfl, by decide +kernel, rfl, by decide +kernel, by decide +kernel⟩

abbrev s__law_some_cell : Stmt := top 63
abbrev n__law_some_cell : List Str := ["urn", "most", "signs", "parts", "left", "many"]
abbrev p__law_some_cell : List Str := ["urn", "most", "signs"]
theorem sc__law_some_cell : FnScope n__law_some_cell p__law_some_cell (defScope s__law_some_cell) := ⟨rfl, rfl, rfl, by decide +kernel, rfl, by decide +kernel, by decide +kernel⟩

abbrev s__law_some_line : Stmt := top 64
abbrev n__law_some_line : List Str := ["urn", "signs", "many", "most", "cell"]
abbrev p__law_some_line : List Str := ["urn", "signs"]
theorem sc__law_some_line : FnScope n__law_some_line p__law_some_line (defScope s__law_some_line) := ⟨rfl, rfl, rfl, by decide +kernel, rfl, by decide +kernel, by decide +kernel⟩

abbrev s__law_some_content : Stmt := top 65
abbrev n__law_some_content : List Str := ["urn", "signs", "line"]
abbrev p__law_some_content : List Str := ["urn", "signs"]
theorem sc__law_some_content : FnScope n__law_some_content p__law_some_content (defScope s__law_some_content) := ⟨rfl, rfl, rfl, by decide +kernel, rfl, by decide +kernel, by decide +kernel⟩

abbrev s__law_some_set : Stmt := top 69
abbrev n__law_some_set : List Str := ["urn", "feature"]
abbrev p__law_some_set : List Str := ["urn"]
theorem sc__law_some_set : FnScope n__law_some_set p__law_some_set (defScope s__law_some_set) := ⟨rfl, rfl, rfl, by decide +kernel, rfl, by decide +kernel, by decide +kernel⟩

/-! ### random contents -/
theorem cps_join : ∀ ys : List Str, cps (Str.join "" ys) = ys.flatMap cps
  | [] => by decide +kernel
  | [y] => by
    show cps y = cps y ++ []
    rw [List.append_nil]
  | y :: z :: zs => by
    have ih := cps_join (z :: zs)
    show cps (y ++ "" ++ Str.join "" (z :: zs)) = cps y ++ _
    rw [cps_app, cps_app, ih, show cps "" = [] by decide +kernel, List.append_nil]
    rfl
def OkSg (s : Str) : Prop := ∃ c, s = chS c ∧ 32 ≤ c ∧ c ≤ 126
theorem join_ok {ys : List Str} (h : ∀ y ∈ ys, OkSg y) : (cps (Txt.join "" ys)).length = ys.length ∧ ∀ c ∈ cps (Txt.join "" ys), 32 ≤ c ∧ c ≤ 126 := by
  have e : Txt.join "" ys = Str.join "" ys := StrLaws.glued_eq_join _ _
  rw [e, cps_join]
  constructor
  · clear e
    induction ys with
    | nil => rfl
    | cons y ys ih =>
      obtain ⟨c, rfl, _⟩ := h y List.mem_cons_self
      rw [List.flatMap_cons, List.length_append, ih fun z hz => h z (List.mem_cons_of_mem _ hz), List.length_cons]
      show 1 + ys.length = _
      omega
  · intro c hc
    obtain ⟨y, hy, hc⟩ := List.mem_flatMap.mp hc
    obtain ⟨d, rfl, h1, h2⟩ := h y hy
    have e2 : cps (chS d) = [d] := rfl
    rw [e2, List.mem_singleton] at hc
    rw [hc]; exact ⟨h1, h2⟩
/-- the signs that texts are drawn from -/
def Sgs (K : PySem.W.Frag) (H : Hp) (u sg : Addr) : Prop := sg ≠ u ∧ ∃ ss : List Str, SqL K H sg (strV ss) ∧ ss ≠ [] ∧ ss.length ≤ 1000 ∧ ∀ s ∈ ss, OkSg s
theorem Sgs.gr {K : PySem.W.Frag} {H H' : Hp} {u sg : Addr} (h : Sgs K H u sg) (g : GrU u H H') : Sgs K H' u sg := by
  obtain ⟨n, ss, h1, h2⟩ := h
  refine ⟨n, ss, ?_, h2⟩
  rcases h1 with (h1 | ⟨o, h1⟩) | h1
  · exact .inl (.inl (g.keep n h1 (fun _ z => by cases z)))
  · exact .inl (.inr ⟨o, g.keep n h1 (fun _ z => by cases z)⟩)
  · exact .inr h1
def LK : List Str := ["", "", "", "w", "w1", "abcdefghijk9"]
theorem LK_in : ∀ l ∈ LK, l ∈ LK4 := by
  intro l h
  simp only [LK, List.mem_cons, List.not_mem_nil, or_false] at h
  simp only [LK4, List.mem_cons, List.not_mem_nil, or_false]
  rcases h with h | h | h | h | h | h <;> simp [h]
def spText (K : PySem.W.Frag) : Sp := fun vs H Q _ => ∃ (u c sg : Addr) (n : Int), vs = [.ref u, .int n, .ref sg] ∧ Urn c H u ∧ Sgs K H u sg ∧ 0 ≤ n ∧ n ≤ 1000 ∧ ∀ (x : Str) H', (cps x).length = n.toNat → (∀ c ∈ cps x, 32 ≤ c ∧ c ≤ 126) → GrU u H H' → Urn c H' u → Q (.str x) H'
def spMarks (K : PySem.W.Frag) : Sp := fun vs H Q _ => ∃ (u c : Addr), vs = [.ref u] ∧ Urn c H u ∧ ∀ p (m : Mk3) H', m.1 ∈ LK4 → GrU u H H' → Urn c H' u → Dd K H' (.ref p) (mkD m) → Q (.ref p) H'
def spSCell (K : PySem.W.Frag) : Sp := fun vs H Q _ => ∃ (u c sg : Addr) (most : Int), vs = [.ref u, .int most, .ref sg] ∧ Urn c H u ∧ Sgs K H u sg ∧ 0 ≤ most ∧ most ≤ 60 ∧ ∀ p (xs : Fc) H', OkC xs → (xs.length : Int) ≤ most → GrU u H H' → Urn c H' u → Dd K H' (.ref p) (ceD xs) → Q (.ref p) H'
def spSLine (K : PySem.W.Frag) : Sp := fun vs H Q _ => ∃ (u c sg : Addr), vs = [.ref u, .ref sg] ∧ Urn c H u ∧ Sgs K H u sg ∧ ∀ p (l : Fln) H', OkLn l → GrU u H H' → Urn c H' u → Dd K H' (.ref p) (liD l) → Q (.ref p) H'
def spSContent (K : PySem.W.Frag) : Sp := fun vs H Q _ => ∃ (u c sg : Addr), vs = [.ref u, .ref sg] ∧ Urn c H u ∧ Sgs K H u sg ∧ ∀ p (m : Fm) H', OkF m → m.length ≤ 4 → GrU u H H' → Urn c H' u → Dd K H' (.ref p) (coD m) → Q (.ref p) H'
def spSomeSet (K : PySem.W.Frag) : Sp := fun vs H Q _ => ∃ (u c : Addr), vs = [.ref u] ∧ Urn c H u ∧ ∀ p (fs : List Str) H', (∀ t ∈ fs, t ∈ five) → GrU u H H' → Urn c H' u → SqT K H' p (strV fs) → Q (.ref p) H'
theorem fl_ok {ps : List Pc} (h : ∀ p ∈ ps, (∀ c ∈ cps p.1, 32 ≤ c ∧ c ≤ 126) ∧ p.2.1 ∈ LK4) : OkC (fl ps) := by
  intro x hx
  obtain ⟨p, hp, hx⟩ := List.mem_flatMap.mp hx
  obtain ⟨c, hc, rfl⟩ := List.mem_map.mp hx
  exact ⟨((h p hp).1 c hc).1, ((h p hp).1 c hc).2, (h p hp).2⟩
section
variable {P : Program} {w : World} {K : PySem.W.Frag} {mg : Str → Option Value} {base : Heap}
theorem ok_text {fd : FuncData} (F : FnP K "_law_some_text" s__law_some_text fd) (T : TD K mg) (D__law_choice : Df P w K mg base "_law_choice" 3 p__law_choice (spChoice K)) : FnOk P w K mg base CX0 4 (He.fAd K ("_law_some_text", none)) fd p__law_some_text (spText K) := by
  refine okP F sc__law_some_text (fun vs H Q E h => by obtain ⟨u, c, sg, n, rfl, _⟩ := h; rfl) (fun A outer s H vs Q E hr h => ?_)
  obtain ⟨u, c, sg, n, rfl, hu, hs, hn0, hn, k⟩ := h
  obtain ⟨m, rfl⟩ := Int.eq_ofNat_of_zero_le hn0
  refine ⟨_, (pss_one (ps_ret (k_join (K := K) rfl pe_str (pe_lc (own := [("turn", 3)]) (g := gName 3) (tt := tYes) rfl sc__law_some_text.nd (pi_range1 rfl T.b_range (pa_cons (pv 1) pa_nil)) (blkOk_by (own := [("turn", 3)]) (N := n__law_some_text) (sc := defScope s__law_some_text) (by decide +kernel)) (fun _ _ _ _ _ => (pg_name (i := 3) sc__law_some_text.nd rfl (by first | exact Or.inl rfl | exact Or.inr rfl))) (fun _ _ _ _ _ => pts_nil) (fun _ _ _ _ _ => (pe_fn D__law_choice hr (by decide) rfl (pa_cons (pv 0) (pa_cons (pv 2) pa_nil)))))))), ?_⟩
  refine ⟨⟨_, rfl⟩, _, rfl, m, rfl, by omega, by omega, fun D hD => ?_⟩
  have Du := hu.ou hD
  have Dc := hu.oc hD
  rw [Int.toNat_natCast]
  refine lc_range (lo := 0) (n := m) (fun i H' => ∃ ys : List Str, ys.length = i ∧ (∀ y ∈ ys, OkSg y) ∧ GrU u H H' ∧ Urn c H' u ∧ H' D = some (.lst (strV ys))) ⟨[], rfl, by simp, gruD (GrU.refl _ _) hD, hu.gr (Gr.new hD), upd_same⟩ ?_ ?_
  · rintro i H' hi ⟨ys, hl, hy, g, hu', hL⟩
    obtain ⟨sn, ss, h1, h2, h3, h4⟩ := hs.gr g
    refine ⟨rfl, ?_⟩
    refine ⟨_, rfl, _, rfl, u, c, sg, _, rfl, hu', sn, .inl h1, fun z => h2 (List.map_eq_nil_iff.mp z), by unfold strV; rw [List.length_map]; omega, fun x H2 hx g2 hu2 => ?_⟩
    obtain ⟨t, ht, rfl⟩ := List.mem_map.mp hx
    refine ⟨_, g2.keep Du hL (fun _ z => by cases z), by unfold strV; rw [List.length_map, hl, sizeLine_eq]; omega, ys ++ [t], by rw [List.length_append, hl]; rfl, ?_, gruD (g.trans g2) hD, hu2.updD Du Dc, ?_⟩
    · intro y hy2
      rcases List.mem_append.mp hy2 with z | z
      · exact hy y z
      · rw [List.mem_singleton] at z
        exact z ▸ h4 t ht
    · rw [upd_same]
      unfold strV
      rw [List.map_append]; rfl
  · rintro H' ⟨ys, hl, hy, g, hu', hL⟩
    obtain ⟨j1, j2⟩ := join_ok hy
    refine ⟨"", D, ys, rfl, rfl, .inl (SqL.of hL), ?_, k _ _ (by rw [j1, hl]; rfl) j2 g hu'⟩
    have e : (ys.map (·.length)).sum ≤ ys.length * 1 := by
      clear hL hl j1 j2
      induction ys with
      | nil => exact Nat.le_refl _
      | cons y ys ih =>
        obtain ⟨d, rfl, _⟩ := hy y List.mem_cons_self
        have := ih fun z hz => hy z (List.mem_cons_of_mem _ hz)
        have e1 : (chS d).length = 1 := rfl
        simp only [List.map_cons, List.sum_cons, List.length_cons]
        omega
    have q3 : ("" : Str).length = 0 := rfl
    rw [q3]
    omega
theorem ok_lmarks {fd : FuncData} (F : FnP K "_law_some_marks" s__law_some_marks fd) (T : TD K mg) (D__law_choice : Df P w K mg base "_law_choice" 3 p__law_choice (spChoice K)) (D__law_upto : Df P w K mg base "_law_upto" 2 p__law_upto spUpto) : FnOk P w K mg base CX0 4 (He.fAd K ("_law_some_marks", none)) fd p__law_some_marks (spMarks K) := by
  refine okP F sc__law_some_marks (fun vs H Q E h => by obtain ⟨u, c, rfl, _⟩ := h; rfl) (fun A outer s H vs Q E hr h => ?_)
  obtain ⟨u, c, rfl, hu, k⟩ := h
  refine ⟨_, (pss_cons (ps_set (i := 1) sc__law_some_marks.nd rfl (by first | exact Or.inl rfl | exact Or.inr rfl) (pe_fn D__law_choice hr (by decide) rfl (pa_cons (pv 0) (pa_cons (pe_lst (pa_cons pe_str (pa_cons pe_str (pa_cons pe_str (pa_cons pe_str (pa_cons pe_str (pa_cons pe_str pa_nil))))))) pa_nil))))
      (pss_one (ps_ret (pe_tup (pa_cons (pv 1) (pa_cons (pe_cmpR (u_eq (K := K) rfl hr.units) (pe_fn D__law_upto hr (by decide) rfl (pa_cons (pv 0) (pa_cons pe_int pa_nil))) pe_int (nomark _)) (pa_cons (pe_cmpR (u_eq (K := K) rfl hr.units) (pe_fn D__law_upto hr (by decide) rfl (pa_cons (pv 0) (pa_cons pe_int pa_nil))) pe_int (nomark _)) pa_nil))))))), ?_⟩
  refine ⟨_, rfl, by show 6 ≤ sizeLine; rw [sizeLine_eq]; decide, fun p1 hp1 => ?_⟩
  have n1 := hu.ou hp1
  refine newH hp1 fun H1 g1 s1 => ?_
  have hu1 := hu.gr g1
  refine ⟨u, c, p1, strV LK, rfl, hu1, n1, .inl (SqL.of s1), by decide, by decide, fun x H2 hx g2 hu2 => ?_⟩
  obtain ⟨l, hl, rfl⟩ := List.mem_map.mp hx
  refine ⟨_, rfl, _, rfl, u, c, 3, rfl, hu2, by decide, by decide, fun r1 H3 _ _ g3 hu3 => e_flat rfl ?_⟩
  refine ⟨_, rfl, u, c, 3, rfl, hu3, by decide, by decide, fun r2 H4 _ _ g4 hu4 => e_flat rfl ?_⟩
  refine ⟨by show 3 ≤ sizeLine; rw [sizeLine_eq]; decide, fun p hp => ?_⟩
  have G := ((g1.u.trans g2).trans g3).trans g4
  refine newH hp fun H5 g5 s5 => ?_
  exact k p (l, _, _) H5 (LK_in l hl) (G.trans g5.u) (hu4.gr g5) (.tup (SqT.of s5) (.cons (.str _) (.cons (.bl _) (.cons (.bl _) .nil))))
theorem ok_scell {fd : FuncData} (F : FnP K "_law_some_cell" s__law_some_cell fd) (T : TD K mg) (D__law_upto : Df P w K mg base "_law_upto" 2 p__law_upto spUpto) (D__law_some_text : Df P w K mg base "_law_some_text" 4 p__law_some_text (spText K)) (D__law_some_marks : Df P w K mg base "_law_some_marks" 4 p__law_some_marks (spMarks K)) (D__law_joined : Df P w K mg base "_law_joined" 1 p__law_joined (spMerged K)) : FnOk P w K mg base CX0 5 (He.fAd K ("_law_some_cell", none)) fd p__law_some_cell (spSCell K) := by
  refine okP F sc__law_some_cell (fun vs H Q E h => by obtain ⟨u, c, sg, most, rfl, _⟩ := h; rfl) (fun A outer s H vs Q E hr h => ?_)
  obtain ⟨u, c, sg, most, rfl, hu, hs, hm0, hm, k⟩ := h
  refine ⟨_, (pss_cons (ps_par (i := 3) (j := 4) (by rfl) sc__law_some_cell.nd rfl rfl (by decide) rfl rfl (pa_cons (pe_lst pa_nil) (pa_cons (pe_fn D__law_upto hr (by decide) rfl (pa_cons (pv 0) (pa_cons (pe_op (u_add (K := K) rfl) (pv 1) pe_int) pa_nil))) pa_nil)) (by rfl))
      (pss_cons (ps_while PassesOwn.never (pt_cmpR u_gt (pv 4) pe_int (nomark _))
      (pss_cons (ps_set (i := 5) sc__law_some_cell.nd rfl (by first | exact Or.inl rfl | exact Or.inr rfl) (pe_op (u_add (K := K) rfl) pe_int (pe_fn D__law_upto hr (by decide) rfl (pa_cons (pv 0) (pa_cons (pv 4) pa_nil)))))
      (pss_cons (ps_expr (k_bm (K := K) rfl PySem.F.plainAttrs_list PySem.F.slot_list_append PySem.F.type_list_append mt_append (pv 3) (pa_cons (pe_tup (pa_cons (pe_fn D__law_some_text hr (by decide) rfl (pa_cons (pv 0) (pa_cons (pv 5) (pa_cons (pv 2) pa_nil)))) (pa_cons (pe_fn D__law_some_marks hr (by decide) rfl (pa_cons (pv 0) pa_nil)) pa_nil))) pa_nil)))
      (pss_one (ps_set (i := 4) sc__law_some_cell.nd rfl (by first | exact Or.inl rfl | exact Or.inr rfl) (pe_op u_sub (pv 4) (pv 5)))))))
      (pss_one (ps_ret (pe_fn D__law_joined hr (by decide) rfl (pa_cons (pv 3) pa_nil)))))), ?_⟩
  refine ⟨Nat.zero_le _, fun D hD => ?_⟩
  have Du := hu.ou hD
  have Dc := hu.oc hD
  refine newH hD fun H1 g1 s1 => ?_
  have hu1 := hu.gr g1
  refine ⟨_, rfl, _, rfl, a_ii ⟨u, c, _, rfl, hu1, by omega, by omega, fun r H2 h0 hr1 g2 hu2 => ?_⟩⟩
  refine ⟨_, _, rfl, ?_⟩
  have s2 := g2.keep Du s1 (fun _ z => by cases z)
  refine while_by (fun σ H' => ∃ (left : Int) (o5 : Option V) (xs : List V) (ps : List Pc), σ = [some (.ref u), some (.int most), some (.ref sg), some (.ref D), some (.int left), o5] ∧ 0 ≤ left ∧ left ≤ 60 ∧ GrU u H H' ∧ Urn c H' u ∧ H' D = some (.lst xs) ∧ DdAll K H' xs (ps.map pcD) ∧ (∀ p ∈ ps, cps p.1 ≠ [] ∧ (∀ c ∈ cps p.1, 32 ≤ c ∧ c ≤ 126) ∧ p.2.1 ∈ LK4) ∧ ((fl ps).length : Int) + left ≤ most)
    (fun σ _ => match σ with | [_, _, _, _, some (.int l), _] => l.toNat | _ => 0) ⟨r, none, [], [], rfl, h0, by omega, g1.u.trans g2, hu2, s2, .nil, by simp, by show (0 : Int) + r ≤ most; omega⟩ ?_ ?_
  · rintro σ H' ⟨left, o5, xs, ps, rfl, hl0, hl6, g, hu', hL, hA, hp, hz⟩
    have okp : ∀ p ∈ ps, OkP p := fun p h => ⟨(hp p h).1, (hp p h).2.2⟩
    have pl := pcs_len okp
    have xl : xs.length = ps.length := by rw [ddA_len hA, List.length_map]
    refine ⟨_, rfl, gt_ii ⟨_, rfl, ite2 (fun h1 => ?_) (fun h1 => ?_)⟩⟩
    · have h1 : 0 < left := of_decide_eq_true h1
      refine ⟨_, rfl, _, rfl, u, c, left, rfl, hu', h1, by omega, fun m H3 hm0 hml g3 hu3 => a_ii ?_⟩
      have hs3 := hs.gr (g.trans g3)
      have hL3 := g3.keep Du hL (fun _ z => by cases z)
      refine ⟨_, rfl, .inl ⟨rfl, _, SqL.of hL3⟩, _, rfl, _, rfl, _, rfl, u, c, sg, 1 + m, rfl, hu3, hs3, by omega, by omega, fun x H4 hx hxc g4 hu4 => ?_⟩
      refine ⟨_, rfl, u, c, rfl, hu4, fun p5 mk H5 hmk g5 hu5 dd5 => ?_⟩
      refine ⟨by show 2 ≤ sizeLine; rw [sizeLine_eq]; decide, fun pt hpt => ?_⟩
      refine newH hpt fun H6 g6 s6 => ?_
      have hu6 := hu5.gr g6
      have hL6 := g6.lst (g5.keep Du (g4.keep Du hL3 (fun _ z => by cases z)) (fun _ z => by cases z))
      have gn : GrN H' H6 := (((g3.n hu').trans (g4.n hu3)).trans (g5.n hu4)).trans g6.n
      have gup := GrN.upd (ys := xs ++ [.ref pt]) hL6
      have dpt : Dd K (upd H6 D (.lst (xs ++ [.ref pt]))) (.ref pt) (pcD (x, mk)) :=
        gup.dd _ _ rfl (.tup (SqT.of s6) (.cons (.str _) (.cons (g6.dd _ _ dd5) .nil)))
      have e1 : (1 + m).toNat = 1 + m.toNat := by omega
      rw [e1] at hx
      have ef : (fl (ps ++ [(x, mk)])).length = (fl ps).length + (1 + m.toNat) := by rw [fl_app, List.length_append, fl_one, List.length_map, hx]
      refine ⟨D, xs, .ref pt, rfl, rfl, hL6, by rw [xl, sizeLine_eq]; omega, ?_⟩
      refine ⟨_, rfl, _, rfl, sb_ii ?_⟩
      refine ⟨⟨left - (1 + m), _, xs ++ [.ref pt], ps ++ [(x, mk)], rfl, by omega, by omega, gruD ((((g.trans g3).trans g4).trans g5).trans g6.u) hD, hu6.updD Du Dc, upd_same, ?_, ?_, ?_⟩, ?_⟩
      · rw [List.map_append]
        exact ddA_app ((gn.trans gup).ddA _ _ (nl_pcs _) hA) (.cons dpt .nil)
      · intro p hp2
        rcases List.mem_append.mp hp2 with z | z
        · exact hp p z
        · rw [List.mem_singleton] at z
          rw [z]
          exact ⟨fun e => by rw [e] at hx; simp at hx; omega, hxc, hmk⟩
      · rw [ef]
        omega
      · show (left - (1 + m)).toNat < left.toNat
        omega
    · refine ⟨_, rfl, D, xs, ps, rfl, hL, hA, okp, by omega, fun p H3 g3 d3 => ?_⟩
      exact k p (fl ps) H3 (fl_ok fun p h => ⟨(hp p h).2.1, (hp p h).2.2⟩) (by omega) (g.trans g3.u) (hu'.gr g3) d3
  · intro σ H Q Q' hq h
    obtain ⟨v, e, ⟨i, j, e1, e2, b, e3, q⟩⟩ := h
    exact ⟨v, e, ⟨i, j, e1, e2, b, e3, hq _ _ q⟩⟩
end
end Vf
end
section
set_option Elab.async false
set_option linter.all false
set_option maxRecDepth 100000
set_option maxHeartbeats 4000000
namespace Vf
open PySem PySem.Spec PyProof.Rows L2 GxR GenW RZ
theorem rest_len {b : Nat} : ∀ {r : List Fc}, (∀ xs ∈ r, xs.length ≤ b) → (r.flatMap fun c => (32, NO) :: c).length ≤ r.length * (b + 1)
  | [], _ => Nat.zero_le _
  | c :: r, h => by
    have ih := rest_len fun q hq => h q (List.mem_cons_of_mem _ hq)
    have q := h c List.mem_cons_self
    rw [List.flatMap_cons, List.length_append, List.length_cons, List.length_cons, Nat.add_mul, Nat.one_mul]
    omega
theorem gl_len {b : Nat} {cs : List Fc} (h : ∀ xs ∈ cs, xs.length ≤ b) (hn : 1 ≤ cs.length) : (gl cs).length + 1 ≤ cs.length * (b + 1) := by
  cases cs with
  | nil => exact absurd hn (by decide)
  | cons c r =>
    have q := rest_len fun q hq => h q (List.mem_cons_of_mem _ hq)
    have q2 := h c List.mem_cons_self
    show (c ++ _).length + 1 ≤ (r.length + 1) * (b + 1)
    rw [List.length_append, Nat.add_mul, Nat.one_mul]
    omega
theorem ddA_cells {K : PySem.W.Frag} {H : Hp} {ys : List V} {v : V} {cs : List Fc} {c : Fc} (h : DdAll K H ys (cs.map ceD)) (hv : Dd K H v (ceD c)) : DdAll K H (ys ++ [v]) ((cs ++ [c]).map ceD) := by
  rw [List.map_append]
  exact ddA_app h (.cons hv .nil)
theorem ddA_lines {K : PySem.W.Frag} {H : Hp} {ys : List V} {v : V} {cs : List Fln} {c : Fln} (h : DdAll K H ys (cs.map liD)) (hv : Dd K H v (liD c)) : DdAll K H (ys ++ [v]) ((cs ++ [c]).map liD) := by
  rw [List.map_append]
  exact ddA_app h (.cons hv .nil)
section
variable {P : Program} {w : World} {K : PySem.W.Frag} {mg : Str → Option Value} {base : Heap}
theorem ok_sline {fd : FuncData} (F : FnP K "_law_some_line" s__law_some_line fd) (T : TD K mg) (D__law_choice : Df P w K mg base "_law_choice" 3 p__law_choice (spChoice K)) (D__law_some_cell : Df P w K mg base "_law_some_cell" 5 p__law_some_cell (spSCell K)) : FnOk P w K mg base CX0 6 (He.fAd K ("_law_some_line", none)) fd p__law_some_line (spSLine K) := by
  refine okP F sc__law_some_line (fun vs H Q E h => by obtain ⟨u, c, sg, rfl, _⟩ := h; rfl) (fun A outer s H vs Q E hr h => ?_)
  obtain ⟨u, c, sg, rfl, hu, hs, k⟩ := h
  refine ⟨_, (pss_cons (ps_set (i := 2) sc__law_some_line.nd rfl (by first | exact Or.inl rfl | exact Or.inr rfl) (pe_fn D__law_choice hr (by decide) rfl (pa_cons (pv 0) (pa_cons (pe_lst (pa_cons pe_int (pa_cons pe_int (pa_cons pe_int (pa_cons pe_int (pa_cons pe_int pa_nil)))))) pa_nil))))
      (pss_cons (ps_set (i := 3) sc__law_some_line.nd rfl (by first | exact Or.inl rfl | exact Or.inr rfl) (pe_fn D__law_choice hr (by decide) rfl (pa_cons (pv 0) (pa_cons (pe_lst (pa_cons pe_int (pa_cons pe_int (pa_cons (pe_ifExp (pt_cmpR u_gt (pv 2) pe_int (nomark _)) pe_int pe_int) pa_nil)))) pa_nil))))
      (pss_one (ps_ret (pe_tup (pa_cons (pe_fn D__law_choice hr (by decide) rfl (pa_cons (pv 0) (pa_cons (pe_lst (pa_cons pe_int (pa_cons pe_int (pa_cons pe_int (pa_cons pe_int (pa_cons pe_int pa_nil)))))) pa_nil))) (pa_cons (k_tuple (K := K) rfl rfl T.b_tuple (pe_lc (own := [("cell", 4)]) (g := gName 4) (tt := tYes) rfl sc__law_some_line.nd (pi_range1 rfl T.b_range (pa_cons (pv 2) pa_nil)) (blkOk_by (own := [("cell", 4)]) (N := n__law_some_line) (sc := defScope s__law_some_line) (by decide +kernel)) (fun _ _ _ _ _ => (pg_name (i := 4) sc__law_some_line.nd rfl (by first | exact Or.inl rfl | exact Or.inr rfl))) (fun _ _ _ _ _ => pts_nil) (fun _ _ _ _ _ => (pe_fn D__law_some_cell hr (by decide) rfl (pa_cons (pv 0) (pa_cons (pv 3) (pa_cons (pv 1) pa_nil))))))) pa_nil))))))), ?_⟩
  refine ⟨_, rfl, by show 5 ≤ sizeLine; rw [sizeLine_eq]; decide, fun p1 hp1 => ?_⟩
  have n1 := hu.ou hp1
  refine newH hp1 fun H1 g1 s1 => ?_
  have hu1 := hu.gr g1
  refine ⟨u, c, p1, [1, 1, 2, 3, 12].map V.int, rfl, hu1, n1, .inl (SqL.of s1), by decide, by decide, fun x H2 hx g2 hu2 => ?_⟩
  obtain ⟨many, hmany, rfl⟩ := List.mem_map.mp hx
  have hm : 1 ≤ many ∧ many ≤ 12 := by
    simp only [List.mem_cons, List.not_mem_nil, or_false] at hmany
    omega
  have G2 := g1.u.trans g2
  refine ⟨_, rfl, _, rfl, gt_ii ⟨_, rfl, ?_⟩⟩
  refine ite2 (fun h1 => ?_) (fun h1 => ?_)
  all_goals
    have h1x := h1
    refine ⟨by show 3 ≤ sizeLine; rw [sizeLine_eq]; decide, fun p3 hp3 => ?_⟩
    have n3 := hu2.ou hp3
    refine newH hp3 fun H3 g3 s3 => ?_
    have hu3 := hu2.gr g3
    first
      | refine ⟨u, c, p3, [3, 9, 40].map V.int, rfl, hu3, n3, .inl (SqL.of s3), by decide, by decide, fun y H4 hy g4 hu4 => ?_⟩
      | refine ⟨u, c, p3, [3, 9, 60].map V.int, rfl, hu3, n3, .inl (SqL.of s3), by decide, by decide, fun y H4 hy g4 hu4 => ?_⟩
    obtain ⟨most, hmost, rfl⟩ := List.mem_map.mp hy
    have hmo : 0 ≤ most ∧ most ≤ 60 := by
      simp only [List.mem_cons, List.not_mem_nil, or_false] at hmost
      omega
    have hmm : most ≤ 40 ∨ many = 1 := by
      simp only [List.mem_cons, List.not_mem_nil, or_false] at hmost
      simp only [decide_eq_true_eq] at h1x
      omega
    have G4 := (G2.trans g3.u).trans g4
    refine ⟨_, rfl, by show 5 ≤ sizeLine; rw [sizeLine_eq]; decide, fun p5 hp5 => ?_⟩
    have n5 := hu4.ou hp5
    refine newH hp5 fun H5 g5 s5 => ?_
    have hu5 := hu4.gr g5
    refine ⟨u, c, p5, [0, 0, 1, 2, 6].map V.int, rfl, hu5, n5, .inl (SqL.of s5), by decide, by decide, fun y6 H6 hy6 g6 hu6 => ?_⟩
    obtain ⟨dep, hdep, rfl⟩ := List.mem_map.mp hy6
    have hde : 0 ≤ dep ∧ dep ≤ 6 := by
      simp only [List.mem_cons, List.not_mem_nil, or_false] at hdep
      omega
    obtain ⟨dn, rfl⟩ := Int.eq_ofNat_of_zero_le hde.1
    have G6 := (G4.trans g5.u).trans g6
    obtain ⟨mn, rfl⟩ := Int.eq_ofNat_of_zero_le (show 0 ≤ many by omega)
    obtain ⟨mo, rfl⟩ := Int.eq_ofNat_of_zero_le hmo.1
    refine ⟨_, rfl, mn, rfl, by omega, by omega, fun D hD => ?_⟩
    rw [Int.toNat_natCast]
    have Du := hu6.ou hD
    have Dc := hu6.oc hD
    have hDH := G6.free Du hD
    refine lc_range (lo := 0) (n := mn) (fun i H' => ∃ (ys : List V) (cs : List Fc), cs.length = i ∧ (∀ e ∈ cs, OkC e ∧ e.length ≤ mo) ∧ GrU u H H' ∧ Urn c H' u ∧ H' D = some (.lst ys) ∧ DdAll K H' ys (cs.map ceD)) ⟨[], [], rfl, by simp, gruD G6 hDH, hu6.gr (Gr.new hD), upd_same, .nil⟩ ?_ ?_
    · rintro i H' hi ⟨ys, cs, hl, hc, g, hu', hL, hA⟩
      refine ⟨rfl, ?_⟩
      refine ⟨_, rfl, _, rfl, _, rfl, u, c, sg, _, rfl, hu', hs.gr g, hmo.1, hmo.2, fun p xs H7 okx lx g7 hu7 dd7 => ?_⟩
      have hL7 := g7.keep Du hL (fun _ z => by cases z)
      have hly : ys.length = cs.length := by rw [ddA_len hA, List.length_map]
      have gup := GrN.upd (ys := ys ++ [.ref p]) hL7
      refine ⟨ys, hL7, by rw [hly, hl, sizeLine_eq]; omega, ys ++ [.ref p], cs ++ [xs], by rw [List.length_append, hl]; rfl, ?_, gruD (g.trans g7) hDH, hu7.updD Du Dc, upd_same, ddA_cells (((g7.n hu').trans gup).ddA _ _ (nl_ces _) hA) (gup.dd _ _ (nl_ce _) dd7)⟩
      intro e he
      rcases List.mem_append.mp he with z | z
      · exact hc e z
      · rw [List.mem_singleton] at z
        rw [z]
        exact ⟨okx, by omega⟩
    · rintro H' ⟨ys, cs, hl, hc, g, hu', hL, hA⟩
      refine ⟨.inl ⟨D, _, rfl, SqL.of hL, fun p7 hp7 => ?_⟩⟩
      refine newH hp7 fun H7 g7 s7 => ?_
      refine ⟨by show 2 ≤ sizeLine; rw [sizeLine_eq]; decide, fun p8 hp8 => ?_⟩
      refine newH hp8 fun H8 g8 s8 => ?_
      have dc : Dd K H8 (.ref p7) (.tuple (cs.map ceD)) := .tup (SqT.of (g8.tup s7)) (g8.ddA _ _ (g7.ddA _ _ hA))
      have gm := gl_len (b := mo) (fun xs hx => (hc xs hx).2) (show 1 ≤ cs.length by omega)
      refine k p8 (dn, cs) H8 ⟨by show dn ≤ 6; omega, by show 1 ≤ cs.length; omega, by show cs.length ≤ 12; omega, ?_, ?_, fun xs hx => (hc xs hx).1⟩ ((g.trans g7.u).trans g8.u) ((hu'.gr g7).gr g8) (.tup (SqT.of s8) (.cons (.int _) (.cons dc .nil)))
      · show (gl cs).length ≤ 491
        rcases hmm with z | z
        · have h41 : cs.length * (mo + 1) ≤ 12 * 41 := Nat.mul_le_mul (by omega) (by omega)
          omega
        · have e1 : cs.length = 1 := by omega
          rw [e1] at gm
          omega
      · show cs.length = 1 ∨ _
        rcases hmm with z | z
        · exact .inr fun xs hx => by have := (hc xs hx).2; omega
        · exact .inl (by omega)
theorem ok_scontent {fd : FuncData} (F : FnP K "_law_some_content" s__law_some_content fd) (T : TD K mg) (D__law_upto : Df P w K mg base "_law_upto" 2 p__law_upto spUpto) (D__law_some_line : Df P w K mg base "_law_some_line" 6 p__law_some_line (spSLine K)) : FnOk P w K mg base CX0 7 (He.fAd K ("_law_some_content", none)) fd p__law_some_content (spSContent K) := by
  refine okP F sc__law_some_content (fun vs H Q E h => by obtain ⟨u, c, sg, rfl, _⟩ := h; rfl) (fun A outer s H vs Q E hr h => ?_)
  obtain ⟨u, c, sg, rfl, hu, hs, k⟩ := h
  refine ⟨_, (pss_one (ps_ret (k_tuple (K := K) rfl rfl T.b_tuple (pe_lc (own := [("line", 2)]) (g := gName 2) (tt := tYes) rfl sc__law_some_content.nd (pi_range1 rfl T.b_range (pa_cons (pe_op (u_add (K := K) rfl) pe_int (pe_fn D__law_upto hr (by decide) rfl (pa_cons (pv 0) (pa_cons pe_int pa_nil)))) pa_nil)) (blkOk_by (own := [("line", 2)]) (N := n__law_some_content) (sc := defScope s__law_some_content) (by decide +kernel)) (fun _ _ _ _ _ => (pg_name (i := 2) sc__law_some_content.nd rfl (by first | exact Or.inl rfl | exact Or.inr rfl))) (fun _ _ _ _ _ => pts_nil) (fun _ _ _ _ _ => (pe_fn D__law_some_line hr (by decide) rfl (pa_cons (pv 0) (pa_cons (pv 1) pa_nil)))))))), ?_⟩
  refine ⟨_, rfl, u, c, 4, rfl, hu, by decide, by decide, fun r H6 h0 h4 G6 hu6 => a_ii ?_⟩
  obtain ⟨mn, hmn⟩ := Int.eq_ofNat_of_zero_le (show 0 ≤ 1 + r by omega)
  refine ⟨1 + r, rfl, by omega, by omega, fun D hD => ?_⟩
  rw [hmn, Int.toNat_natCast]
  have Du := hu6.ou hD
  have Dc := hu6.oc hD
  have hDH := G6.free Du hD
  refine lc_range (lo := 0) (n := mn) (fun i H' => ∃ (ys : List V) (es : List Fln), es.length = i ∧ (∀ e ∈ es, OkLn e) ∧ GrU u H H' ∧ Urn c H' u ∧ H' D = some (.lst ys) ∧ DdAll K H' ys (es.map liD)) ⟨[], [], rfl, by simp, gruD G6 hDH, hu6.gr (Gr.new hD), upd_same, .nil⟩ ?_ ?_
  · rintro i H' hi ⟨ys, es, hl, hc, g, hu', hL, hA⟩
    refine ⟨rfl, ?_⟩
    refine ⟨_, rfl, _, rfl, u, c, sg, rfl, hu', hs.gr g, fun p l H7 okl g7 hu7 dd7 => ?_⟩
    have hL7 := g7.keep Du hL (fun _ z => by cases z)
    have hly : ys.length = es.length := by rw [ddA_len hA, List.length_map]
    have gup := GrN.upd (ys := ys ++ [.ref p]) hL7
    refine ⟨ys, hL7, by rw [hly, hl, sizeLine_eq]; omega, ys ++ [.ref p], es ++ [l], by rw [List.length_append, hl]; rfl, ?_, gruD (g.trans g7) hDH, hu7.updD Du Dc, upd_same, ddA_lines (((g7.n hu').trans gup).ddA _ _ (nl_lis _) hA) (gup.dd _ _ (nl_li _) dd7)⟩
    intro e he
    rcases List.mem_append.mp he with z | z
    · exact hc e z
    · rw [List.mem_singleton] at z
      exact z ▸ okl
  · rintro H' ⟨ys, es, hl, hc, g, hu', hL, hA⟩
    refine ⟨.inl ⟨D, _, rfl, SqL.of hL, fun p7 hp7 => ?_⟩⟩
    refine newH hp7 fun H7 g7 s7 => ?_
    exact k p7 es H7 ⟨by omega, by omega, hc⟩ (by omega) (g.trans g7.u) (hu'.gr g7) (.tup (SqT.of s7) (g7.ddA _ _ hA))
theorem ok_some_set {fd : FuncData} (F : FnP K "_law_some_set" s__law_some_set fd) (T : TD K mg) (D__law_upto : Df P w K mg base "_law_upto" 2 p__law_upto spUpto) : FnOk P w K mg base CX0 3 (He.fAd K ("_law_some_set", none)) fd p__law_some_set (spSomeSet K) := by
  refine okP F sc__law_some_set (fun vs H Q E h => by obtain ⟨u, c, rfl, _⟩ := h; rfl) (fun A outer s H vs Q E hr h => ?_)
  obtain ⟨u, c, rfl, hu, k⟩ := h
  refine ⟨_, (pss_one (ps_ret (k_tuple (K := K) rfl rfl T.b_tuple (pe_lc (own := [("feature", 1)]) (g := gName 1) rfl sc__law_some_set.nd (k_tup (K := K) rfl (pe_tup (pa_cons pe_str (pa_cons pe_str (pa_cons pe_str (pa_cons pe_str (pa_cons pe_str pa_nil))))))) (blkOk_by (own := [("feature", 1)]) (N := n__law_some_set) (sc := defScope s__law_some_set) (by decide +kernel)) (fun _ _ _ _ _ => (pg_name (i := 1) sc__law_some_set.nd rfl (by first | exact Or.inl rfl | exact Or.inr rfl))) (fun _ _ _ _ _ => (pts_one (pt_cmpR (u_eq (K := K) rfl hr.units) (pe_fn D__law_upto hr (by decide) rfl (pa_cons (pv 0) (pa_cons pe_int pa_nil))) pe_int (nomark _)))) (fun _ _ _ _ _ => (pv 1)))))), ?_⟩
  refine ⟨by show 5 ≤ sizeLine; rw [sizeLine_eq]; decide, fun p0 hp0 => ?_⟩
  refine newH hp0 fun H0 g0 s0 => ?_
  have hu0 := hu.gr g0
  refine ⟨p0, rfl, ⟨_, SqT.of s0⟩, fun D hD => ?_⟩
  have Du := hu0.ou hD
  have Dc := hu0.oc hD
  refine lc_tup (K := K) (a := p0) (xs := strV five) (fun i H' => ∃ fs : List Str, (fs.length ≤ i ∧ ∀ t ∈ fs, t ∈ five) ∧ GrU u H0 H' ∧ Urn c H' u ∧ H' D = some (.lst (strV fs))) ⟨[], ⟨Nat.le_refl _, by simp⟩, gruD (GrU.refl _ _) hD, hu0.gr (Gr.new hD), upd_same⟩ ?_ ?_ ?_
  · rintro i H' _ ⟨fs, _, g, _, _⟩
    exact g.seqT hu0 (SqT.of s0)
  · rintro i x H' hx ⟨fs, ⟨hl, hl5⟩, g, hu', hL⟩
    obtain ⟨f, hf, rfl⟩ := strV_get hx
    have il := (List.getElem?_eq_some_iff.mp hx).1
    have il2 : i < 5 := il
    refine ⟨rfl, ?_⟩
    refine ⟨_, rfl, u, c, 2, rfl, hu', by decide, by decide, fun r H2 _ _ g2 hu2 => e_flat rfl ⟨_, rfl, ?_⟩⟩
    have hL2 := g2.keep Du hL (fun _ z => by cases z)
    refine ite2 (fun h1 => ?_) (fun h1 => ?_)
    · refine ⟨_, rfl, _, hL2, ?_, fs ++ [f], ⟨by rw [List.length_append]; show fs.length + 1 ≤ _; omega, fun t ht => by
        rcases List.mem_append.mp ht with z | z
        · exact hl5 t z
        · rw [List.mem_singleton.mp z]; exact List.mem_of_getElem? hf⟩, gruD (g.trans g2) hD, hu2.updD Du Dc, ?_⟩
      · show (List.map V.str _).length < _
        rw [List.length_map, sizeLine_eq]
        omega
      · rw [upd_same]
        unfold strV
        rw [List.map_append]; rfl
    · exact ⟨fs, ⟨by omega, hl5⟩, g.trans g2, hu2, hL2⟩
  · rintro H' ⟨fs, ⟨_, hl5⟩, g, hu', hL⟩
    refine ⟨.inl ⟨D, _, rfl, SqL.of hL, fun t ht => ?_⟩⟩
    refine newH ht fun H2 g2 s2 => ?_
    exact k t fs H2 hl5 ((g0.u.trans g).trans g2.u) (hu'.gr g2) (SqT.of s2)
end
end Vf
end
section
set_option Elab.async false
set_option linter.all false
set_option maxRecDepth 100000
set_option maxHeartbeats 4000000
namespace Vf
open PySem PySem.Spec PyProof.Rows L2 GxR GenW RZ
abbrev s__law_all_signs : Stmt := top 70
abbrev n__law_all_signs : List Str := []
abbrev p__law_all_signs : List Str := []
theorem sc__law_all_signs : FnScope n__law_all_signs p__law_all_signs (defScope s__law_all_signs) := ⟨rfl, rfl, rfl, by decide +kernel, rfl, by decide +kernel, by decide +kernel⟩

abbrev s__law_some_form : Stmt := top 71
abbrev n__law_some_form : List Str := ["urn", "name", "features", "signs", "turn", "picked", "there", "sign", "is_there"]
abbrev p__law_some_form : List Str := ["urn", "name", "features"]
theorem sc__law_some_form : FnScope n__law_some_form p__law_some_form (defScope s__law_some_form) := ⟨rfl, rfl, rfl, by decide +kernel, rfl, by decide +kernel, by decide +kernel⟩

abbrev s_carried : Stmt := top 32
abbrev n_carried : List Str := ["form", "signs", "feature", "sign"]
abbrev p_carried : List Str := ["form"]
theorem sc_carried : FnScope n_carried p_carried (defScope s_carried) := ⟨rfl, rfl, rfl, by decide +kernel, rfl, by decide +kernel, by decide +kernel⟩

abbrev s_signs_of : Stmt := top 33
abbrev n_signs_of : List Str := ["form"]
abbrev p_signs_of : List Str := ["form"]
theorem sc_signs_of : FnScope n_signs_of p_signs_of (defScope s_signs_of) := ⟨rfl, rfl, rfl, by decide +kernel, rfl, by decide +kernel, by decide +kernel⟩

abbrev s__law_carried : Stmt := top 74
abbrev n__law_carried : List Str := ["form", "rows", "feature", "sign"]
abbrev p__law_carried : List Str := ["form"]
theorem sc__law_carried : FnScope n__law_carried p__law_carried (defScope s__law_carried) := ⟨rfl, rfl, rfl, by decide +kernel, rfl, by decide +kernel, by decide +kernel⟩

def allS : List Str := sS "!#$&'()*+,-./:;<=>?\x40[]^_{|}~" ++ (["\"", "\\", "`"] : List Str)
def spAll : Sp := fun vs H Q _ => vs = [] ∧ ∀ l H', Gr H H' → H l = none → H' l = some (.lst (strV allS)) → Q (.ref l) H'
def thereL (fs : List Str) : List Bool :=
  [inV (.str "cells") (strV fs), inV (.str "nest") (strV fs), inV (.str "bold") (strV fs), inV (.str "slant") (strV fs)] ++ List.replicate 3 (inV (.str "link") (strV fs)) ++ [!PyData.eqv (.tuple (fs.map PyData.str)) (.tuple [])]
def mkS (p : Str × Bool) : Str := if p.2 = true then p.1 else ""
def mask (fs : List Str) (ps : List Str) : List Str := (ps.zip (thereL fs)).map mkS
def spSomeForm (K : PySem.W.Frag) : Sp := fun vs H Q _ => ∃ (u c a : Addr) (n : Str) (fs : List Str), vs = [.ref u, .str n, .ref a] ∧ Urn c H u ∧ SqT K H a (strV fs) ∧ (∀ t ∈ fs, PyData.canLay0 (.str t) = true) ∧
  ∀ t ps rs H', ps.length = 8 → (ps ++ rs).Perm allS → GrU u H H' → Urn c H' u → H t = none → t ≠ u → H' t = some (.tup (strV (n :: mask fs ps))) → Q (.ref t) H'
theorem pop_perm {ps rs : List Str} {k : Nat} {y : Str} (h : rs[k]? = some y) : (ps ++ [y] ++ rs.eraseIdx k).Perm (ps ++ rs) := by
  rw [List.append_assoc]
  refine List.Perm.append_left ps ?_
  have hk := (List.getElem?_eq_some_iff.mp h).1
  have hy := (List.getElem?_eq_some_iff.mp h).2
  rw [List.eraseIdx_eq_take_drop_succ]
  refine List.Perm.trans (List.perm_middle (l₁ := rs.take k) (l₂ := rs.drop (k + 1)) (a := y)).symm ?_
  rw [← hy, List.getElem_cons_drop, List.take_append_drop]
section
variable {P : Program} {w : World} {K : PySem.W.Frag} {mg : Str → Option Value} {base : Heap}
theorem ok_all_signs {fd : FuncData} (F : FnP K "_law_all_signs" s__law_all_signs fd) (T : TD K mg) : FnOk P w K mg base CX0 1 (He.fAd K ("_law_all_signs", none)) fd p__law_all_signs spAll := by
  refine okP F sc__law_all_signs (fun vs H Q E h => by obtain ⟨rfl, _⟩ := h; rfl) (fun A outer s H vs Q E hr h => ?_)
  obtain ⟨rfl, k⟩ := h
  refine ⟨_, (pss_one (ps_ret (pe_op (u_add (K := K) rfl) (pe_callTy (call_listU (K := K) rfl rfl) rfl T.b_list (by decide +kernel) (pa_cons pe_str pa_nil)) (pe_lst (pa_cons pe_str (pa_cons pe_str (pa_cons pe_str pa_nil))))))), ?_⟩
  refine lsU_s (by rw [sizeLine_eq]; decide) fun l hl => ⟨by rw [sizeLine_eq]; decide, fun b hb => ?_⟩
  have h1 : upd (upd H l (.lst (sgn "!#$&'()*+,-./:;<=>?\x40[]^_{|}~"))) b (.lst [.str "\"", .str "\\", .str "`"]) l = some (.lst (sgn "!#$&'()*+,-./:;<=>?\x40[]^_{|}~")) := by
    rw [upd_ne (ne_of_none upd_same hb)]
    exact upd_same
  refine a_ll h1 upd_same (by rw [sizeLine_eq]; decide) fun p hp => ?_
  have g : Gr H (upd (upd H l (.lst (sgn "!#$&'()*+,-./:;<=>?\x40[]^_{|}~"))) b (.lst [.str "\"", .str "\\", .str "`"])) := (Gr.new hl).trans (Gr.new hb)
  refine k p _ (g.trans (Gr.new hp)) (g.free hp) (upd_same.trans ?_)
  rw [sgn_strV]
  unfold allS strV
  rw [List.map_append]; rfl
theorem ok_some_form {fd : FuncData} (F : FnP K "_law_some_form" s__law_some_form fd) (T : TD K mg) (D__law_upto : Df P w K mg base "_law_upto" 2 p__law_upto spUpto) (D__law_all_signs : Df P w K mg base "_law_all_signs" 1 p__law_all_signs spAll) : FnOk P w K mg base CX0 3 (He.fAd K ("_law_some_form", none)) fd p__law_some_form (spSomeForm K) := by
  refine okP F sc__law_some_form (fun vs H Q E h => by obtain ⟨u, c, a, n, fs, rfl, _⟩ := h; rfl) (fun A outer s H vs Q E hr h => ?_)
  obtain ⟨u, c, a, n, fs, rfl, hu, hS, hf, k⟩ := h
  refine ⟨_, (pss_cons (ps_set (i := 3) sc__law_some_form.nd rfl (by first | exact Or.inl rfl | exact Or.inr rfl) (pe_fn0 D__law_all_signs hr (by decide) rfl))
      (pss_cons (ps_setLc (i := 5) (own := [("turn", 4)]) (g := gName 4) (tt := tYes) rfl sc__law_some_form.nd rfl rfl (sw_true rfl rfl rfl (by decide +kernel)) (pi_range1 rfl T.b_range (pa_cons pe_int pa_nil)) (blkOk_by (own := [("turn", 4)]) (N := n__law_some_form) (sc := defScope s__law_some_form) (by decide +kernel)) (fun _ _ _ _ _ => (pg_name (i := 4) sc__law_some_form.nd rfl (by first | exact Or.inl rfl | exact Or.inr rfl))) (fun _ _ _ _ _ => pts_nil) (fun _ _ _ _ _ => (k_bm (K := K) rfl PySem.F.plainAttrs_list PySem.F.slot_list_pop PySem.F.type_list_pop mt_popAt (pv 3) (pa_cons (pe_fn D__law_upto hr (by decide) rfl (pa_cons (pv 0) (pa_cons (pe_callB (k_len (K := K) rfl) rfl T.b_len (by decide +kernel) (pa_cons (pv 3) pa_nil)) pa_nil))) pa_nil))))
      (pss_cons (ps_set (i := 6) sc__law_some_form.nd rfl (by first | exact Or.inl rfl | exact Or.inr rfl) (pe_lst (pa_cons (pe_cmpR (u_in (K := K) rfl) pe_str (pv 2) (by first | exact nomark _ | rfl)) (pa_cons (pe_cmpR (u_in (K := K) rfl) pe_str (pv 2) (by first | exact nomark _ | rfl)) (pa_cons (pe_cmpR (u_in (K := K) rfl) pe_str (pv 2) (by first | exact nomark _ | rfl)) (pa_cons (pe_cmpR (u_in (K := K) rfl) pe_str (pv 2) (by first | exact nomark _ | rfl)) pa_nil))))))
      (pss_cons (ps_set (i := 6) sc__law_some_form.nd rfl (by first | exact Or.inl rfl | exact Or.inr rfl) (pe_op (u_add (K := K) rfl) (pe_op (u_add (K := K) rfl) (pv 6) (pe_op (u_mul (K := K) rfl) (pe_lst (pa_cons (pe_cmpR (u_in (K := K) rfl) pe_str (pv 2) (by first | exact nomark _ | rfl)) pa_nil)) pe_int)) (pe_lst (pa_cons (pe_cmpR (u_ne (K := K) rfl hr.units) (pv 2) (pe_tup pa_nil) (nomark _)) pa_nil))))
      (pss_one (ps_ret (pe_op (u_add (K := K) rfl) (pe_tup (pa_cons (pv 1) pa_nil)) (k_tuple (K := K) rfl rfl T.b_tuple (pe_lc (own := [("sign", 7), ("is_there", 8)])  (tt := tYes) rfl sc__law_some_form.nd (k_zip (K := K) rfl rfl T.b_zip (pa_cons (pv 5) (pa_cons (pv 6) pa_nil))) (blkOk_by (own := [("sign", 7), ("is_there", 8)]) (N := n__law_some_form) (sc := defScope s__law_some_form) (by decide +kernel)) (fun _ _ _ _ _ => (kg_tup 2 (K := K) rfl rfl (pgs_cons (pg_name (i := 7) sc__law_some_form.nd rfl (by first | exact Or.inl rfl | exact Or.inr rfl)) (pgs_cons (pg_name (i := 8) sc__law_some_form.nd rfl (by first | exact Or.inl rfl | exact Or.inr rfl)) pgs_nil)))) (fun _ _ _ _ _ => pts_nil) (fun _ _ _ _ _ => (pe_ifExp (k_truth (K := K) rfl (pv 8) (by intro _; rfl)) (pv 7) pe_str))))))))))), ?_⟩
  refine ⟨rfl, fun l H1 g1 hl hL => ?_⟩
  refine ⟨8, rfl, by decide, by decide, fun D hD => ?_⟩
  have lu := hu.ou hl
  have lc := hu.oc hl
  have hu1 := hu.gr g1
  have Du := hu1.ou hD
  have Dc := hu1.oc hD
  have lD : l ≠ D := ne_of_none hL hD
  have hD0 := g1.free hD
  refine lc_range (lo := 0) (n := 8) (fun i H' => ∃ ps rs, ps.length = i ∧ (ps ++ rs).Perm allS ∧ GrU u H H' ∧ Urn c H' u ∧ H' l = some (.lst (strV rs)) ∧ H' D = some (.lst (strV ps))) ⟨[], allS, rfl, List.Perm.refl _, gruD g1.u hD0, hu1.gr (Gr.new hD), by rw [upd_ne lD]; exact hL, upd_same⟩ ?_ ?_
  · rintro i H' hi ⟨ps, rs, hp, hpm, g, hu', h1, h2⟩
    have hlen : i + rs.length = 31 := by
      have q := hpm.length_eq
      rw [List.length_append, hp] at q
      exact q
    have lr : (strV rs).length = rs.length := List.length_map _
    refine ⟨rfl, ?_⟩
    refine ⟨_, rfl, .inl ⟨rfl, _, SqL.of h1⟩, _, rfl, _, rfl, _, _, rfl, .inl ⟨_, SqL.of h1, rfl⟩, u, c, _, rfl, hu', by rw [lr]; omega, by rw [lr]; omega, fun r H2 h0 hr1 g2 hu2 => ?_⟩
    obtain ⟨j, rfl⟩ := Int.eq_ofNat_of_zero_le h0
    rw [lr] at hr1
    have hj : j < rs.length := by omega
    have e1 := g2.keep lu h1 (fun _ z => by cases z)
    have e2 := g2.keep Du h2 (fun _ z => by cases z)
    refine ⟨l, strV rs, j, j, .str rs[j], rfl, rfl, e1, by omega, by omega, ?_, ?_, ?_⟩
    · unfold seqIndex?
      rw [lr]
      have q1 : ¬ (j : Int) < 0 := by omega
      simp only [q1, if_false]
      rw [if_pos (by simp; omega)]; rfl
    · unfold strV
      rw [List.getElem?_map, List.getElem?_eq_getElem hj]; rfl
    · refine ⟨strV ps, by rw [upd_ne (Ne.symm lD)]; exact e2, ?_, ps ++ [rs[j]], rs.eraseIdx j, by rw [List.length_append, hp]; rfl, (pop_perm (List.getElem?_eq_getElem hj)).trans hpm, gruD (gruD (g.trans g2) hl) hD0, (hu2.updD lu lc).updD Du Dc, ?_, ?_⟩
      · unfold strV
        rw [List.length_map, hp, sizeLine_eq]; omega
      · rw [upd_ne lD, upd_same]
        unfold strV
        rw [List.eraseIdx_eq_take_drop_succ, List.eraseIdx_eq_take_drop_succ, List.map_append, List.map_take, List.map_drop]
      · rw [upd_same]
        unfold strV
        rw [List.map_append]; rfl
  · rintro H' ⟨ps, rs, hp, hpm, g, hu', h1, h2⟩
    have hS' := g.seqT hu hS
    have hSf : (strV fs).all flatV = true := by
      unfold strV
      rw [List.all_map, List.all_eq_true]
      intro x _; rfl
    refine ⟨_, rfl, in_seq (.inr hS') rfl hSf ⟨_, rfl, in_seq (.inr hS') rfl hSf ⟨_, rfl, in_seq (.inr hS') rfl hSf ⟨_, rfl, in_seq (.inr hS') rfl hSf ⟨by show 4 ≤ sizeLine; rw [sizeLine_eq]; decide, fun p1 hp1 => ?_⟩⟩⟩⟩⟩
    refine newH hp1 fun Ha Ga s1 => ?_
    refine ⟨_, rfl, _, rfl, in_seq (.inr (Ga.seqT hS')) rfl hSf ⟨by show 1 ≤ sizeLine; rw [sizeLine_eq]; decide, fun p2 hp2 => ?_⟩⟩
    refine newH hp2 fun Hb Gb s2 => ?_
    refine m_ll s2 (by decide) (by decide) (by show 1 * 3 ≤ sizeLine; rw [sizeLine_eq]; decide) fun p3 hp3 => ?_
    refine newH hp3 fun Hc Gc s3 => ?_
    refine a_ll (Gc.lst (Gb.lst s1)) s3 (by rw [sizeLine_eq]; show 4 + 3 ≤ 16777216; decide) fun p4 hp4 => ?_
    refine newH hp4 fun Hd Gd s4 => ?_
    have G4 := ((Ga.trans Gb).trans Gc).trans Gd
    refine ⟨_, rfl, Nat.zero_le _, fun pe hpe => ?_⟩
    refine newH hpe fun Hx Ge se => ?_
    refine n_data (Dp.tup ((G4.trans Ge).seqT hS') (dp_strs fs)) (Dp.tup (SqT.of se) .nil) (shp_strsT hf) rfl ?_
    refine ⟨by show 1 ≤ sizeLine; rw [sizeLine_eq]; decide, fun p5 hp5 => ?_⟩
    refine newH hp5 fun Hf Gf s5 => ?_
    refine a_ll ((Ge.trans Gf).lst s4) s5 (by rw [sizeLine_eq]; show 7 + 1 ≤ 16777216; decide) fun p6 hp6 => ?_
    refine newH hp6 fun Hg Gg s6 => ?_
    have G6 := ((G4.trans Ge).trans Gf).trans Gg
    have e6 : Hg p6 = some (.lst ((thereL fs).map V.bl)) := s6.trans rfl
    have d6 := G6.lst h2
    refine ⟨_, rfl, by show 1 ≤ sizeLine; rw [sizeLine_eq]; decide, fun pT hpT => ?_⟩
    refine newH hpT fun Hh Gh sT => ?_
    refine ⟨_, rfl, _, rfl, D, p6, _, _, rfl, .inl ⟨SqL.of (Gh.lst d6), SqL.of (Gh.lst e6), fun Z hZ => ?_⟩⟩
    have rl : ∀ i, (((ps.zip (thereL fs)).take i).map mkS).length ≤ 8 := fun i => by
      rw [List.length_map, List.length_take, List.length_zip]
      omega
    refine lc_zL (a := D) (b := p6) (xs := strV ps) (ys := (thereL fs).map V.bl) (by unfold strV; rw [List.length_map, List.length_map, hp]; rfl) (fun i H' => Gr Hh H' ∧ H' Z = some (.lst (strV (((ps.zip (thereL fs)).take i).map mkS)))) ⟨Gr.new hZ, upd_same⟩ ?_ ?_ ?_
    · rintro i H2 ⟨g3, _⟩
      exact ⟨SqL.of (g3.lst (Gh.lst d6)), SqL.of (g3.lst (Gh.lst e6))⟩
    · rintro i x y T2 H2 hx hy ⟨g3, h3⟩ hT2
      obtain ⟨t, ht, rfl⟩ := str_at hx
      rw [List.getElem?_map] at hy
      obtain ⟨b, hb, rfl⟩ : ∃ b, (thereL fs)[i]? = some b ∧ y = .bl b := by
        cases e : (thereL fs)[i]? with
        | none => rw [e] at hy; cases hy
        | some b => rw [e] at hy; exact ⟨b, rfl, (Option.some.inj hy).symm⟩
      have hz : (ps.zip (thereL fs))[i]? = some (t, b) := by
        rw [List.getElem?_zip_eq_some]
        exact ⟨ht, hb⟩
      refine newH hT2 fun H3 g4 s8 => ?_
      have g5 := g3.trans g4
      have h4 := g4.lst h3
      refine ⟨_, _, rfl, SqT.of s8, rfl, _, _, rfl, _, _, rfl, rfl, rfl, ?_⟩
      have st : ((ps.zip (thereL fs)).take (i + 1)).map mkS = ((ps.zip (thereL fs)).take i).map mkS ++ [mkS (t, b)] := by
        rw [List.take_succ, hz, List.map_append]; rfl
      have nl : (strV (((ps.zip (thereL fs)).take i).map mkS)).length < sizeLine := by
        unfold strV
        rw [List.length_map, sizeLine_eq]
        exact Nat.lt_of_le_of_lt (rl i) (by decide)
      refine ⟨_, rfl, b, rfl, ite2 (fun hb => ?_) (fun hb => ?_)⟩
      · refine ⟨_, rfl, _, h4, nl, g5.upd' hZ, ?_⟩
        rw [upd_same, st]
        unfold strV
        rw [List.map_append]
        show _ = some (HO.lst (_ ++ [V.str (mkS (t, b))]))
        have e : mkS (t, b) = t := if_pos hb
        rw [e]
      · refine ⟨_, h4, nl, g5.upd' hZ, ?_⟩
        rw [upd_same, st]
        unfold strV
        rw [List.map_append]
        show _ = some (HO.lst (_ ++ [V.str (mkS (t, b))]))
        have e : mkS (t, b) = "" := if_neg hb
        rw [e]
    · rintro H2 ⟨g3, h3⟩
      refine ⟨.inl ⟨Z, _, rfl, SqL.of h3, fun t8 ht8 => ?_⟩⟩
      refine newH ht8 fun H3 g4 s8 => ?_
      have g5 := (G6.trans Gh).trans (g3.trans g4)
      have ln : (strV ps).length = 8 := by unfold strV; rw [List.length_map]; exact hp
      have tk : (ps.zip (thereL fs)).take (strV ps).length = ps.zip (thereL fs) := by
        rw [ln]
        refine List.take_of_length_le ?_
        rw [List.length_zip]
        omega
      have ml : (mask fs ps).length = 8 := by
        unfold mask
        rw [List.length_map, List.length_zip, hp]; rfl
      rw [tk] at s8
      have s8 : H3 t8 = some (.tup (strV (mask fs ps))) := s8
      have sl : (strV (mask fs ps)).length = 8 := by unfold strV; rw [List.length_map]; exact ml
      refine a_tt (SqT.of ((g3.trans g4).tup sT)) (SqT.of s8) (by rw [sl, sizeLine_eq]; show 1 + 8 ≤ 16777216; decide) (fun z => by cases z) (fun _ z => ?_) (fun _ _ t ht => ?_)
      · rw [z] at sl
        cases sl
      · refine newH ht fun H4 g6 s9 => ?_
        have g7 := g5.trans g6
        refine k t ps rs _ hp hpm (g.trans g7.u) (hu'.gr g7) (g.free (hu'.ou (g5.free ht)) (g5.free ht)) (hu'.ou (g5.free ht)) (s9.trans rfl)
end
/-! ### forms -/
structure Fo where
  name : Str
  ce : Option Nat
  le : Option Nat
  bo : Option Nat
  sl : Option Nat
  op : Option Nat
  mi : Option Nat
  en : Option Nat
  es : Option Nat
def sg : Option Nat → Str
  | none => ""
  | some c => chS c
def Fo.os (f : Fo) : List (Option Nat) := [f.ce, f.le, f.bo, f.sl, f.op, f.mi, f.en, f.es]
def Fo.strs (f : Fo) : List Str := [f.name, sg f.ce, sg f.le, sg f.bo, sg f.sl, sg f.op, sg f.mi, sg f.en, sg f.es]
def Fo.sgs (f : Fo) : List Nat := f.os.filterMap id
def wordsC : List Nat := ("abcdefghijklmnopqrstuvwxyz0123456789" : Str).cps.toList
structure FoOk (f : Fo) : Prop where
  nd : f.sgs.Nodup
  ok : ∀ c ∈ f.sgs, 33 ≤ c ∧ c ≤ 126 ∧ c ∉ wordsC
  l1 : f.op.isSome = f.mi.isSome
  l2 : f.mi.isSome = f.en.isSome
  es : f.es = none → f.sgs = []
  nl : PyData.canLay0 (.str f.name) = true ∧ f.name.length ≤ 10
def pk (p : Nat × Bool) : Option Nat := if p.2 = true then some p.1 else none
theorem pk_sub : ∀ l : List (Nat × Bool), ((l.map pk).filterMap id).Sublist (l.map (·.1))
  | [] => List.Sublist.refl _
  | (c, b) :: l => by
    have ih := pk_sub l
    cases b with
    | true => exact ih.cons₂ c
    | false => exact ih.cons c
def SG31 : List Nat := ("!#$&'()*+,-./:;<=>?\x40[]^_{|}~\"\\`" : Str).cps.toList
theorem allS_SG : allS = SG31.map chS := by decide +kernel
theorem SG31_ok : SG31.Nodup ∧ ∀ c ∈ SG31, 33 ≤ c ∧ c ≤ 126 ∧ c ∉ wordsC := by decide +kernel
theorem chS_inj {a b : Nat} (h : chS a = chS b) : a = b := by
  have q := congrArg cps h
  have q2 : [a] = [b] := q
  exact List.head_eq_of_cons_eq q2
theorem there_last {fs : List Str} (h : fs ≠ []) : (!PyData.eqv (.tuple (fs.map PyData.str)) (.tuple [])) = true := by
  cases fs with
  | nil => exact absurd rfl h
  | cons x l => rfl
theorem inV_ne {x : Str} {fs : List Str} (h : inV (.str x) (strV fs) = true) : fs ≠ [] := fun z => by
  rw [z] at h
  cases h
theorem form_of {n : Str} {fs ps rs : List Str} (hp : ps.length = 8) (pm : (ps ++ rs).Perm allS) (hn : PyData.canLay0 (.str n) = true ∧ n.length ≤ 10) : ∃ f : Fo, FoOk f ∧ f.strs = n :: mask fs ps := by
  have hps : ∀ p ∈ ps, ∃ c ∈ SG31, p = chS c := fun p h => by
    have q := pm.mem_iff.mp (List.mem_append_left rs h)
    rw [allS_SG] at q
    obtain ⟨c, hc, e⟩ := List.mem_map.mp q
    exact ⟨c, hc, e.symm⟩
  have nd : ps.Nodup := by
    have q : (ps ++ rs).Nodup := by
      rw [pm.nodup_iff, allS_SG]
      exact List.Pairwise.map _ (fun a b h z => h (chS_inj z)) SG31_ok.1
    exact (List.nodup_append.mp q).1
  match ps, hp, hps, nd with
  | [p0, p1, p2, p3, p4, p5, p6, p7], _, hps, nd =>
    obtain ⟨c0, h0, rfl⟩ := hps p0 (by simp)
    obtain ⟨c1, h1, rfl⟩ := hps p1 (by simp)
    obtain ⟨c2, h2, rfl⟩ := hps p2 (by simp)
    obtain ⟨c3, h3, rfl⟩ := hps p3 (by simp)
    obtain ⟨c4, h4, rfl⟩ := hps p4 (by simp)
    obtain ⟨c5, h5, rfl⟩ := hps p5 (by simp)
    obtain ⟨c6, h6, rfl⟩ := hps p6 (by simp)
    obtain ⟨c7, h7, rfl⟩ := hps p7 (by simp)
    have ndc : [c0, c1, c2, c3, c4, c5, c6, c7].Nodup := by
      have q : ([c0, c1, c2, c3, c4, c5, c6, c7].map chS).Nodup := nd
      exact List.Pairwise.of_map _ (fun a b h z => h (congrArg chS z)) q
    have hin : ∀ c ∈ [c0, c1, c2, c3, c4, c5, c6, c7], c ∈ SG31 := by
      intro c hc
      simp only [List.mem_cons, List.not_mem_nil, or_false] at hc
      rcases hc with rfl | rfl | rfl | rfl | rfl | rfl | rfl | rfl <;> assumption
    generalize hb0 : inV (.str "cells") (strV fs) = b0
    generalize hb1 : inV (.str "nest") (strV fs) = b1
    generalize hb2 : inV (.str "bold") (strV fs) = b2
    generalize hb3 : inV (.str "slant") (strV fs) = b3
    generalize hb4 : inV (.str "link") (strV fs) = b4
    generalize hb5 : (!PyData.eqv (.tuple (fs.map PyData.str)) (.tuple [])) = b5
    have sub := pk_sub [(c0, b0), (c1, b1), (c2, b2), (c3, b3), (c4, b4), (c5, b4), (c6, b4), (c7, b5)]
    refine ⟨⟨n, pk (c0, b0), pk (c1, b1), pk (c2, b2), pk (c3, b3), pk (c4, b4), pk (c5, b4), pk (c6, b4), pk (c7, b5)⟩, ⟨sub.nodup ndc, fun c hc => SG31_ok.2 c (hin c (sub.subset hc)), by cases b4 <;> rfl, by cases b4 <;> rfl, fun z => ?_, hn⟩, ?_⟩
    · have e5 : b5 = false := by
        cases b5 with
        | false => rfl
        | true => cases z
      have fe : fs = [] := by
        by_cases h : fs = []
        · exact h
        · rw [← hb5, there_last h] at e5
          cases e5
      subst fe
      have g0 : b0 = false := hb0.symm
      have g1 : b1 = false := hb1.symm
      have g2 : b2 = false := hb2.symm
      have g3 : b3 = false := hb3.symm
      have g4 : b4 = false := hb4.symm
      rw [g0, g1, g2, g3, g4, e5]
      rfl
    · have et : thereL fs = [b0, b1, b2, b3, b4, b4, b4, b5] := by
        unfold thereL
        rw [hb0, hb1, hb2, hb3, hb4, hb5]
        rfl
      unfold mask
      rw [et]
      show [n, sg (pk (c0, b0)), _, _, _, _, _, _, _] = n :: [mkS (chS c0, b0), mkS (chS c1, b1), mkS (chS c2, b2), mkS (chS c3, b3), mkS (chS c4, b4), mkS (chS c5, b4), mkS (chS c6, b4), mkS (chS c7, b5)]
      have e : ∀ (c : Nat) (b : Bool), sg (pk (c, b)) = mkS (chS c, b) := fun c b => by cases b <;> rfl
      simp only [e]
end Vf
end
section
set_option Elab.async false
set_option linter.all false
set_option maxRecDepth 100000
set_option maxHeartbeats 4000000
/-! Own layer: any text no times. -/
namespace Vf
open PySem PySem.Spec PyProof.Rows L2 GxR GenW RZ
def rMulZ : R2 := fun x y H Q => ∃ z : Str, x = .str z ∧ y = .int 0 ∧ z.length ≤ 1000 ∧ ∀ r : Str, cp r = [] → Q (.str r) H
section
variable {X : Cx}
theorem op_mulZ : OpR X (binaryOp .Mult) rMulZ := by
  intro pins s σ H x y v u Q I rx ry h
  obtain ⟨z, rfl, rfl, h4, q⟩ := h
  obtain ⟨t, rfl⟩ := rx
  obtain ⟨t', rfl⟩ := ry
  refine PySem.P.mul_str ?_ (fun h1 _ => ?_) (fun _ _ => ?_) ?_
  · rw [decide_eq_false (by omega), decide_eq_false (by omega)]
    rfl
  · omega
  · show decide (_ > sizeLine) = false
    rw [sizeLine_eq]
    exact decide_eq_false (by show ¬ z.length * 0 > _; omega)
  · rw [if_pos (by omega)]
    exact ⟨by rw [sizeLine_eq]; decide, .str _, H, I.tok _, ⟨_, rfl⟩, q _ rfl⟩
structure rMuY (K : PySem.W.Frag) (x y : V) (H : Hp) (Q : VK) : Prop where
  h : rMuX K x y H Q ∨ rMulZ x y H Q
theorem u_mulY {K : PySem.W.Frag} (hK : X.K = K) : OpR X (binaryOp .Mult) (rMuY K) :=
  fun pins s σ H x y v u Q I rx ry h => (OpR.or (u_mulX hK) op_mulZ) pins s σ H x y v u Q I rx ry h.h
end
theorem my_any {K : PySem.W.Frag} {H : Hp} {Q : VK} {z : Str} {k : Nat} (h2 : k ≤ 1000) (h3 : z.length = 0 → k = 0) (h4 : z.length ≤ 1000) (q : ∀ r : Str, cp r = (List.replicate k (cp z)).flatten → Q (.str r) H) : rMuY K (.str z) (.int k) H Q := by
  refine ⟨?_⟩
  by_cases h0 : z.length = 0
  · have k0 := h3 h0
    subst k0
    exact .inr ⟨z, rfl, rfl, h4, fun r hr => q r hr⟩
  · exact .inl (mx_s h2 (by omega) h4 q)
end Vf
end
section
set_option Elab.async false
set_option linter.all false
set_option maxRecDepth 100000
set_option maxHeartbeats 4000000
namespace Vf
open PySem PySem.Spec PyProof.Rows L2 GxR GenW RZ
/-! ### the text of a content in a form -/
def ol : Option Nat → List Nat
  | none => []
  | some c => [c]
theorem cps_sg (o : Option Nat) : cps (sg o) = ol o := by cases o <;> first | rfl | decide +kernel
def esc (f : Fo) (c : Nat) : List Nat := if c ∈ f.sgs then ol f.es ++ [c] else [c]
def chE (f : Fo) (b m : Mk3) : List Nat := if b.1 ≠ m.1 ∧ b.1 ≠ "" then ol f.en else []
def chB (f : Fo) (b m : Mk3) : List Nat := if b.2.1 ≠ m.2.1 then ol f.bo else []
def chS' (f : Fo) (b m : Mk3) : List Nat := if b.2.2 ≠ m.2.2 then ol f.sl else []
def chO (f : Fo) (b m : Mk3) : List Nat := if b.1 ≠ m.1 ∧ m.1 ≠ "" then ol f.op ++ (cps m.1 ++ ol f.mi) else []
def chg (f : Fo) (b m : Mk3) : List Nat := chE f b m ++ (chB f b m ++ (chS' f b m ++ chO f b m))
theorem chg_same (f : Fo) (m : Mk3) : chg f m m = [] := by simp [chg, chE, chB, chS', chO]
def wr (f : Fo) : Mk3 → Fc → List Nat
  | b, [] => chg f b NO
  | b, (c, m) :: xs => chg f b m ++ (esc f c ++ wr f m xs)
def joinL (sep : List Nat) : List (List Nat) → List Nat
  | [] => []
  | [x] => x
  | x :: y :: r => x ++ (sep ++ joinL sep (y :: r))
def lnR (f : Fo) (l : Fln) : List Nat := joinL (ol f.ce) (l.2.map (wr f NO))
def lnT (f : Fo) (l : Fln) : List Nat := (List.replicate l.1 (ol f.le)).flatten ++ lnR f l
def txT (f : Fo) (m : Fm) : List Nat := joinL [10] (m.map (lnT f))
/-- the marks m can be told in the form -/
structure FitM (f : Fo) (m : Mk3) : Prop where
  l : f.op = none → m.1 = ""
  b : f.bo = none → m.2.1 = false
  s : f.sl = none → m.2.2 = false
  k : m.1 ∈ LK4
theorem FitM.no (f : Fo) : FitM f NO := ⟨fun _ => rfl, fun _ => rfl, fun _ => rfl, by simp [NO, LK4]⟩
def FitC (f : Fo) (xs : Fc) : Prop := ∀ x ∈ xs, FitM f x.2 ∧ 32 ≤ x.1 ∧ x.1 ≤ 126
structure FitL (f : Fo) (l : Fln) : Prop where
  ok : OkLn l
  ce : f.ce = none → l.2.length = 1
  le : f.le = none → l.1 = 0
  c : ∀ xs ∈ l.2, FitC f xs
/-! ### what reads it -/
structure Rs where
  cells : List Fc
  pcs : Fc
  mm : Mk3
  wd : Option Str
  ie : Bool
def room (s : Rs) : Bool := decide (s.pcs.length < if s.cells.isEmpty then 491 else 40)
def endC (s : Rs) : Option Rs := if s.mm = NO then some { s with cells := s.cells ++ [s.pcs], pcs := [] } else none
def putC (s : Rs) (c : Nat) : Rs := { s with pcs := s.pcs ++ [(c, s.mm)] }
def stepS (f : Fo) (s : Rs) (c : Nat) : Option Rs :=
  if f.ce = some c then (if 12 ≤ s.cells.length + 1 ∨ 40 < s.pcs.length then none else endC s)
  else if f.bo = some c then some { s with mm := (s.mm.1, !s.mm.2.1, s.mm.2.2) }
  else if f.sl = some c then some { s with mm := (s.mm.1, s.mm.2.1, !s.mm.2.2) }
  else if f.op = some c ∧ s.mm.1 = "" then some { s with wd := some "" }
  else if f.en = some c ∧ s.mm.1 ≠ "" then some { s with mm := ("", s.mm.2.1, s.mm.2.2) }
  else if f.es = some c then (if room s then some { s with ie := true } else none)
  else none
def step (f : Fo) (s : Rs) (c : Nat) : Option Rs :=
  if c = 9 then none
  else if s.ie = true then (if c ∈ f.sgs ∧ s.pcs.length < 491 then some (putC { s with ie := false } c) else none)
  else match s.wd with
  | some w => if f.mi = some c ∧ w ≠ "" ∧ w ∈ LK4 then some { s with mm := (w, s.mm.2.1, s.mm.2.2), wd := none } else if c ∈ wordsC ∧ w.length < 12 then some { s with wd := some (w ++ chS c) } else none
  | none => if c ∈ f.sgs then stepS f s c else if room s then some (putC s c) else none
def run (f : Fo) : Rs → List Nat → Option Rs
  | s, [] => some s
  | s, c :: l => (step f s c).bind fun t => run f t l
theorem run_app (f : Fo) : ∀ (a b : List Nat) (s : Rs), run f s (a ++ b) = (run f s a).bind fun t => run f t b
  | [], b, s => rfl
  | c :: a, b, s => by
    show (step f s c).bind _ = ((step f s c).bind _).bind _
    cases step f s c with
    | none => rfl
    | some t => exact run_app f a b t
theorem run_one (f : Fo) (s : Rs) (c : Nat) : run f s [c] = step f s c := by
  show (step f s c).bind _ = _
  cases step f s c <;> rfl
/-! distinct signs -/
section
variable {f : Fo} (hf : FoOk f)
include hf
theorem os_in {o : Option Nat} {c : Nat} (h : o ∈ f.os) (e : o = some c) : c ∈ f.sgs := List.mem_filterMap.mpr ⟨o, h, e⟩
theorem os_nd {i j : Nat} {c : Nat} (hi : f.os[i]? = some (some c)) (hj : f.os[j]? = some (some c)) : i = j := by
  have q : ∀ (l : List (Option Nat)), (l.filterMap id).Nodup → ∀ (i j : Nat), l[i]? = some (some c) → l[j]? = some (some c) → i = j := by
    intro l
    induction l with
    | nil => intro _ i j h _; simp at h
    | cons a l ih =>
      intro nd i j h1 h2
      have mem : ∀ {n : Nat}, l[n]? = some (some c) → c ∈ l.filterMap id := fun h => List.mem_filterMap.mpr ⟨some c, List.mem_of_getElem? h, rfl⟩
      cases a with
      | none =>
        have nd : (l.filterMap id).Nodup := nd
        cases i with
        | zero => simp at h1
        | succ i =>
          cases j with
          | zero => simp at h2
          | succ j => rw [ih nd i j h1 h2]
      | some d =>
        have nd : (d :: l.filterMap id).Nodup := nd
        have nd2 := List.nodup_cons.mp nd
        cases i with
        | zero =>
          simp at h1
          cases j with
          | zero => rfl
          | succ j => exact absurd (mem h2) (h1 ▸ nd2.1)
        | succ i =>
          cases j with
          | zero =>
            simp at h2
            exact absurd (mem h1) (h2 ▸ nd2.1)
          | succ j => rw [ih nd2.2 i j h1 h2]
  exact q f.os hf.nd i j hi hj
theorem sg_ok {c : Nat} (h : c ∈ f.sgs) : c ≠ 9 ∧ c ∉ wordsC ∧ c ≠ 10 := by
  obtain ⟨a, b, d⟩ := hf.ok c h
  exact ⟨by omega, d, by omega⟩
end
end Vf
end
section
set_option Elab.async false
set_option linter.all false
set_option maxRecDepth 100000
set_option maxHeartbeats 4000000
namespace Vf
open PySem PySem.Spec PyProof.Rows L2 GxR GenW RZ
theorem LK4_word : ∀ l ∈ LK4, l = "" ∨ (∀ c ∈ cps l, c ∈ wordsC) ∧ l.length ≤ 12 ∧ l.length ≠ 0 := by decide +kernel
section
variable {f : Fo} (hf : FoOk f)
include hf
theorem os_ne {i j c : Nat} {x y : Option Nat} (hi : f.os[i]? = some x) (hj : f.os[j]? = some y) (h : i ≠ j) (hx : x = some c) : y ≠ some c := fun e => h (os_nd hf (c := c) (by rw [hi, hx]) (by rw [hj, e]))
theorem in_sgs {i c : Nat} {x : Option Nat} (hi : f.os[i]? = some x) (hx : x = some c) : c ∈ f.sgs := os_in hf (List.mem_of_getElem? hi) hx
theorem step_sign {s : Rs} {c : Nat} (h1 : s.ie = false) (h2 : s.wd = none) (h : c ∈ f.sgs) : step f s c = stepS f s c := by
  unfold step
  rw [if_neg (sg_ok hf h).1, h1, if_neg (by decide), h2]
  exact if_pos h
theorem step_bo {s : Rs} {c : Nat} (h1 : s.ie = false) (h2 : s.wd = none) (h : f.bo = some c) : step f s c = some { s with mm := (s.mm.1, !s.mm.2.1, s.mm.2.2) } := by
  rw [step_sign hf h1 h2 (in_sgs hf (i := 2) rfl h)]
  unfold stepS
  rw [if_neg (os_ne hf (i := 2) (j := 0) rfl rfl (by decide) h), if_pos h]
theorem step_sl {s : Rs} {c : Nat} (h1 : s.ie = false) (h2 : s.wd = none) (h : f.sl = some c) : step f s c = some { s with mm := (s.mm.1, s.mm.2.1, !s.mm.2.2) } := by
  rw [step_sign hf h1 h2 (in_sgs hf (i := 3) rfl h)]
  unfold stepS
  rw [if_neg (os_ne hf (i := 3) (j := 0) rfl rfl (by decide) h), if_neg (os_ne hf (i := 3) (j := 2) rfl rfl (by decide) h), if_pos h]
theorem step_op {s : Rs} {c : Nat} (h1 : s.ie = false) (h2 : s.wd = none) (h : f.op = some c) (h3 : s.mm.1 = "") : step f s c = some { s with wd := some "" } := by
  rw [step_sign hf h1 h2 (in_sgs hf (i := 4) rfl h)]
  unfold stepS
  rw [if_neg (os_ne hf (i := 4) (j := 0) rfl rfl (by decide) h), if_neg (os_ne hf (i := 4) (j := 2) rfl rfl (by decide) h), if_neg (os_ne hf (i := 4) (j := 3) rfl rfl (by decide) h), if_pos ⟨h, h3⟩]
theorem step_en {s : Rs} {c : Nat} (h1 : s.ie = false) (h2 : s.wd = none) (h : f.en = some c) (h3 : s.mm.1 ≠ "") : step f s c = some { s with mm := ("", s.mm.2.1, s.mm.2.2) } := by
  rw [step_sign hf h1 h2 (in_sgs hf (i := 6) rfl h)]
  unfold stepS
  rw [if_neg (os_ne hf (i := 6) (j := 0) rfl rfl (by decide) h), if_neg (os_ne hf (i := 6) (j := 2) rfl rfl (by decide) h), if_neg (os_ne hf (i := 6) (j := 3) rfl rfl (by decide) h), if_neg (fun z => os_ne hf (i := 6) (j := 4) rfl rfl (by decide) h z.1), if_pos ⟨h, h3⟩]
theorem step_es {s : Rs} {c : Nat} (h1 : s.ie = false) (h2 : s.wd = none) (h : f.es = some c) (h3 : room s = true) : step f s c = some { s with ie := true } := by
  rw [step_sign hf h1 h2 (in_sgs hf (i := 7) rfl h)]
  unfold stepS
  rw [if_neg (os_ne hf (i := 7) (j := 0) rfl rfl (by decide) h), if_neg (os_ne hf (i := 7) (j := 2) rfl rfl (by decide) h), if_neg (os_ne hf (i := 7) (j := 3) rfl rfl (by decide) h), if_neg (fun z => os_ne hf (i := 7) (j := 4) rfl rfl (by decide) h z.1), if_neg (fun z => os_ne hf (i := 7) (j := 6) rfl rfl (by decide) h z.1), if_pos h, if_pos h3]
theorem step_ce {s : Rs} {c : Nat} (h1 : s.ie = false) (h2 : s.wd = none) (h : f.ce = some c) (h3 : s.cells.length + 1 < 12) (h4 : s.pcs.length ≤ 40) (h5 : s.mm = NO) : step f s c = some { s with cells := s.cells ++ [s.pcs], pcs := [] } := by
  rw [step_sign hf h1 h2 (in_sgs hf (i := 0) rfl h)]
  unfold stepS
  rw [if_pos h, if_neg (by omega)]
  unfold endC
  rw [if_pos h5]
/-- one character -/
theorem run_esc {s : Rs} {c : Nat} (h1 : s.ie = false) (h2 : s.wd = none) (hc : 32 ≤ c) (h3 : room s = true) : run f s (esc f c) = some (putC s c) := by
  have n9 : c ≠ 9 := by omega
  unfold esc
  by_cases h : c ∈ f.sgs
  · rw [if_pos h]
    obtain ⟨e, he⟩ : ∃ e, f.es = some e := by
      cases q : f.es with
      | none => rw [hf.es q] at h; cases h
      | some e => exact ⟨e, rfl⟩
    rw [he]
    show (step f s e).bind _ = _
    rw [step_es hf h1 h2 he h3]
    show run f _ [c] = _
    rw [run_one]
    unfold step
    have l491 : s.pcs.length < 491 := by
      have q := of_decide_eq_true h3
      split at q <;> omega
    rw [if_neg n9, if_pos rfl, if_pos ⟨h, l491⟩]
    have : ({ s with ie := false } : Rs) = s := by
      cases s
      simp only at h1
      rw [h1]
    show some (putC { s with ie := false } c) = _
    rw [this]
  · rw [if_neg h, run_one]
    unfold step
    rw [if_neg n9, h1, if_neg (by decide), h2]
    show (if c ∈ f.sgs then _ else _) = _
    rw [if_neg h, if_pos h3]
/-- the word of a link -/
theorem run_word {mi : Nat} (hm : f.mi = some mi) : ∀ (l : List Nat) (s : Rs) (w : Str), s.ie = false → s.wd = some w → (∀ c ∈ l, c ∈ wordsC) → w.length + l.length ≤ 12 → w.length + l.length ≠ 0 → w ++ ⟨l.toArray⟩ ∈ LK4 → run f s (l ++ [mi]) = some { s with mm := (w ++ ⟨l.toArray⟩, s.mm.2.1, s.mm.2.2), wd := none }
  | [], s, w, h1, h2, _, _, hn, hk => by
    have wn : w ≠ "" := fun z => hn (by rw [z]; rfl)
    have e : w ++ (⟨([] : List Nat).toArray⟩ : Str) = w := cps_inj (by rw [cps_app]; show cps w ++ [] = _; rw [List.append_nil])
    show run f s [mi] = _
    rw [run_one]
    unfold step
    rw [if_neg (sg_ok hf (in_sgs hf (i := 5) rfl hm)).1, h1, if_neg (by decide), h2]
    rw [e] at hk ⊢
    show (if f.mi = some mi ∧ w ≠ "" ∧ w ∈ LK4 then _ else _) = _
    rw [if_pos ⟨hm, wn, hk⟩]
  | c :: l, s, w, h1, h2, hl, hz, _, hk => by
    have hc := hl c List.mem_cons_self
    have w9 : ∀ d ∈ wordsC, d ≠ 9 := by decide +kernel
    have nm : ¬ (f.mi = some c ∧ w ≠ "" ∧ w ∈ LK4) := fun z => (sg_ok hf (in_sgs hf (i := 5) rfl z.1)).2.1 hc
    have wl : w.length < 12 := by rw [List.length_cons] at hz; omega
    show (step f s c).bind _ = _
    have e1 : step f s c = some { s with wd := some (w ++ chS c) } := by
      unfold step
      rw [if_neg (w9 c hc), h1, if_neg (by decide), h2]
      show (if f.mi = some c ∧ w ≠ "" ∧ w ∈ LK4 then _ else _) = _
      rw [if_neg nm, if_pos ⟨hc, wl⟩]
    rw [e1]
    show run f _ (l ++ [mi]) = _
    have lw : (w ++ chS c).length = w.length + 1 := strLen_append w (chS c)
    have e2 : w ++ chS c ++ (⟨l.toArray⟩ : Str) = w ++ (⟨(c :: l).toArray⟩ : Str) := cps_inj (by rw [cps_app, cps_app, cps_app, List.append_assoc]; rfl)
    rw [run_word hm l { s with wd := some (w ++ chS c) } (w ++ chS c) h1 rfl (fun d hd => hl d (List.mem_cons_of_mem _ hd)) (by rw [List.length_cons] at hz; omega) (by omega) (by rw [e2]; exact hk)]
    show some _ = some _
    rw [e2]
/-- a change of the marks -/
theorem run_chg {s : Rs} {b m : Mk3} (h1 : s.ie = false) (h2 : s.wd = none) (h3 : s.mm = b) (hb : FitM f b) (hm : FitM f m) : run f s (chg f b m) = some { s with mm := m } := by
  subst h3
  obtain ⟨cells, pcs, ⟨bl, bb, bs⟩, wd, ie⟩ := s
  obtain ⟨ml, mb, ms⟩ := m
  simp only at h1 h2
  subst h1 h2
  unfold chg
  -- the link that ends
  have s1 : run f ⟨cells, pcs, (bl, bb, bs), none, false⟩ (chE f (bl, bb, bs) (ml, mb, ms)) = some ⟨cells, pcs, (if bl ≠ ml then "" else bl, bb, bs), none, false⟩ := by
    unfold chE
    by_cases e : bl = ml
    · rw [if_neg (fun z => z.1 e), if_neg (fun z => z e)]
      rfl
    · by_cases e2 : bl = ""
      · rw [if_neg (fun z => z.2 e2), if_pos e, e2]
        rfl
      · rw [if_pos ⟨e, e2⟩, if_pos e]
        obtain ⟨c, hc⟩ : ∃ c, f.en = some c := by
          cases q : f.en with
          | some c => exact ⟨c, rfl⟩
          | none =>
            have q1 := hf.l2
            have q2 := hf.l1
            rw [q] at q1
            rw [q1] at q2
            have q3 : f.op = none := by
              cases q4 : f.op with
              | none => rfl
              | some c => rw [q4] at q2; cases q2
            exact absurd (hb.l q3) e2
        rw [hc]
        show run f _ [c] = _
        rw [run_one, step_en hf rfl rfl hc e2]
  have s2 : ∀ l : Str, run f ⟨cells, pcs, (l, bb, bs), none, false⟩ (chB f (bl, bb, bs) (ml, mb, ms)) = some ⟨cells, pcs, (l, mb, bs), none, false⟩ := by
    intro l
    unfold chB
    by_cases e : bb = mb
    · rw [if_neg (fun z => z e), e]
      rfl
    · rw [if_pos e]
      obtain ⟨c, hc⟩ : ∃ c, f.bo = some c := by
        cases q : f.bo with
        | some c => exact ⟨c, rfl⟩
        | none =>
          have q1 : bb = false := hb.b q
          have q2 : mb = false := hm.b q
          exact absurd (q1.trans q2.symm) e
      rw [hc]
      show run f _ [c] = _
      rw [run_one, step_bo hf rfl rfl hc]
      have : (!bb) = mb := by cases bb <;> cases mb <;> first | rfl | exact absurd rfl e
      show some (Rs.mk cells pcs (l, !bb, bs) none false) = _
      rw [this]
  have s3 : ∀ l : Str, run f ⟨cells, pcs, (l, mb, bs), none, false⟩ (chS' f (bl, bb, bs) (ml, mb, ms)) = some ⟨cells, pcs, (l, mb, ms), none, false⟩ := by
    intro l
    unfold chS'
    by_cases e : bs = ms
    · rw [if_neg (fun z => z e), e]
      rfl
    · rw [if_pos e]
      obtain ⟨c, hc⟩ : ∃ c, f.sl = some c := by
        cases q : f.sl with
        | some c => exact ⟨c, rfl⟩
        | none =>
          have q1 : bs = false := hb.s q
          have q2 : ms = false := hm.s q
          exact absurd (q1.trans q2.symm) e
      rw [hc]
      show run f _ [c] = _
      rw [run_one, step_sl hf rfl rfl hc]
      have : (!bs) = ms := by cases bs <;> cases ms <;> first | rfl | exact absurd rfl e
      show some (Rs.mk cells pcs (l, mb, !bs) none false) = _
      rw [this]
  have s4 : run f ⟨cells, pcs, (if bl ≠ ml then "" else bl, mb, ms), none, false⟩ (chO f (bl, bb, bs) (ml, mb, ms)) = some ⟨cells, pcs, (ml, mb, ms), none, false⟩ := by
    unfold chO
    by_cases e : bl = ml
    · rw [if_neg (fun z => z e), if_neg (fun z => z.1 e), e]
      rfl
    · rw [if_pos e]
      by_cases e2 : ml = ""
      · rw [if_neg (fun z => z.2 e2), e2]
        rfl
      · rw [if_pos ⟨e, e2⟩]
        obtain ⟨c, hc⟩ : ∃ c, f.op = some c := by
          cases q : f.op with
          | some c => exact ⟨c, rfl⟩
          | none => exact absurd (hm.l q) e2
        obtain ⟨d, hd⟩ : ∃ d, f.mi = some d := by
          have q1 := hf.l1
          rw [hc] at q1
          cases q : f.mi with
          | some d => exact ⟨d, rfl⟩
          | none => rw [q] at q1; cases q1
        rw [hc, hd]
        show (step f _ c).bind _ = _
        rw [step_op hf rfl rfl hc rfl]
        show run f _ (cps ml ++ [d]) = _
        rcases LK4_word ml hm.k with z | ⟨z1, z2, z3⟩
        · exact absurd z e2
        · have l0 : ("" : Str).length = 0 := rfl
          have e3 : ("" : Str) ++ (⟨(cps ml).toArray⟩ : Str) = ml := cps_inj (by rw [cps_app, show cps "" = [] by decide +kernel]; rfl)
          rw [run_word hf hd (cps ml) ⟨cells, pcs, ("", mb, ms), some "", false⟩ "" rfl rfl z1 (by rw [cps_len]; omega) (by rw [cps_len]; omega) (by rw [e3]; exact hm.k)]
          show some _ = some _
          rw [e3]
  rw [run_app, s1]
  show run f _ (chB f _ _ ++ _) = _
  rw [run_app, s2]
  show run f _ (chS' f _ _ ++ _) = _
  rw [run_app, s3]
  exact s4
end
end Vf
end
section
set_option Elab.async false
set_option linter.all false
set_option maxRecDepth 100000
set_option maxHeartbeats 4000000
namespace Vf
open PySem PySem.Spec PyProof.Rows L2 GxR GenW RZ
def cap (s : Rs) : Nat := if s.cells.isEmpty then 491 else 40
theorem room_cap {s : Rs} (h : s.pcs.length < cap s) : room s = true := decide_eq_true h
def Rs0 : Rs := ⟨[], [], NO, none, false⟩
/-- the reader's end of a line -/
structure Ends (t : Rs) (cs : List Fc) : Prop where
  ie : t.ie = false
  wd : t.wd = none
  mm : t.mm = NO
  cs : t.cells ++ [t.pcs] = cs
section
variable {f : Fo} (hf : FoOk f)
include hf
theorem run_cell : ∀ (xs : Fc) (s : Rs) (b : Mk3), s.ie = false → s.wd = none → s.mm = b → FitM f b → FitC f xs → s.pcs.length + xs.length ≤ cap s → run f s (wr f b xs) = some { s with pcs := s.pcs ++ xs, mm := NO }
  | [], s, b, h1, h2, h3, hb, _, _ => by
    show run f s (chg f b NO) = _
    rw [run_chg hf h1 h2 h3 hb (FitM.no f), List.append_nil]
  | (c, m) :: xs, s, b, h1, h2, h3, hb, hx, hz => by
    obtain ⟨fm, c32, _⟩ := hx (c, m) List.mem_cons_self
    have hl : s.pcs.length < cap s := by rw [List.length_cons] at hz; omega
    show run f s (chg f b m ++ (esc f c ++ wr f m xs)) = _
    rw [run_app, run_chg hf h1 h2 h3 hb fm]
    show run f _ (esc f c ++ wr f m xs) = _
    rw [run_app, run_esc hf (s := { s with mm := m }) h1 h2 c32 (room_cap hl)]
    show run f (putC { s with mm := m } c) (wr f m xs) = _
    rw [run_cell xs (putC { s with mm := m } c) m h1 h2 rfl fm (fun x hx' => hx x (List.mem_cons_of_mem _ hx')) (by
      show (s.pcs ++ [(c, m)]).length + xs.length ≤ cap s
      rw [List.length_append, List.length_singleton]
      rw [List.length_cons] at hz
      omega)]
    show some (Rs.mk s.cells ((s.pcs ++ [(c, m)]) ++ xs) NO s.wd s.ie) = _
    rw [List.append_assoc]
    rfl
theorem run_cells : ∀ (cs : List Fc) (s : Rs), cs ≠ [] → s.ie = false → s.wd = none → s.mm = NO → s.pcs = [] → (∀ xs ∈ cs, FitC f xs) → s.cells.length + cs.length ≤ 12 → ((s.cells = [] ∧ cs.length = 1 ∧ ∀ xs ∈ cs, xs.length ≤ 491) ∨ ∀ xs ∈ cs, xs.length ≤ 40) → (f.ce = none → cs.length = 1) →
    ∃ t, run f s (joinL (ol f.ce) (cs.map (wr f NO))) = some t ∧ Ends t (s.cells ++ cs)
  | [], s, h, _, _, _, _, _, _, _, _ => absurd rfl h
  | [xs], s, _, h1, h2, h3, h4, hc, _, hz, _ => by
    have lc : xs.length ≤ cap s := by
      unfold cap
      rcases hz with ⟨e, _, z⟩ | z
      · rw [e]
        exact z xs (by simp)
      · have := z xs (by simp)
        split <;> omega
    refine ⟨_, run_cell hf xs s NO h1 h2 h3 (FitM.no f) (hc xs (by simp)) (by rw [h4]; show 0 + xs.length ≤ _; omega), h1, h2, rfl, ?_⟩
    show s.cells ++ [s.pcs ++ xs] = _
    rw [h4]; rfl
  | xs :: ys :: r, s, _, h1, h2, h3, h4, hc, hn, hz, hce => by
    obtain ⟨e, he⟩ : ∃ e, f.ce = some e := by
      cases q : f.ce with
      | some e => exact ⟨e, rfl⟩
      | none =>
        have := hce q
        rw [List.length_cons, List.length_cons] at this
        omega
    have z40 : ∀ xs' ∈ xs :: ys :: r, xs'.length ≤ 40 := by
      rcases hz with ⟨_, z, _⟩ | z
      · rw [List.length_cons, List.length_cons] at z
        omega
      · exact z
    have lx := z40 xs List.mem_cons_self
    have lc : xs.length ≤ cap s := by
      unfold cap
      split <;> omega
    rw [List.length_cons, List.length_cons] at hn
    show ∃ t, run f s (wr f NO xs ++ (ol f.ce ++ joinL (ol f.ce) ((ys :: r).map (wr f NO)))) = some t ∧ _
    rw [run_app, run_cell hf xs s NO h1 h2 h3 (FitM.no f) (hc xs (by simp)) (by rw [h4]; show 0 + xs.length ≤ _; omega)]
    show ∃ t, run f _ (ol f.ce ++ _) = some t ∧ _
    have e0 : s.pcs ++ xs = xs := by rw [h4]; rfl
    rw [run_app, he]
    have e1 : run f { s with pcs := s.pcs ++ xs, mm := NO } (ol (some e)) = some { s with pcs := [], mm := NO, cells := s.cells ++ [xs] } := by
      show run f _ [e] = _
      rw [run_one, step_ce hf (s := { s with pcs := s.pcs ++ xs, mm := NO }) h1 h2 he (by show s.cells.length + 1 < 12; omega) (by show (s.pcs ++ xs).length ≤ 40; rw [e0]; exact lx) rfl]
      show some (Rs.mk (s.cells ++ [s.pcs ++ xs]) [] NO s.wd s.ie) = _
      rw [e0]
    rw [e1]
    obtain ⟨t, ht, et⟩ := run_cells (ys :: r) { s with pcs := [], mm := NO, cells := s.cells ++ [xs] } (by simp) h1 h2 rfl rfl (fun x hx => hc x (List.mem_cons_of_mem _ hx)) (by
      show (s.cells ++ [xs]).length + (ys :: r).length ≤ 12
      rw [List.length_append, List.length_singleton, List.length_cons]
      omega) (.inr fun x hx => z40 x (List.mem_cons_of_mem _ hx)) (fun z => by rw [he] at z; cases z)
    refine ⟨t, by rw [he] at ht; exact ht, ?_⟩
    have e2 : (s.cells ++ [xs]) ++ (ys :: r) = s.cells ++ (xs :: ys :: r) := by rw [List.append_assoc]; rfl
    rw [← e2]
    exact et
end
/-! ### levels -/
def dep (o : Option Nat) : List Nat → Nat
  | [] => 0
  | c :: l => if o = some c then dep o l + 1 else 0
theorem dep_rep {o : Option Nat} {c : Nat} (h : o = some c) (rest : List Nat) (hr : ∀ d l, rest = d :: l → o ≠ some d) : ∀ n, dep o (List.replicate n c ++ rest) = n
  | 0 => by
    show dep o rest = 0
    cases rest with
    | nil => rfl
    | cons d l =>
      show (if o = some d then _ else 0) = 0
      rw [if_neg (hr d l rfl)]
  | n + 1 => by
    show (if o = some c then dep o (List.replicate n c ++ rest) + 1 else 0) = n + 1
    rw [if_pos h, dep_rep h rest hr n]
theorem dep_none (l : List Nat) : dep none l = 0 := by
  cases l <;> rfl
theorem flat_ol (c n : Nat) : (List.replicate n (ol (some c))).flatten = List.replicate n c := by
  induction n with
  | zero => rfl
  | succ n ih =>
    rw [List.replicate_succ, List.flatten_cons, ih, List.replicate_succ]
    rfl
/-- a line that is read -/
structure RL (f : Fo) (text : List Nat) (l : Fln) : Prop where
  d : dep f.le text = l.1
  d6 : l.1 ≤ 6
  r : ∃ t, run f Rs0 (text.drop l.1) = some t ∧ Ends t l.2
section
variable {f : Fo} (hf : FoOk f)
include hf
/-- what a rest of a line begins with -/
theorem head_wr {b : Mk3} {xs : Fc} {d : Nat} {l : List Nat} (h : wr f b xs = d :: l) (hb : b = NO) (hx : FitC f xs) : f.le ≠ some d := by
  subst hb
  have ne : ∀ {i : Nat} {o : Option Nat}, f.os[i]? = some o → i ≠ 1 → o = some d → f.le ≠ some d := fun hi h1 ho => os_ne hf (j := 1) hi rfl h1 ho
  cases xs with
  | nil =>
    have e : wr f NO [] = [] := chg_same f NO
    rw [e] at h
    cases h
  | cons x xs =>
    obtain ⟨c, m⟩ := x
    have h' : chg f NO m ++ (esc f c ++ wr f m xs) = d :: l := h
    unfold chg at h'
    have e1 : chE f NO m = [] := by
      unfold chE
      rw [if_neg (fun z => z.2 rfl)]
    rw [e1, List.nil_append, List.append_assoc] at h'
    unfold chB at h'
    by_cases b1 : NO.2.1 ≠ m.2.1
    · rw [if_pos b1] at h'
      cases q : f.bo with
      | some e =>
        rw [q] at h'
        cases h'
        exact ne (i := 2) rfl (by decide) q
      | none => exact absurd ((hx (c, m) List.mem_cons_self).1.b q).symm b1
    · rw [if_neg b1, List.nil_append, List.append_assoc] at h'
      unfold chS' at h'
      by_cases b2 : NO.2.2 ≠ m.2.2
      · rw [if_pos b2] at h'
        cases q : f.sl with
        | some e =>
          rw [q] at h'
          cases h'
          exact ne (i := 3) rfl (by decide) q
        | none => exact absurd ((hx (c, m) List.mem_cons_self).1.s q).symm b2
      · rw [if_neg b2, List.nil_append] at h'
        unfold chO at h'
        by_cases b3 : NO.1 ≠ m.1 ∧ m.1 ≠ ""
        · rw [if_pos b3] at h'
          cases q : f.op with
          | some e =>
            rw [q] at h'
            cases h'
            exact ne (i := 4) rfl (by decide) q
          | none => exact absurd ((hx (c, m) List.mem_cons_self).1.l q) b3.2
        · rw [if_neg b3, List.nil_append] at h'
          unfold esc at h'
          by_cases b4 : c ∈ f.sgs
          · rw [if_pos b4] at h'
            cases q : f.es with
            | some e =>
              rw [q] at h'
              cases h'
              exact ne (i := 7) rfl (by decide) q
            | none =>
              rw [hf.es q] at b4
              cases b4
          · rw [if_neg b4] at h'
            cases h'
            exact fun z => b4 (in_sgs hf (i := 1) rfl z)
theorem head_ln {l : Fln} (fl : FitL f l) {d : Nat} {r : List Nat} (h : lnR f l = d :: r) : f.le ≠ some d := by
  obtain ⟨dp, cs⟩ := l
  have hc := fl.c
  unfold lnR at h
  match cs, h, hc with
  | [x], h, hc => exact head_wr hf h rfl (hc x (by simp))
  | x :: y :: cs, h, hc =>
    have h' : wr f NO x ++ (ol f.ce ++ joinL (ol f.ce) ((y :: cs).map (wr f NO))) = d :: r := h
    cases q : wr f NO x with
    | cons e s =>
      rw [q] at h'
      cases h'
      exact head_wr hf q rfl (hc x (by simp))
    | nil =>
      rw [q, List.nil_append] at h'
      cases q2 : f.ce with
      | some e =>
        rw [q2] at h'
        cases h'
        exact os_ne hf (i := 0) (j := 1) rfl rfl (by decide) q2
      | none =>
        have := fl.ce q2
        simp at this
theorem rl_ln {l : Fln} (fl : FitL f l) {rest : List Nat} (hh : ∀ d r, rest = d :: r → f.le ≠ some d) (hr : ∃ t, run f Rs0 rest = some t ∧ Ends t l.2) : RL f ((List.replicate l.1 (ol f.le)).flatten ++ rest) l := by
  have h6 := fl.ok.d
  cases q : f.le with
  | none =>
    have d0 := fl.le q
    rw [d0]
    exact ⟨by rw [q, d0]; exact dep_none _, by omega, by rw [d0]; exact hr⟩
  | some c =>
    rw [flat_ol]
    refine ⟨by rw [q]; exact dep_rep rfl rest (by rw [← q]; exact hh) l.1, h6, ?_⟩
    rw [List.drop_append_of_le_length (by rw [List.length_replicate]; exact Nat.le_refl _), List.drop_of_length_le (by rw [List.length_replicate]; exact Nat.le_refl _), List.nil_append]
    exact hr
theorem run_line {l : Fln} (fl : FitL f l) : ∃ t, run f Rs0 (lnR f l) = some t ∧ Ends t l.2 := by
  have g := fl.ok.g
  have q := run_cells hf l.2 Rs0 (fun z => by have := fl.ok.c1; rw [z] at this; exact absurd this (by decide)) rfl rfl rfl rfl fl.c (by show 0 + l.2.length ≤ 12; have := fl.ok.c12; omega) ?_ fl.ce
  · exact q
  · rcases fl.ok.s with z | z
    · exact .inl ⟨rfl, z, fun xs hx => Nat.le_trans (gl_ge hx) g⟩
    · exact .inr z
theorem rl_written {l : Fln} (fl : FitL f l) : RL f (lnT f l) l := rl_ln hf fl (fun _ _ h => head_ln hf fl h) (run_line hf fl)
end
end Vf
end
section
set_option Elab.async false
set_option linter.all false
set_option maxRecDepth 100000
set_option maxHeartbeats 4000000
namespace Vf
open PySem PySem.Spec PyProof.Rows L2 GxR GenW RZ
/-! ### switches that change nothing -/
def nE (f : Fo) (e : Bool) (c : Nat) : Bool := decide (f.es = some c) && !e
def nW (f : Fo) (e w : Bool) (c : Nat) : Bool := if e = false ∧ (f.op = some c ∨ f.mi = some c) then decide (f.op = some c) else w
inductive SwT (f : Fo) : Bool → Bool → List Nat → List Nat → Prop
  | nil (e w : Bool) : SwT f e w [] []
  | cons {e w : Bool} {l r : List Nat} (c : Nat) : SwT f (nE f e c) (nW f e w c) l r → SwT f e w (c :: l) (c :: r)
  | pair {l r : List Nat} (x c : Nat) : (f.bo = some x ∨ f.sl = some x) → f.le ≠ some c → SwT f (nE f false c) (nW f false false c) l r → SwT f false false (c :: l) (x :: x :: c :: r)
inductive Pre (f : Fo) : List Nat → List Nat → Bool → Bool → Prop
  | nil : Pre f [] [] false false
  | one {l r : List Nat} {e w : Bool} (c : Nat) : Pre f l r e w → Pre f (l ++ [c]) (r ++ [c]) (nE f e c) (nW f e w c)
  | two {l r : List Nat} (x c : Nat) : Pre f l r false false → (f.bo = some x ∨ f.sl = some x) → f.le ≠ some c → Pre f (l ++ [c]) (r ++ [x, x] ++ [c]) (nE f false c) (nW f false false c)
theorem Pre.sw {f : Fo} {l r : List Nat} {e w : Bool} (h : Pre f l r e w) : ∀ {a b : List Nat}, SwT f e w a b → SwT f false false (l ++ a) (r ++ b) := by
  induction h with
  | nil => exact fun q => q
  | one c _ ih =>
    intro a b q
    rw [List.append_assoc, List.append_assoc]
    exact ih (.cons c q)
  | two x c _ hx hc ih =>
    intro a b q
    rw [List.append_assoc, List.append_assoc, List.append_assoc]
    exact ih (.pair x c hx hc q)
def flg (f : Fo) : Bool × Bool → List Nat → Bool × Bool
  | p, [] => p
  | p, c :: l => flg f (nE f p.1 c, nW f p.1 p.2 c) l
theorem SwT.split {f : Fo} : ∀ {a b : List Nat} {e w : Bool} {z : List Nat}, SwT f e w (a ++ b) z → ∃ z1 z2, z = z1 ++ z2 ∧ SwT f e w a z1 ∧ SwT f (flg f (e, w) a).1 (flg f (e, w) a).2 b z2
  | [], b, e, w, z, h => ⟨[], z, rfl, .nil _ _, h⟩
  | c :: a, b, e, w, z, h => by
    have h' : SwT f e w (c :: (a ++ b)) z := h
    cases h' with
    | cons _ q =>
      obtain ⟨z1, z2, rfl, q1, q2⟩ := SwT.split q
      exact ⟨c :: z1, z2, rfl, .cons c q1, q2⟩
    | pair x _ hx hc q =>
      obtain ⟨z1, z2, rfl, q1, q2⟩ := SwT.split q
      exact ⟨x :: x :: c :: z1, z2, rfl, .pair x c hx hc q1, q2⟩
section
variable {f : Fo} (hf : FoOk f)
include hf
theorem sg_ne {i j c : Nat} {x y : Option Nat} (hi : f.os[i]? = some x) (hj : f.os[j]? = some y) (h : i ≠ j) (hx : x = some c) : decide (y = some c) = false := decide_eq_false (os_ne hf hi hj h hx)
theorem not_sgs {i c : Nat} {x : Option Nat} (hi : f.os[i]? = some x) (h : c ∉ f.sgs) : x ≠ some c := fun z => h (in_sgs hf hi z)
theorem nE_not {e : Bool} {c : Nat} (h : f.es ≠ some c) : nE f e c = false := by
  unfold nE
  rw [decide_eq_false h, Bool.false_and]
theorem nW_not {e w : Bool} {c : Nat} (h1 : f.op ≠ some c) (h2 : f.mi ≠ some c) : nW f e w c = w := by
  unfold nW
  rw [if_neg (fun z => by rcases z.2 with z | z; exact h1 z; exact h2 z)]
theorem step_flags {s t : Rs} {c : Nat} (h : step f s c = some t) : t.ie = nE f s.ie c ∧ t.wd.isSome = nW f s.ie s.wd.isSome c := by
  obtain ⟨cells, pcs, mm, wd, ie⟩ := s
  unfold step at h
  by_cases c9 : c = 9
  · rw [if_pos c9] at h; cases h
  rw [if_neg c9] at h
  cases ie with
  | true =>
    rw [if_pos rfl] at h
    by_cases hs : c ∈ f.sgs ∧ pcs.length < 491
    · rw [if_pos hs] at h
      cases h
      refine ⟨?_, ?_⟩
      · show false = (_ && !true)
        rw [Bool.not_true, Bool.and_false]
      · show _ = nW f true _ c
        unfold nW
        rw [if_neg (fun z => by cases z.1)]
        rfl
    · rw [if_neg hs] at h; cases h
  | false =>
    rw [if_neg (show ¬ (false = true) from Bool.false_ne_true)] at h
    cases wd with
    | some w =>
      have h : (if f.mi = some c ∧ w ≠ "" ∧ w ∈ LK4 then _ else _) = some t := h
      by_cases hm : f.mi = some c ∧ w ≠ "" ∧ w ∈ LK4
      · rw [if_pos hm] at h
        cases h
        refine ⟨(nE_not hf (os_ne hf (i := 5) (j := 7) rfl rfl (by decide) hm.1)).symm, ?_⟩
        show false = nW f false true c
        unfold nW
        rw [if_pos ⟨rfl, .inr hm.1⟩]
        exact (sg_ne hf (i := 5) (j := 4) rfl rfl (by decide) hm.1).symm
      · rw [if_neg hm] at h
        by_cases hw : c ∈ wordsC ∧ w.length < 12
        · rw [if_pos hw] at h
          cases h
          have ns : c ∉ f.sgs := fun z => (sg_ok hf z).2.1 hw.1
          exact ⟨(nE_not hf (not_sgs hf (i := 7) rfl ns)).symm, (nW_not hf (not_sgs hf (i := 4) rfl ns) (not_sgs hf (i := 5) rfl ns)).symm⟩
        · rw [if_neg hw] at h; cases h
    | none =>
      have h : (if c ∈ f.sgs then stepS f _ c else _) = some t := h
      by_cases hs : c ∈ f.sgs
      · rw [if_pos hs] at h
        unfold stepS at h
        have plain : ∀ {i : Nat} {o : Option Nat}, f.os[i]? = some o → o = some c → i ≠ 7 → i ≠ 4 → i ≠ 5 → t.ie = false → t.wd.isSome = false → t.ie = nE f false c ∧ t.wd.isSome = nW f false false c := fun hi ho h7 h4 h5 e1 e2 =>
          ⟨e1.trans (nE_not hf (os_ne hf (j := 7) hi rfl h7 ho)).symm, e2.trans (nW_not hf (os_ne hf (j := 4) hi rfl h4 ho) (os_ne hf (j := 5) hi rfl h5 ho)).symm⟩
        by_cases k0 : f.ce = some c
        · rw [if_pos k0] at h
          split at h
          · cases h
          · unfold endC at h
            split at h
            · cases h
              exact plain (i := 0) rfl k0 (by decide) (by decide) (by decide) rfl rfl
            · cases h
        rw [if_neg k0] at h
        by_cases k1 : f.bo = some c
        · rw [if_pos k1] at h
          cases h
          exact plain (i := 2) rfl k1 (by decide) (by decide) (by decide) rfl rfl
        rw [if_neg k1] at h
        by_cases k2 : f.sl = some c
        · rw [if_pos k2] at h
          cases h
          exact plain (i := 3) rfl k2 (by decide) (by decide) (by decide) rfl rfl
        rw [if_neg k2] at h
        by_cases k3 : f.op = some c ∧ mm.1 = ""
        · rw [if_pos k3] at h
          cases h
          refine ⟨(nE_not hf (os_ne hf (i := 4) (j := 7) rfl rfl (by decide) k3.1)).symm, ?_⟩
          show true = nW f false false c
          unfold nW
          rw [if_pos ⟨rfl, .inl k3.1⟩, decide_eq_true k3.1]
        rw [if_neg k3] at h
        by_cases k4 : f.en = some c ∧ mm.1 ≠ ""
        · rw [if_pos k4] at h
          cases h
          exact plain (i := 6) rfl k4.1 (by decide) (by decide) (by decide) rfl rfl
        rw [if_neg k4] at h
        by_cases k5 : f.es = some c
        · rw [if_pos k5] at h
          split at h
          · cases h
            refine ⟨?_, (nW_not hf (os_ne hf (i := 7) (j := 4) rfl rfl (by decide) k5) (os_ne hf (i := 7) (j := 5) rfl rfl (by decide) k5)).symm⟩
            show true = nE f false c
            unfold nE
            rw [decide_eq_true k5]
            rfl
          · cases h
        · rw [if_neg k5] at h; cases h
      · rw [if_neg hs] at h
        split at h
        · cases h
          exact ⟨(nE_not hf (not_sgs hf (i := 7) rfl hs)).symm, (nW_not hf (not_sgs hf (i := 4) rfl hs) (not_sgs hf (i := 5) rfl hs)).symm⟩
        · cases h
theorem run_pair {s : Rs} {x : Nat} (h1 : s.ie = false) (h2 : s.wd = none) (hx : f.bo = some x ∨ f.sl = some x) (l : List Nat) : run f s (x :: x :: l) = run f s l := by
  obtain ⟨cells, pcs, ⟨ml, mb, ms⟩, wd, ie⟩ := s
  simp only at h1 h2
  subst h1 h2
  show (step f _ x).bind (fun t => (step f t x).bind fun t => run f t l) = _
  rcases hx with hx | hx
  · rw [step_bo hf rfl rfl hx]
    show (step f _ x).bind _ = _
    rw [step_bo hf rfl rfl hx]
    show run f (Rs.mk cells pcs (ml, !!mb, ms) none false) l = _
    rw [Bool.not_not]
  · rw [step_sl hf rfl rfl hx]
    show (step f _ x).bind _ = _
    rw [step_sl hf rfl rfl hx]
    show run f (Rs.mk cells pcs (ml, mb, !!ms) none false) l = _
    rw [Bool.not_not]
theorem run_sw {l r : List Nat} {e w : Bool} (h : SwT f e w l r) : ∀ {s t : Rs}, s.ie = e → s.wd.isSome = w → run f s l = some t → run f s r = some t ∧ t.ie = (flg f (e, w) l).1 ∧ t.wd.isSome = (flg f (e, w) l).2 := by
  induction h with
  | nil e w =>
    intro s t h1 h2 h3
    cases h3
    exact ⟨rfl, h1, h2⟩
  | cons c q ih =>
    intro s t h1 h2 h3
    have h3 : (step f s c).bind _ = some t := h3
    cases e1 : step f s c with
    | none => rw [e1] at h3; cases h3
    | some s1 =>
      rw [e1] at h3
      obtain ⟨g1, g2⟩ := step_flags hf e1
      rw [h1] at g1 g2
      rw [h2] at g2
      have q2 := ih g1 g2 h3
      refine ⟨?_, q2.2⟩
      show (step f s c).bind _ = _
      rw [e1]
      exact q2.1
  | pair x c hx hc q ih =>
    intro s t h1 h2 h3
    have wn : s.wd = none := by
      cases e : s.wd with
      | none => rfl
      | some y => rw [e] at h2; cases h2
    rw [run_pair hf h1 wn hx]
    have h3 : (step f s c).bind _ = some t := h3
    cases e1 : step f s c with
    | none => rw [e1] at h3; cases h3
    | some s1 =>
      rw [e1] at h3
      obtain ⟨g1, g2⟩ := step_flags hf e1
      rw [h1] at g1 g2
      rw [h2] at g2
      have q2 := ih g1 g2 h3
      refine ⟨?_, q2.2⟩
      show (step f s c).bind _ = _
      rw [e1]
      exact q2.1
end
end Vf
end
section
set_option Elab.async false
set_option linter.all false
set_option maxRecDepth 100000
set_option maxHeartbeats 4000000
namespace Vf
open PySem PySem.Spec PyProof.Rows L2 GxR GenW RZ
theorem words10 : ∀ d ∈ wordsC, d ≠ 10 := by decide +kernel
inductive All2 {α β : Type} (R : α → β → Prop) : List α → List β → Prop
  | nil : All2 R [] []
  | cons {a : α} {b : β} {l : List α} {m : List β} : R a b → All2 R l m → All2 R (a :: l) (b :: m)
theorem All2.len {α β : Type} {R : α → β → Prop} {l : List α} {m : List β} (h : All2 R l m) : l.length = m.length := by
  induction h with
  | nil => rfl
  | cons _ _ ih => rw [List.length_cons, List.length_cons, ih]
theorem All2.get {α β : Type} {R : α → β → Prop} {l : List α} {m : List β} (h : All2 R l m) : ∀ {i : Nat} {a : α} {b : β}, l[i]? = some a → m[i]? = some b → R a b := by
  induction h with
  | nil => intro i a b h1; simp at h1
  | cons r _ ih =>
    intro i a b h1 h2
    cases i with
    | zero => cases h1; cases h2; exact r
    | succ i => exact ih h1 h2
theorem SwT.refl (f : Fo) : ∀ (l : List Nat) (e w : Bool), SwT f e w l l
  | [], e, w => .nil e w
  | c :: l, e, w => .cons c (SwT.refl f l _ _)
section
variable {f : Fo} (hf : FoOk f)
include hf
theorem ol10 {i c : Nat} {o : Option Nat} (hi : f.os[i]? = some o) (h : c ∈ ol o) : c ≠ 10 := by
  cases o with
  | none => cases h
  | some d =>
    have e : c = d := List.mem_singleton.mp h
    rw [e]
    exact (sg_ok hf (in_sgs hf hi rfl)).2.2
theorem chg10 {b m : Mk3} (hm : m.1 ∈ LK4) {c : Nat} (h : c ∈ chg f b m) : c ≠ 10 := by
  unfold chg at h
  rcases List.mem_append.mp h with h | h
  · unfold chE at h
    split at h
    · exact ol10 hf (i := 6) rfl h
    · cases h
  rcases List.mem_append.mp h with h | h
  · unfold chB at h
    split at h
    · exact ol10 hf (i := 2) rfl h
    · cases h
  rcases List.mem_append.mp h with h | h
  · unfold chS' at h
    split at h
    · exact ol10 hf (i := 3) rfl h
    · cases h
  · unfold chO at h
    split at h
    · rcases List.mem_append.mp h with h | h
      · exact ol10 hf (i := 4) rfl h
      rcases List.mem_append.mp h with h | h
      · rcases LK4_word m.1 hm with z | z
        · rw [z] at h
          have e : cps "" = [] := by decide +kernel
          rw [e] at h
          cases h
        · exact words10 c (z.1 c h)
      · exact ol10 hf (i := 5) rfl h
    · cases h
theorem wr10 : ∀ {xs : Fc} {b : Mk3}, FitC f xs → ∀ c ∈ wr f b xs, c ≠ 10
  | [], b, _, c, h => chg10 hf (by simp [NO, LK4]) h
  | (d, m) :: xs, b, hx, c, h => by
    obtain ⟨fm, c32, _⟩ := hx (d, m) List.mem_cons_self
    have h' : c ∈ chg f b m ++ (esc f d ++ wr f m xs) := h
    rcases List.mem_append.mp h' with h | h
    · exact chg10 hf fm.k h
    rcases List.mem_append.mp h with h | h
    · unfold esc at h
      have d10 : c ∈ [d] → c ≠ 10 := fun z => by
        rw [List.mem_singleton.mp z]
        have : 32 ≤ d := c32
        omega
      split at h
      · rcases List.mem_append.mp h with h | h
        · exact ol10 hf (i := 7) rfl h
        · exact d10 h
      · exact d10 h
    · exact wr10 (fun x hx' => hx x (List.mem_cons_of_mem _ hx')) c h
theorem join10 : ∀ {ps : List (List Nat)}, (∀ p ∈ ps, ∀ c ∈ p, c ≠ 10) → ∀ c ∈ joinL (ol f.ce) ps, c ≠ 10
  | [], _, c, h => by cases h
  | [p], hp, c, h => hp p (by simp) c h
  | p :: q :: r, hp, c, h => by
    have h' : c ∈ p ++ (ol f.ce ++ joinL (ol f.ce) (q :: r)) := h
    rcases List.mem_append.mp h' with h | h
    · exact hp p (by simp) c h
    rcases List.mem_append.mp h with h | h
    · exact ol10 hf (i := 0) rfl h
    · exact join10 (fun p hp' => hp p (List.mem_cons_of_mem _ hp')) c h
theorem lnR10 {l : Fln} (fl : FitL f l) : ∀ c ∈ lnR f l, c ≠ 10 := join10 hf fun p hp => by
  obtain ⟨xs, hx, rfl⟩ := List.mem_map.mp hp
  exact wr10 hf (fl.c xs hx)
theorem sw10 {e w : Bool} {l r : List Nat} (h : SwT f e w l r) : (∀ c ∈ l, c ≠ 10) → ∀ c ∈ r, c ≠ 10 := by
  induction h with
  | nil => intro _ c h; cases h
  | cons c _ ih =>
    intro hl d hd
    rcases List.mem_cons.mp hd with rfl | hd
    · exact hl d List.mem_cons_self
    · exact ih (fun x hx => hl x (List.mem_cons_of_mem _ hx)) d hd
  | pair x c hx _ _ ih =>
    intro hl d hd
    have x10 : x ≠ 10 := by
      rcases hx with hx | hx
      · exact (sg_ok hf (in_sgs hf (i := 2) rfl hx)).2.2
      · exact (sg_ok hf (in_sgs hf (i := 3) rfl hx)).2.2
    rcases List.mem_cons.mp hd with rfl | hd
    · exact x10
    rcases List.mem_cons.mp hd with rfl | hd
    · exact x10
    rcases List.mem_cons.mp hd with rfl | hd
    · exact hl d List.mem_cons_self
    · exact ih (fun x hx => hl x (List.mem_cons_of_mem _ hx)) d hd
theorem sw_rep {c : Nat} (hc : f.le = some c) : ∀ (n : Nat) {y : List Nat}, SwT f false false (List.replicate n c) y → y = List.replicate n c ∧ flg f (false, false) (List.replicate n c) = (false, false)
  | 0, y, h => by
    cases h
    exact ⟨rfl, rfl⟩
  | n + 1, y, h => by
    have h' : SwT f false false (c :: List.replicate n c) y := h
    have e1 : nE f false c = false := nE_not hf (os_ne hf (i := 1) (j := 7) rfl rfl (by decide) hc)
    have e2 : nW f false false c = false := nW_not hf (os_ne hf (i := 1) (j := 4) rfl rfl (by decide) hc) (os_ne hf (i := 1) (j := 5) rfl rfl (by decide) hc)
    cases h' with
    | cons _ q =>
      rw [e1, e2] at q
      obtain ⟨rfl, q2⟩ := sw_rep hc n q
      refine ⟨rfl, ?_⟩
      show flg f (nE f false c, nW f false false c) (List.replicate n c) = _
      rw [e1, e2]
      exact q2
    | pair x _ _ hc2 _ => exact absurd hc hc2
theorem rep_split {l : Fln} (fl : FitL f l) {z : List Nat} (h : SwT f false false (lnT f l) z) : ∃ y, z = (List.replicate l.1 (ol f.le)).flatten ++ y ∧ SwT f false false (lnR f l) y ∧ flg f (false, false) (lnT f l) = flg f (false, false) (lnR f l) := by
  have flg_app : ∀ (a b : List Nat) (p : Bool × Bool), flg f p (a ++ b) = flg f (flg f p a) b := by
    intro a
    induction a with
    | nil => intro b p; rfl
    | cons c a ih => intro b p; exact ih b _
  unfold lnT at h ⊢
  cases q : f.le with
  | none =>
    have d0 := fl.le q
    rw [q, d0] at h
    rw [d0]
    exact ⟨z, rfl, h, rfl⟩
  | some c =>
    rw [q, flat_ol] at h
    rw [flat_ol]
    obtain ⟨z1, z2, rfl, q1, q2⟩ := SwT.split h
    obtain ⟨rfl, e⟩ := sw_rep hf q l.1 q1
    rw [e] at q2
    exact ⟨z2, rfl, q2, by rw [flg_app, e]⟩
/-- a line with switches, and some behind it -/
theorem line_sw {l : Fln} (fl : FitL f l) {z : List Nat} (h : SwT f false false (lnT f l) z) : RL f z l ∧ flg f (false, false) (lnT f l) = (false, false) ∧ ∀ x, (f.bo = some x ∨ f.sl = some x) → RL f (z ++ [x, x]) l := by
  obtain ⟨y, rfl, hy, ef⟩ := rep_split hf fl h
  obtain ⟨t, ht, et⟩ := run_line hf fl
  obtain ⟨r1, r2, r3⟩ := run_sw hf hy (s := Rs0) rfl rfl ht
  have fe : flg f (false, false) (lnR f l) = (false, false) := by
    refine Prod.ext ?_ ?_
    · rw [← r2]; exact et.ie
    · rw [← r3, et.wd]; rfl
  have xle : ∀ x, (f.bo = some x ∨ f.sl = some x) → f.le ≠ some x := fun x hx => by
    rcases hx with hx | hx
    · exact os_ne hf (i := 2) (j := 1) rfl rfl (by decide) hx
    · exact os_ne hf (i := 3) (j := 1) rfl rfl (by decide) hx
  have hd : ∀ d r, y = d :: r → f.le ≠ some d := by
    intro d r e
    rw [e] at hy
    generalize hq : lnR f l = q at hy
    cases hy with
    | cons _ _ => exact head_ln hf fl hq
    | pair x c hx _ _ => exact xle d hx
  refine ⟨rl_ln hf fl hd ⟨t, r1, et⟩, ef.trans fe, fun x hx => ?_⟩
  rw [List.append_assoc]
  refine rl_ln hf fl (fun d r e => ?_) ⟨t, ?_, et⟩
  · cases y with
    | nil =>
      cases e
      exact xle x hx
    | cons d' y' =>
      cases e
      exact hd d y' rfl
  · rw [run_app, r1]
    show run f t [x, x] = _
    rw [run_pair hf et.ie et.wd hx]
    rfl
theorem lnT10 {l : Fln} (fl : FitL f l) : ∀ c ∈ lnT f l, c ≠ 10 := fun c h => by
  rcases List.mem_append.mp h with h | h
  · obtain ⟨p, hp, h⟩ := List.mem_flatten.mp h
    rw [(List.mem_replicate.mp hp).2] at h
    exact ol10 hf (i := 1) rfl h
  · exact lnR10 hf fl c h
/-- the lines of a text with switches -/
theorem text_sw : ∀ {m : Fm} {z : List Nat}, m ≠ [] → (∀ l ∈ m, FitL f l) → SwT f false false (txT f m) z → All2 (RL f) (sp 10 z) m
  | [], _, h, _, _ => absurd rfl h
  | [l], z, _, hm, h => by
    have fl := hm l (by simp)
    have h' : SwT f false false (lnT f l) z := h
    have n10 := sw10 hf h' (lnT10 hf fl)
    rw [sp_free (fun q => n10 10 q rfl)]
    exact .cons (line_sw hf fl h').1 .nil
  | l :: l2 :: m, z, _, hm, h => by
    have fl := hm l (by simp)
    have h' : SwT f false false (lnT f l ++ (10 :: txT f (l2 :: m))) z := h
    obtain ⟨z1, z2, rfl, q1, q2⟩ := SwT.split h'
    obtain ⟨r1, rf, r2⟩ := line_sw hf fl q1
    rw [rf] at q2
    have n1 := sw10 hf q1 (lnT10 hf fl)
    have g10 : ∀ {i : Nat} {o : Option Nat}, f.os[i]? = some o → o ≠ some 10 := fun hi e => (sg_ok hf (in_sgs hf hi e)).2.2 rfl
    have e1 : nE f false 10 = false := nE_not hf (g10 (i := 7) rfl)
    have e2 : nW f false false 10 = false := nW_not hf (g10 (i := 4) rfl) (g10 (i := 5) rfl)
    have ih : ∀ {r : List Nat}, SwT f (nE f false 10) (nW f false false 10) (txT f (l2 :: m)) r → All2 (RL f) (sp 10 r) (l2 :: m) := fun q => text_sw (by simp) (fun l hl => hm l (List.mem_cons_of_mem _ hl)) (by rw [e1, e2] at q; exact q)
    have one : ∀ (a r : List Nat), (∀ c ∈ a, c ≠ 10) → sp 10 (a ++ 10 :: r) = a :: sp 10 r := fun a r ha => by rw [sp_app, sp_free (fun q => ha 10 q rfl)]; rfl
    cases q2 with
    | cons _ q =>
      rw [one z1 _ n1]
      exact .cons r1 (ih q)
    | pair x _ hx _ q =>
      have n2 : ∀ c ∈ z1 ++ [x, x], c ≠ 10 := by
        intro c hc
        rcases List.mem_append.mp hc with hc | hc
        · exact n1 c hc
        · have e : c = x := by
            simp only [List.mem_cons, List.not_mem_nil, or_false] at hc
            rcases hc with h | h <;> exact h
          rw [e]
          rcases hx with hx | hx
          · exact (sg_ok hf (in_sgs hf (i := 2) rfl hx)).2.2
          · exact (sg_ok hf (in_sgs hf (i := 3) rfl hx)).2.2
      have e3 : ∀ r, z1 ++ x :: x :: 10 :: r = (z1 ++ [x, x]) ++ 10 :: r := fun r => by rw [List.append_assoc]; rfl
      rw [e3, one _ _ n2]
      exact .cons (r2 x hx) (ih q)
theorem text_read {m : Fm} (hn : m ≠ []) (hm : ∀ l ∈ m, FitL f l) : All2 (RL f) (sp 10 (txT f m)) m := text_sw hf hn hm (SwT.refl f _ _ _)
end
end Vf
end
section
set_option Elab.async false
set_option linter.all false
set_option maxRecDepth 100000
set_option maxHeartbeats 4000000
namespace Vf
open PySem PySem.Spec PyProof.Rows L2 GxR GenW RZ
def Fo.five (f : Fo) : List (Option Nat) := [f.ce, f.le, f.op, f.bo, f.sl]
def carP (p : Str × Option Nat) : Option Str := if p.2.isSome = true then some p.1 else none
def carF (f : Fo) : List Str := (five.zip f.five).filterMap carP
def carB (bs : List Bool) : List Str := (five.zip bs).filterMap fun p => if p.2 = true then some p.1 else none
theorem carB_mem : ∀ b0 b1 b2 b3 b4 : Bool, (("cells" : Str) ∈ carB [b0, b1, b2, b3, b4] ↔ b0 = true) ∧ (("nest" : Str) ∈ carB [b0, b1, b2, b3, b4] ↔ b1 = true) ∧ (("link" : Str) ∈ carB [b0, b1, b2, b3, b4] ↔ b2 = true) ∧ (("bold" : Str) ∈ carB [b0, b1, b2, b3, b4] ↔ b3 = true) ∧ (("slant" : Str) ∈ carB [b0, b1, b2, b3, b4] ↔ b4 = true) := by decide +kernel
theorem car_mem (f : Fo) : (("cells" : Str) ∈ carF f ↔ f.ce.isSome = true) ∧ (("nest" : Str) ∈ carF f ↔ f.le.isSome = true) ∧ (("link" : Str) ∈ carF f ↔ f.op.isSome = true) ∧ (("bold" : Str) ∈ carF f ↔ f.bo.isSome = true) ∧ (("slant" : Str) ∈ carF f ↔ f.sl.isSome = true) := carB_mem f.ce.isSome f.le.isSome f.op.isSome f.bo.isSome f.sl.isSome
theorem carF_len (f : Fo) : (carF f).length ≤ 5 := by
  refine Nat.le_trans (List.length_filterMap_le _ _) ?_
  rw [List.length_zip]
  exact Nat.min_le_left _ _
theorem fit_op {f : Fo} {l : Fln} (h : OkLn l) : FitL f (opL (keepS five (carF f)) l) := by
  obtain ⟨m1, m2, m3, m4, m5⟩ := car_mem f
  have ks : ∀ {x : Str}, x ∈ five → x ∉ carF f → keepS five (carF f) x = true := fun h5 hn => by
    unfold keepS
    rw [decide_eq_true h5, decide_eq_false hn]
    rfl
  have nn : ∀ {o : Option Nat} {x : Str}, o = none → (x ∈ carF f ↔ o.isSome = true) → x ∉ carF f := fun ho hx z => by
    have q := hx.mp z
    rw [ho] at q
    cases q
  have ok := h.op (keepS five (carF f))
  refine ⟨ok, fun z => ?_, fun z => ?_, ?_⟩
  · have e := ks (x := "cells") (by simp [five]) (nn z m1)
    unfold opL
    rw [e]
    rfl
  · have e := ks (x := "nest") (by simp [five]) (nn z m2)
    unfold opL
    rw [e]
    rfl
  · have fm : ∀ {m : Mk3}, m.1 ∈ LK4 → FitM f (um (keepS five (carF f)) m) := fun hm => by
      refine ⟨fun z => ?_, fun z => ?_, fun z => ?_, um_LK _ hm⟩
      · have e := ks (x := "link") (by simp [five]) (nn z m3)
        unfold um
        rw [e]
        rfl
      · have e := ks (x := "bold") (by simp [five]) (nn z m4)
        unfold um
        rw [e]
        show (_ && !true) = false
        rw [Bool.not_true, Bool.and_false]
      · have e := ks (x := "slant") (by simp [five]) (nn z m5)
        unfold um
        rw [e]
        show (_ && !true) = false
        rw [Bool.not_true, Bool.and_false]
    have fc : ∀ xs ∈ l.2.map (umC (keepS five (carF f))), FitC f xs := fun xs hx => by
      obtain ⟨ys, hy, rfl⟩ := List.mem_map.mp hx
      intro x hx
      obtain ⟨y, hy2, rfl⟩ := List.mem_map.mp hx
      obtain ⟨a, b, c⟩ := h.c ys hy y hy2
      exact ⟨fm c, a, b⟩
    have fg : FitC f (gl (l.2.map (umC (keepS five (carF f))))) := by
      cases q : l.2.map (umC (keepS five (carF f))) with
      | nil => intro x hx; cases hx
      | cons y r =>
        rw [q] at fc
        intro x hx
        rcases List.mem_append.mp hx with z | z
        · exact fc y List.mem_cons_self x z
        · obtain ⟨c, hc, z⟩ := List.mem_flatMap.mp z
          rcases List.mem_cons.mp z with rfl | z
          · exact ⟨FitM.no f, by show 32 ≤ 32; decide, by show 32 ≤ 126; decide⟩
          · exact fc c (List.mem_cons_of_mem _ hc) x z
    intro xs hx
    unfold opL at hx
    cases e : keepS five (carF f) "cells" with
    | true =>
      rw [e] at hx
      have hx2 : xs ∈ [gl (l.2.map (umC (keepS five (carF f))))] := hx
      rw [List.mem_singleton.mp hx2]
      exact fg
    | false =>
      rw [e] at hx
      exact fc xs hx
theorem fit_keep {f : Fo} {m : Fm} (h : OkF m) : ∀ l ∈ keepM (carF f) m, FitL f l := fun l hl => by
  obtain ⟨x, hx, rfl⟩ := List.mem_map.mp hl
  exact fit_op (h.l x hx)
def spCarried (K : PySem.W.Frag) : Sp := fun vs H Q _ => ∃ (a : Addr) (f : Fo), vs = [.ref a] ∧ SqT K H a (strV f.strs) ∧ ∀ p H', Gr H H' → SqT K H' p (strV (carF f)) → Q (.ref p) H'
def spSigns (K : PySem.W.Frag) : Sp := fun vs H Q _ => ∃ (a : Addr) (f : Fo), vs = [.ref a] ∧ SqT K H a (strV f.strs) ∧ ∀ (t : Str) H', cps t = f.sgs → Gr H H' → Q (.str t) H'
theorem sg_ne0 (o : Option Nat) : (!decide (V.str (sg o) = V.str "")) = o.isSome := by
  cases o with
  | none => decide +kernel
  | some c =>
    have e : ¬ V.str (sg (some c)) = V.str "" := fun z => by
      have q := congrArg cps (V.str.inj z)
      have q2 : [c] = cps "" := q
      rw [show cps "" = [] by decide +kernel] at q2
      cases q2
    rw [decide_eq_false e]
    rfl
theorem sg_len (o : Option Nat) : (sg o).length ≤ 1 := by
  cases o with
  | none => decide +kernel
  | some c => exact Nat.le_refl _
theorem cps_joinS (sep : Str) : ∀ ys : List Str, cps (Str.join sep ys) = joinL (cps sep) (ys.map cps)
  | [] => rfl
  | [y] => rfl
  | y :: z :: zs => by
    show cps (y ++ sep ++ Str.join sep (z :: zs)) = cps y ++ (cps sep ++ joinL (cps sep) ((z :: zs).map cps))
    rw [cps_app, cps_app, cps_joinS sep (z :: zs), List.append_assoc]
theorem cps_join2 (sep : Str) (ys : List Str) : cps (Txt.join sep ys) = joinL (cps sep) (ys.map cps) := by
  rw [show Txt.join sep ys = Str.join sep ys from StrLaws.glued_eq_join _ _]
  exact cps_joinS sep ys
theorem joinL_nil : ∀ ys : List (List Nat), joinL [] ys = ys.flatten
  | [] => rfl
  | [y] => (List.append_nil y).symm
  | y :: z :: zs => by
    show y ++ ([] ++ joinL [] (z :: zs)) = _
    rw [List.nil_append, joinL_nil (z :: zs)]
    rfl
theorem join_flat (ys : List Str) : cps (Txt.join "" ys) = ys.flatMap cps := by
  rw [cps_join2, show cps "" = [] by decide +kernel, joinL_nil]
  rfl
theorem sgs_join (f : Fo) : (f.os.map sg).flatMap cps = f.sgs := by
  unfold Fo.sgs
  induction f.os with
  | nil => rfl
  | cons o l ih =>
    rw [List.map_cons, List.flatMap_cons, ih, cps_sg]
    cases o <;> rfl
theorem strs_drop (f : Fo) : f.strs.drop 1 = f.os.map sg := rfl
theorem sum1 {ys : List Str} {b : Nat} (h : ∀ y ∈ ys, y.length ≤ b) : (ys.map (·.length)).sum ≤ ys.length * b := by
  induction ys with
  | nil => exact Nat.zero_le _
  | cons y ys ih =>
    have := h y List.mem_cons_self
    have := ih fun z hz => h z (List.mem_cons_of_mem _ hz)
    simp only [List.map_cons, List.sum_cons, List.length_cons, Nat.add_mul, Nat.one_mul]
    omega
section
variable {P : Program} {w : World} {K : PySem.W.Frag} {mg : Str → Option Value} {base : Heap}
theorem ok_carried {fd : FuncData} (F : FnP K "carried" s_carried fd) (T : TD K mg) : FnOk P w K mg base CX0 1 (He.fAd K ("carried", none)) fd p_carried (spCarried K) := by
  refine okP F sc_carried (fun vs H Q E h => by obtain ⟨a, f, rfl, _⟩ := h; rfl) (fun A outer s H vs Q E hr h => ?_)
  obtain ⟨a, f, rfl, hS, k⟩ := h
  obtain ⟨aF, m_FEATURES, sF⟩ := T.c_FEATURES
  refine ⟨_, (pss_cons (ps_set (i := 1) sc_carried.nd rfl (by first | exact Or.inl rfl | exact Or.inr rfl) (pe_tup (pa_cons (pe_ix (u_ix (K := K) rfl) (pv 0) (pe_gl T.c_CELL rfl) (fun _ _ => rfl)) (pa_cons (pe_ix (u_ix (K := K) rfl) (pv 0) (pe_gl T.c_LEVEL rfl) (fun _ _ => rfl)) (pa_cons (pe_ix (u_ix (K := K) rfl) (pv 0) (pe_gl T.c_OPENING rfl) (fun _ _ => rfl)) (pa_cons (pe_ix (u_ix (K := K) rfl) (pv 0) (pe_gl T.c_BOLD rfl) (fun _ _ => rfl)) (pa_cons (pe_ix (u_ix (K := K) rfl) (pv 0) (pe_gl T.c_SLANT rfl) (fun _ _ => rfl)) pa_nil)))))))
      (pss_one (ps_ret (k_tuple (K := K) rfl rfl T.b_tuple (pe_lc (own := [("feature", 2), ("sign", 3)])  rfl sc_carried.nd (k_zip (K := K) rfl rfl T.b_zip (pa_cons (pe_ref rfl m_FEATURES) (pa_cons (pv 1) pa_nil))) (blkOk_by (own := [("feature", 2), ("sign", 3)]) (N := n_carried) (sc := defScope s_carried) (by decide +kernel)) (fun _ _ _ _ _ => (kg_tup 2 (K := K) rfl rfl (pgs_cons (pg_name (i := 2) sc_carried.nd rfl (by first | exact Or.inl rfl | exact Or.inr rfl)) (pgs_cons (pg_name (i := 3) sc_carried.nd rfl (by first | exact Or.inl rfl | exact Or.inr rfl)) pgs_nil)))) (fun _ _ _ _ _ => (pts_one (pt_cmpR (u_ne (K := K) rfl hr.units) (pv 3) pe_str (nomark _)))) (fun _ _ _ _ _ => (pv 2))))))), ?_⟩
  refine ⟨_, rfl, x_t hS rfl ⟨_, rfl, x_t hS rfl ⟨_, rfl, x_t hS rfl ⟨_, rfl, x_t hS rfl ⟨_, rfl, x_t hS rfl ⟨by show 5 ≤ sizeLine; rw [sizeLine_eq]; decide, fun p hp => ?_⟩⟩⟩⟩⟩⟩
  refine newH hp fun H1 g1 s1 => ?_
  have s1 : H1 p = some (.tup (strV (f.five.map sg))) := s1
  refine ⟨_, rfl, aF, p, _, _, rfl, .inr ⟨sF _, SqT.of s1, fun D hD => ?_⟩⟩
  have nD : p ≠ D := ne_of_none s1 hD
  refine lc_zT (a := aF) (b := p) (xs := strV five) (ys := strV (f.five.map sg)) rfl
    (fun i H' => Gr H1 H' ∧ H' D = some (.lst (strV (((five.zip f.five).take i).filterMap carP)))) ⟨Gr.new hD, upd_same⟩ ?_ ?_ ?_
  · rintro i H' ⟨g, _⟩
    exact ⟨sF _, SqT.of (g.tup s1)⟩
  · rintro i x y T' H' hx hy ⟨g, hL⟩ hT
    obtain ⟨ft, hft, rfl⟩ := strV_get hx
    obtain ⟨c, hc, rfl⟩ := strV_get hy
    rw [List.getElem?_map] at hc
    obtain ⟨o, ho, rfl⟩ : ∃ o, f.five[i]? = some o ∧ c = sg o := by
      cases e : f.five[i]? with
      | none => rw [e] at hc; cases hc
      | some o => rw [e] at hc; exact ⟨o, rfl, (Option.some.inj hc).symm⟩
    have hz : (five.zip f.five)[i]? = some (ft, o) := by
      rw [List.getElem?_zip_eq_some]
      exact ⟨hft, ho⟩
    have hLT : upd H' T' (.tup [.str ft, .str (sg o)]) D = _ := (upd_ne (ne_of_none hL hT)).trans hL
    have gT : Gr H1 (upd H' T' (.tup [.str ft, .str (sg o)])) := g.trans (Gr.new hT)
    refine ⟨_, _, rfl, SqT.of upd_same, rfl, _, _, rfl, _, _, rfl, rfl, rfl, ?_⟩
    refine ⟨_, rfl, n_flat rfl ⟨_, rfl, ?_⟩⟩
    rw [sg_ne0]
    cases o with
    | some c =>
      refine iteT ⟨_, rfl, _, hLT, ?_, gT.upd' hD, ?_⟩
      · show (List.map V.str _).length < _
        rw [List.length_map, sizeLine_eq]
        refine Nat.lt_of_le_of_lt (List.length_filterMap_le _ _) ?_
        rw [List.length_take]
        refine Nat.lt_of_le_of_lt (Nat.min_le_right _ _) ?_
        rw [List.length_zip]
        exact Nat.lt_of_le_of_lt (Nat.min_le_left _ _) (by show 5 < 16777216; decide)
      · rw [upd_same, take_snoc hz, List.filterMap_append]
        unfold strV
        rw [List.map_append]; rfl
    | none =>
      refine iteF ⟨gT, ?_⟩
      rw [hLT, take_snoc hz, List.filterMap_append]
      show _ = some (HO.lst (strV (_ ++ [])))
      rw [List.append_nil]
  · rintro H' ⟨g, hL⟩
    refine ⟨.inl ⟨D, _, rfl, SqL.of hL, fun t ht => ?_⟩⟩
    refine newH ht fun H2 g2 s2 => ?_
    exact k t H2 ((g1.trans g).trans g2) (SqT.of s2)
theorem ok_signs {fd : FuncData} (F : FnP K "signs_of" s_signs_of fd) (T : TD K mg) : FnOk P w K mg base CX0 1 (He.fAd K ("signs_of", none)) fd p_signs_of (spSigns K) := by
  refine okP F sc_signs_of (fun vs H Q E h => by obtain ⟨a, f, rfl, _⟩ := h; rfl) (fun A outer s H vs Q E hr h => ?_)
  obtain ⟨a, f, rfl, hS, k⟩ := h
  refine ⟨_, (pss_one (ps_ret (k_join (K := K) rfl pe_str (pe_slice (u_sl (K := K) rfl) (pv 0) (po_some pe_int) po_none)))), ?_⟩
  refine ⟨⟨_, rfl⟩, _, rfl, _, rfl, sl_t1 hS fun p H1 g1 s1 => ?_⟩
  have s1 : SqT K H1 p (strV (f.os.map sg)) := s1
  refine ⟨"", p, f.os.map sg, rfl, rfl, .inr s1, ?_, k _ H1 (by rw [join_flat, sgs_join]) g1⟩
  have := sum1 (ys := f.os.map sg) (b := 1) (fun y hy => by
    obtain ⟨o, _, rfl⟩ := List.mem_map.mp hy
    exact sg_len o)
  have l8 : (f.os.map sg).length = 8 := rfl
  have l0 : ("" : Str).length = 0 := rfl
  rw [l8] at this ⊢
  rw [l0]
  omega
theorem ok_lcar {fd : FuncData} (F : FnP K "_law_carried" s__law_carried fd) (T : TD K mg) : FnOk P w K mg base CX0 1 (He.fAd K ("_law_carried", none)) fd p__law_carried (spCarried K) := by
  refine okP F sc__law_carried (fun vs H Q E h => by obtain ⟨a, f, rfl, _⟩ := h; rfl) (fun A outer s H vs Q E hr h => ?_)
  obtain ⟨a, f, rfl, hS, k⟩ := h
  refine ⟨_, (pss_cons (ps_set (i := 1) sc__law_carried.nd rfl (by first | exact Or.inl rfl | exact Or.inr rfl) (pe_lst (pa_cons (pe_tup (pa_cons pe_str (pa_cons (pe_ix (u_ix (K := K) rfl) (pv 0) pe_int (fun _ _ => rfl)) pa_nil))) (pa_cons (pe_tup (pa_cons pe_str (pa_cons (pe_ix (u_ix (K := K) rfl) (pv 0) pe_int (fun _ _ => rfl)) pa_nil))) (pa_cons (pe_tup (pa_cons pe_str (pa_cons (pe_ix (u_ix (K := K) rfl) (pv 0) pe_int (fun _ _ => rfl)) pa_nil))) (pa_cons (pe_tup (pa_cons pe_str (pa_cons (pe_ix (u_ix (K := K) rfl) (pv 0) pe_int (fun _ _ => rfl)) pa_nil))) (pa_cons (pe_tup (pa_cons pe_str (pa_cons (pe_ix (u_ix (K := K) rfl) (pv 0) pe_int (fun _ _ => rfl)) pa_nil))) pa_nil)))))))
      (pss_one (ps_ret (k_tuple (K := K) rfl rfl T.b_tuple (pe_lc (own := [("feature", 2), ("sign", 3)])  rfl sc__law_carried.nd (k_list (K := K) rfl (pv 1)) (blkOk_by (own := [("feature", 2), ("sign", 3)]) (N := n__law_carried) (sc := defScope s__law_carried) (by decide +kernel)) (fun _ _ _ _ _ => (kg_tup 2 (K := K) rfl rfl (pgs_cons (pg_name (i := 2) sc__law_carried.nd rfl (by first | exact Or.inl rfl | exact Or.inr rfl)) (pgs_cons (pg_name (i := 3) sc__law_carried.nd rfl (by first | exact Or.inl rfl | exact Or.inr rfl)) pgs_nil)))) (fun _ _ _ _ _ => (pts_one (pt_cmpR (u_ne (K := K) rfl hr.units) (pv 3) pe_str (nomark _)))) (fun _ _ _ _ _ => (pv 2))))))), ?_⟩
  have sl : ∀ {n : Nat}, n ≤ 3000 → n ≤ sizeLine := fun h => by rw [sizeLine_eq]; omega
  refine ⟨_, rfl, x_t hS rfl ⟨sl (by show 2 ≤ 3000; decide), fun q1 e1 => ?_⟩⟩
  refine newH e1 fun H1 g1 s1 => ?_
  refine ⟨_, rfl, x_t (g1.seqT hS) rfl ⟨sl (by show 2 ≤ 3000; decide), fun q2 e2 => ?_⟩⟩
  refine newH e2 fun H2 g2 s2 => ?_
  refine ⟨_, rfl, x_t ((g1.trans g2).seqT hS) rfl ⟨sl (by show 2 ≤ 3000; decide), fun q3 e3 => ?_⟩⟩
  refine newH e3 fun H3 g3 s3 => ?_
  refine ⟨_, rfl, x_t (((g1.trans g2).trans g3).seqT hS) rfl ⟨sl (by show 2 ≤ 3000; decide), fun q4 e4 => ?_⟩⟩
  refine newH e4 fun H4 g4 s4 => ?_
  refine ⟨_, rfl, x_t ((((g1.trans g2).trans g3).trans g4).seqT hS) rfl ⟨sl (by show 2 ≤ 3000; decide), fun q5 e5 => ?_⟩⟩
  refine newH e5 fun H5 g5 s5 => ?_
  refine ⟨sl (by show 5 ≤ 3000; decide), fun L eL => ?_⟩
  refine newH eL fun H6 g6 s6 => ?_
  have rows : ∀ (i : Nat) (o : Option Nat) (x : Str), (five.zip f.five)[i]? = some (x, o) → ∃ q, ([V.ref q1, V.ref q2, V.ref q3, V.ref q4, V.ref q5] : List V)[i]? = some (V.ref q) ∧ H6 q = some (.tup [.str x, .str (sg o)]) := by
    intro i o x h
    have w5 := g6.tup s5
    have w4 := (g5.trans g6).tup s4
    have w3 := ((g4.trans g5).trans g6).tup s3
    have w2 := (((g3.trans g4).trans g5).trans g6).tup s2
    have w1 := ((((g2.trans g3).trans g4).trans g5).trans g6).tup s1
    match i, h with
    | 0, h => cases h; exact ⟨q1, rfl, w1⟩
    | 1, h => cases h; exact ⟨q2, rfl, w2⟩
    | 2, h => cases h; exact ⟨q3, rfl, w3⟩
    | 3, h => cases h; exact ⟨q4, rfl, w4⟩
    | 4, h => cases h; exact ⟨q5, rfl, w5⟩
    | i + 5, h => simp [five, Fo.five] at h
  have G := ((((g1.trans g2).trans g3).trans g4).trans g5).trans g6
  refine ⟨_, rfl, L, rfl, ⟨_, SqL.of s6⟩, fun D hD => ?_⟩
  refine lc_list (K := K) (a := L) (xs := [V.ref q1, V.ref q2, V.ref q3, V.ref q4, V.ref q5]) (fun i H' => Gr H6 H' ∧ H' D = some (.lst (strV (((five.zip f.five).take i).filterMap carP)))) ⟨Gr.new hD, upd_same⟩ ?_ ?_ ?_
  · rintro i H' _ ⟨g, _⟩
    exact SqL.of (g.lst s6)
  · rintro i x H' hx ⟨g, hL⟩
    have il := (List.getElem?_eq_some_iff.mp hx).1
    have il5 : i < 5 := il
    have zl : (five.zip f.five).length = 5 := rfl
    obtain ⟨⟨ft, o⟩, hz⟩ : ∃ r, (five.zip f.five)[i]? = some r := ⟨_, List.getElem?_eq_getElem (by rw [zl]; exact il5)⟩
    obtain ⟨q, hq, sq⟩ := rows i o ft hz
    rw [hx] at hq
    cases hq
    refine ⟨q, _, rfl, SqT.of (g.tup sq), rfl, _, _, rfl, _, _, rfl, rfl, rfl, ?_⟩
    refine ⟨_, rfl, n_flat rfl ⟨_, rfl, ?_⟩⟩
    rw [sg_ne0]
    cases o with
    | some c =>
      refine iteT ⟨_, rfl, _, hL, ?_, g.upd' hD, ?_⟩
      · show (List.map V.str _).length < _
        rw [List.length_map, sizeLine_eq]
        refine Nat.lt_of_le_of_lt (List.length_filterMap_le _ _) ?_
        rw [List.length_take]
        exact Nat.lt_of_le_of_lt (Nat.min_le_right _ _) (by rw [zl]; decide)
      · rw [upd_same, take_snoc hz, List.filterMap_append]
        unfold strV
        rw [List.map_append]; rfl
    | none =>
      refine iteF ⟨g, ?_⟩
      rw [hL, take_snoc hz, List.filterMap_append]
      show _ = some (HO.lst (strV (_ ++ [])))
      rw [List.append_nil]
  · rintro H' ⟨g, hL⟩
    refine ⟨.inl ⟨D, _, rfl, SqL.of hL, fun t ht => ?_⟩⟩
    refine newH ht fun H2 g2 s2 => ?_
    exact k t H2 ((G.trans g).trans g2) (SqT.of s2)
end
end Vf
end
section
set_option Elab.async false
set_option linter.all false
set_option maxRecDepth 100000
set_option maxHeartbeats 4000000
namespace Vf
open PySem PySem.Spec PyProof.Rows L2 GxR GenW RZ
abbrev s_written_change : Stmt := top 37
abbrev n_written_change : List Str := ["form", "before", "behind", "parts", "is_other_link"]
abbrev p_written_change : List Str := ["form", "before", "behind"]
theorem sc_written_change : FnScope n_written_change p_written_change (defScope s_written_change) := ⟨rfl, rfl, rfl, by decide +kernel, rfl, by decide +kernel, by decide +kernel⟩

abbrev s_escaped : Stmt := top 38
abbrev n_escaped : List Str := ["form", "text", "signs", "character"]
abbrev p_escaped : List Str := ["form", "text"]
theorem sc_escaped : FnScope n_escaped p_escaped (defScope s_escaped) := ⟨rfl, rfl, rfl, by decide +kernel, rfl, by decide +kernel, by decide +kernel⟩

abbrev s__law_switched : Stmt := top 72
abbrev n__law_switched : List Str := ["form", "before", "later", "text"]
abbrev p__law_switched : List Str := ["form", "before", "later"]
theorem sc__law_switched : FnScope n__law_switched p__law_switched (defScope s__law_switched) := ⟨rfl, rfl, rfl, by decide +kernel, rfl, by decide +kernel, by decide +kernel⟩

theorem nes {x y : Str} : (!decide (V.str x = V.str y)) = decide (x ≠ y) := by
  by_cases h : x = y
  · subst h
    simp
  · have : ¬ V.str x = V.str y := fun z => h (V.str.inj z)
    simp [h, this]
theorem neb {x y : Bool} : (!decide (V.bl x = V.bl y)) = decide (x ≠ y) := by cases x <;> cases y <;> decide
def spChg (K : PySem.W.Frag) : Sp := fun vs H Q _ => ∃ (a : Addr) (f : Fo) (vb vm : V) (b m : Mk3), vs = [.ref a, vb, vm] ∧ SqT K H a (strV f.strs) ∧ Dd K H vb (mkD b) ∧ Dd K H vm (mkD m) ∧ b.1 ∈ LK4 ∧ m.1 ∈ LK4 ∧ ∀ (t : Str) H', cps t = chg f b m → Gr H H' → Q (.str t) H'
theorem ol_len (o : Option Nat) : (ol o).length ≤ 1 := by cases o <;> simp [ol]
theorem chg_len {f : Fo} {b m : Mk3} (h : m.1 ∈ LK4) : (chg f b m).length ≤ 17 := by
  have h1 := ol_len f.en
  have h2 := ol_len f.bo
  have h3 := ol_len f.sl
  have h4 := ol_len f.op
  have h5 := ol_len f.mi
  have h6 := (LK4_ok _ h).1
  have h7 := cps_len m.1
  unfold chg chE chB chS' chO
  split <;> split <;> split <;> split <;> simp only [List.length_append, List.length_nil] <;> omega
section
variable {P : Program} {w : World} {K : PySem.W.Frag} {mg : Str → Option Value} {base : Heap}
theorem ok_change {fd : FuncData} (F : FnP K "written_change" s_written_change fd) (T : TD K mg) : FnOk P w K mg base CX0 1 (He.fAd K ("written_change", none)) fd p_written_change (spChg K) := by
  refine okP F sc_written_change (fun vs H Q E h => by obtain ⟨a, f, vb, vm, b, m, rfl, _⟩ := h; rfl) (fun A outer s H vs Q E hr h => ?_)
  obtain ⟨a, f, vb, vm, b, m, rfl, hS, hb, hm, kb, km, k⟩ := h
  obtain ⟨ab, rfl, sb⟩ := dd_mk hb
  obtain ⟨am, rfl, sm⟩ := dd_mk hm
  have lb := (LK4_ok _ kb).1
  have lm := (LK4_ok _ km).1
  have sl : ∀ {n : Nat}, n ≤ 3000 → n ≤ sizeLine := fun h => by rw [sizeLine_eq]; omega
  have lap : ∀ (l : List Str), l.length ≤ 5 → (List.map V.str l).length < sizeLine := fun l h => by rw [List.length_map, sizeLine_eq]; omega
  refine ⟨_, (pss_cons (ps_set (i := 3) sc_written_change.nd rfl (by first | exact Or.inl rfl | exact Or.inr rfl) (pe_lst pa_nil))
      (pss_cons (ps_set (i := 4) sc_written_change.nd rfl (by first | exact Or.inl rfl | exact Or.inr rfl) (pe_cmpR (u_ne (K := K) rfl hr.units) (pe_ix (u_ix (K := K) rfl) (pv 1) pe_int (fun _ _ => rfl)) (pe_ix (u_ix (K := K) rfl) (pv 2) pe_int (fun _ _ => rfl)) (nomark _)))
      (C8.pss_cut (ps_if (PW.pt (pw_and (k_truth (K := K) rfl (pv 4) (by intro _; rfl)) (pw_and1 (pt_cmpR (u_ne (K := K) rfl hr.units) (pe_ix (u_ix (K := K) rfl) (pv 1) pe_int (fun _ _ => rfl)) pe_str (nomark _)))))
      (pss_one (ps_expr (k_bm (K := K) rfl PySem.F.plainAttrs_list PySem.F.slot_list_append PySem.F.type_list_append mt_append (pv 3) (pa_cons (pe_ix (u_ix (K := K) rfl) (pv 0) (pe_gl T.c_END rfl) (fun _ _ => rfl)) pa_nil))))
      pss_nil)
      (C8.pss_cut (ps_if (pt_cmpR (u_ne (K := K) rfl hr.units) (pe_ix (u_ix (K := K) rfl) (pv 1) pe_int (fun _ _ => rfl)) (pe_ix (u_ix (K := K) rfl) (pv 2) pe_int (fun _ _ => rfl)) (nomark _))
      (pss_one (ps_expr (k_bm (K := K) rfl PySem.F.plainAttrs_list PySem.F.slot_list_append PySem.F.type_list_append mt_append (pv 3) (pa_cons (pe_ix (u_ix (K := K) rfl) (pv 0) (pe_gl T.c_BOLD rfl) (fun _ _ => rfl)) pa_nil))))
      pss_nil)
      (C8.pss_cut (ps_if (pt_cmpR (u_ne (K := K) rfl hr.units) (pe_ix (u_ix (K := K) rfl) (pv 1) pe_int (fun _ _ => rfl)) (pe_ix (u_ix (K := K) rfl) (pv 2) pe_int (fun _ _ => rfl)) (nomark _))
      (pss_one (ps_expr (k_bm (K := K) rfl PySem.F.plainAttrs_list PySem.F.slot_list_append PySem.F.type_list_append mt_append (pv 3) (pa_cons (pe_ix (u_ix (K := K) rfl) (pv 0) (pe_gl T.c_SLANT rfl) (fun _ _ => rfl)) pa_nil))))
      pss_nil)
      (C8.pss_cut (ps_if (PW.pt (pw_and (k_truth (K := K) rfl (pv 4) (by intro _; rfl)) (pw_and1 (pt_cmpR (u_ne (K := K) rfl hr.units) (pe_ix (u_ix (K := K) rfl) (pv 2) pe_int (fun _ _ => rfl)) pe_str (nomark _)))))
      (pss_one (ps_expr (k_bm (K := K) rfl PySem.F.plainAttrs_list PySem.F.slot_list_append PySem.F.type_list_append mt_append (pv 3) (pa_cons (pe_op (u_add (K := K) rfl) (pe_op (u_add (K := K) rfl) (pe_ix (u_ix (K := K) rfl) (pv 0) (pe_gl T.c_OPENING rfl) (fun _ _ => rfl)) (pe_ix (u_ix (K := K) rfl) (pv 2) pe_int (fun _ _ => rfl))) (pe_ix (u_ix (K := K) rfl) (pv 0) (pe_gl T.c_MIDDLE rfl) (fun _ _ => rfl))) pa_nil))))
      pss_nil)
      (pss_one (ps_ret (k_join (K := K) rfl pe_str (pv 3)))))))))), ?_⟩
  refine ⟨Nat.zero_le _, fun D hD => ?_⟩
  refine newH hD fun H1 g1 s1 => ?_
  have gg : ∀ {H2 : Hp} {o : HO}, Gr H H2 → Gr H (upd H2 D o) := fun g => g.upd' hD
  refine ⟨_, rfl, x_t (g1.seqT sb) rfl ⟨_, rfl, x_t (g1.seqT sm) rfl (n_flat rfl ?_)⟩⟩
  rw [nes]
  -- the link that ends
  refine ⟨fun σ H2 => ∃ ys : List Str, σ = [some (.ref a), some (.ref ab), some (.ref am), some (.ref D), some (.bl (decide (b.1 ≠ m.1)))] ∧ Gr H H2 ∧ H2 D = some (.lst (strV ys)) ∧ ys.length ≤ 1 ∧ ys.flatMap cps = chE f b m, ?_, ?_⟩
  · refine ⟨_, rfl, _, rfl, ?_⟩
    unfold chE
    by_cases e1 : b.1 ≠ m.1
    · rw [decide_eq_true e1]
      refine iteT ⟨_, rfl, x_t (g1.seqT sb) rfl (n_flat rfl ⟨_, rfl, ?_⟩)⟩
      rw [nes]
      by_cases e2 : b.1 ≠ ""
      · rw [decide_eq_true e2, if_pos ⟨e1, e2⟩]
        refine iteT ⟨_, rfl, .inl ⟨rfl, _, SqL.of s1⟩, _, rfl, x_t (g1.seqT hS) rfl ⟨D, _, _, rfl, rfl, s1, sl (by show 0 < 3000; decide), ?_⟩⟩
        exact ⟨[sg f.en], rfl, gg g1, upd_same, by show 1 ≤ 1; decide, by show cps (sg f.en) ++ [] = _; rw [List.append_nil, cps_sg]⟩
      · rw [decide_eq_false e2, if_neg (fun z => e2 z.2)]
        exact iteF ⟨[], rfl, g1, s1, Nat.zero_le _, rfl⟩
    · rw [decide_eq_false e1, if_neg (fun z => e1 z.1)]
      exact iteF (iteF ⟨[], rfl, g1, s1, Nat.zero_le _, rfl⟩)
  rintro σ H2 ⟨ys, rfl, g2, s2, l2, c2⟩
  -- bold
  refine ⟨fun σ H3 => ∃ ys : List Str, σ = [some (.ref a), some (.ref ab), some (.ref am), some (.ref D), some (.bl (decide (b.1 ≠ m.1)))] ∧ Gr H H3 ∧ H3 D = some (.lst (strV ys)) ∧ ys.length ≤ 2 ∧ ys.flatMap cps = chE f b m ++ chB f b m, ?_, ?_⟩
  · refine ⟨_, rfl, x_t (g2.seqT sb) rfl ⟨_, rfl, x_t (g2.seqT sm) rfl (n_flat rfl ⟨_, rfl, ?_⟩)⟩⟩
    rw [neb]
    unfold chB
    by_cases e1 : b.2.1 ≠ m.2.1
    · rw [decide_eq_true e1, if_pos e1]
      refine iteT ⟨_, rfl, .inl ⟨rfl, _, SqL.of s2⟩, _, rfl, x_t (g2.seqT hS) rfl ⟨D, _, _, rfl, rfl, s2, lap _ (by omega), ?_⟩⟩
      refine ⟨ys ++ [sg f.bo], rfl, gg g2, ?_, by rw [List.length_append]; show _ + 1 ≤ 2; omega, by rw [List.flatMap_append, c2]; show _ ++ (cps (sg f.bo) ++ []) = _; rw [List.append_nil, cps_sg]⟩
      rw [upd_same]
      unfold strV
      rw [List.map_append]; rfl
    · rw [decide_eq_false e1, if_neg e1]
      exact iteF ⟨ys, rfl, g2, s2, by omega, by rw [c2, List.append_nil]⟩
  rintro σ H3 ⟨ys, rfl, g3, s3, l3, c3⟩
  -- slant
  refine ⟨fun σ H4 => ∃ ys : List Str, σ = [some (.ref a), some (.ref ab), some (.ref am), some (.ref D), some (.bl (decide (b.1 ≠ m.1)))] ∧ Gr H H4 ∧ H4 D = some (.lst (strV ys)) ∧ ys.length ≤ 3 ∧ ys.flatMap cps = chE f b m ++ chB f b m ++ chS' f b m, ?_, ?_⟩
  · refine ⟨_, rfl, x_t (g3.seqT sb) rfl ⟨_, rfl, x_t (g3.seqT sm) rfl (n_flat rfl ⟨_, rfl, ?_⟩)⟩⟩
    rw [neb]
    unfold chS'
    by_cases e1 : b.2.2 ≠ m.2.2
    · rw [decide_eq_true e1, if_pos e1]
      refine iteT ⟨_, rfl, .inl ⟨rfl, _, SqL.of s3⟩, _, rfl, x_t (g3.seqT hS) rfl ⟨D, _, _, rfl, rfl, s3, lap _ (by omega), ?_⟩⟩
      refine ⟨ys ++ [sg f.sl], rfl, gg g3, ?_, by rw [List.length_append]; show _ + 1 ≤ 3; omega, by rw [List.flatMap_append, c3]; show _ ++ (cps (sg f.sl) ++ []) = _; rw [List.append_nil, cps_sg]⟩
      rw [upd_same]
      unfold strV
      rw [List.map_append]; rfl
    · rw [decide_eq_false e1, if_neg e1]
      exact iteF ⟨ys, rfl, g3, s3, by omega, by rw [c3, List.append_nil]⟩
  rintro σ H4 ⟨ys, rfl, g4, s4, l4, c4⟩
  -- the link that begins
  refine ⟨fun σ H5 => ∃ ys : List Str, σ = [some (.ref a), some (.ref ab), some (.ref am), some (.ref D), some (.bl (decide (b.1 ≠ m.1)))] ∧ Gr H H5 ∧ H5 D = some (.lst (strV ys)) ∧ ys.length ≤ 4 ∧ ys.flatMap cps = chg f b m, ?_, ?_⟩
  · have ec : chg f b m = chE f b m ++ chB f b m ++ chS' f b m ++ chO f b m := by unfold chg; simp only [List.append_assoc]
    rw [ec]
    refine ⟨_, rfl, _, rfl, ?_⟩
    unfold chO
    by_cases e1 : b.1 ≠ m.1
    · rw [decide_eq_true e1]
      refine iteT ⟨_, rfl, x_t (g4.seqT sm) rfl (n_flat rfl ⟨_, rfl, ?_⟩)⟩
      rw [nes]
      by_cases e2 : m.1 ≠ ""
      · rw [decide_eq_true e2, if_pos ⟨e1, e2⟩]
        have o1 := sg_len f.op
        have o2 := sg_len f.mi
        refine iteT ⟨_, rfl, .inl ⟨rfl, _, SqL.of s4⟩, _, rfl, x_t (g4.seqT hS) rfl ⟨_, rfl, x_t (g4.seqT sm) rfl (a_ss (sl (by omega)) ⟨_, rfl, x_t (g4.seqT hS) rfl (a_ss (sl (by rw [strLen_append]; omega)) ⟨D, _, _, rfl, rfl, s4, lap _ (by omega), ?_⟩)⟩)⟩⟩
        refine ⟨ys ++ [sg f.op ++ m.1 ++ sg f.mi], rfl, gg g4, ?_, by rw [List.length_append]; show _ + 1 ≤ 4; omega, by rw [List.flatMap_append, c4]; show _ ++ (cps (sg f.op ++ m.1 ++ sg f.mi) ++ []) = _; rw [List.append_nil, cps_app, cps_app, cps_sg, cps_sg]; simp only [List.append_assoc]⟩
        rw [upd_same]
        unfold strV
        rw [List.map_append]; rfl
      · rw [decide_eq_false e2, if_neg (fun z => e2 z.2)]
        exact iteF ⟨ys, rfl, g4, s4, by omega, by rw [c4, List.append_nil]⟩
    · rw [decide_eq_false e1, if_neg (fun z => e1 z.1)]
      exact iteF (iteF ⟨ys, rfl, g4, s4, by omega, by rw [c4, List.append_nil]⟩)
  rintro σ H5 ⟨ys, rfl, g5, s5, l5, c5⟩
  refine ⟨⟨_, rfl⟩, _, rfl, "", D, ys, rfl, rfl, .inl (SqL.of s5), ?_, k _ H5 (by rw [join_flat, c5]) g5⟩
  have hb : ∀ y ∈ ys, y.length ≤ 100 := fun y hy => by
    have q := chg_len (f := f) (b := b) km
    rw [← c5] at q
    obtain ⟨l1, l2', e⟩ := List.append_of_mem hy
    rw [e, List.flatMap_append, List.flatMap_cons, List.length_append, List.length_append, cps_len] at q
    omega
  have q := sum1 hb
  have l0 : ("" : Str).length = 0 := rfl
  rw [l0]
  omega
theorem ok_lsw {fd : FuncData} (F : FnP K "_law_switched" s__law_switched fd) (T : TD K mg) : FnOk P w K mg base CX0 1 (He.fAd K ("_law_switched", none)) fd p__law_switched (spChg K) := by
  refine okP F sc__law_switched (fun vs H Q E h => by obtain ⟨a, f, vb, vm, b, m, rfl, _⟩ := h; rfl) (fun A outer s H vs Q E hr h => ?_)
  obtain ⟨a, f, vb, vm, b, m, rfl, hS, hb, hm, kb, km, k⟩ := h
  obtain ⟨ab, rfl, sb⟩ := dd_mk hb
  obtain ⟨am, rfl, sm⟩ := dd_mk hm
  have lb := (LK4_ok _ kb).1
  have lm := (LK4_ok _ km).1
  have sl : ∀ {n : Nat}, n ≤ 3000 → n ≤ sizeLine := fun h => by rw [sizeLine_eq]; omega
  have lE : (chE f b m).length ≤ 1 := by unfold chE; split <;> simp [ol_len]
  have lB : (chB f b m).length ≤ 1 := by unfold chB; split <;> simp [ol_len]
  have lS : (chS' f b m).length ≤ 1 := by unfold chS'; split <;> simp [ol_len]
  refine ⟨_, (pss_cons (ps_set (i := 3) sc__law_switched.nd rfl (by first | exact Or.inl rfl | exact Or.inr rfl) pe_str)
      (C8.pss_cut (ps_if (PW.pt (pw_and (pt_cmpR (u_ne (K := K) rfl hr.units) (pe_ix (u_ix (K := K) rfl) (pv 1) pe_int (fun _ _ => rfl)) pe_str (nomark _)) (pw_and1 (pt_cmpR (u_ne (K := K) rfl hr.units) (pe_ix (u_ix (K := K) rfl) (pv 1) pe_int (fun _ _ => rfl)) (pe_ix (u_ix (K := K) rfl) (pv 2) pe_int (fun _ _ => rfl)) (nomark _)))))
      (pss_one (ps_set (i := 3) sc__law_switched.nd rfl (by first | exact Or.inl rfl | exact Or.inr rfl) (pe_ix (u_ix (K := K) rfl) (pv 0) pe_int (fun _ _ => rfl))))
      pss_nil)
      (C8.pss_cut (ps_if (pt_cmpR (u_ne (K := K) rfl hr.units) (pe_ix (u_ix (K := K) rfl) (pv 1) pe_int (fun _ _ => rfl)) (pe_ix (u_ix (K := K) rfl) (pv 2) pe_int (fun _ _ => rfl)) (nomark _))
      (pss_one (ps_set (i := 3) sc__law_switched.nd rfl (by first | exact Or.inl rfl | exact Or.inr rfl) (pe_op (u_add (K := K) rfl) (pv 3) (pe_ix (u_ix (K := K) rfl) (pv 0) pe_int (fun _ _ => rfl)))))
      pss_nil)
      (C8.pss_cut (ps_if (pt_cmpR (u_ne (K := K) rfl hr.units) (pe_ix (u_ix (K := K) rfl) (pv 1) pe_int (fun _ _ => rfl)) (pe_ix (u_ix (K := K) rfl) (pv 2) pe_int (fun _ _ => rfl)) (nomark _))
      (pss_one (ps_set (i := 3) sc__law_switched.nd rfl (by first | exact Or.inl rfl | exact Or.inr rfl) (pe_op (u_add (K := K) rfl) (pv 3) (pe_ix (u_ix (K := K) rfl) (pv 0) pe_int (fun _ _ => rfl)))))
      pss_nil)
      (C8.pss_cut (ps_if (PW.pt (pw_and (pt_cmpR (u_ne (K := K) rfl hr.units) (pe_ix (u_ix (K := K) rfl) (pv 2) pe_int (fun _ _ => rfl)) pe_str (nomark _)) (pw_and1 (pt_cmpR (u_ne (K := K) rfl hr.units) (pe_ix (u_ix (K := K) rfl) (pv 1) pe_int (fun _ _ => rfl)) (pe_ix (u_ix (K := K) rfl) (pv 2) pe_int (fun _ _ => rfl)) (nomark _)))))
      (pss_one (ps_set (i := 3) sc__law_switched.nd rfl (by first | exact Or.inl rfl | exact Or.inr rfl) (pe_op (u_add (K := K) rfl) (pe_op (u_add (K := K) rfl) (pe_op (u_add (K := K) rfl) (pv 3) (pe_ix (u_ix (K := K) rfl) (pv 0) pe_int (fun _ _ => rfl))) (pe_ix (u_ix (K := K) rfl) (pv 2) pe_int (fun _ _ => rfl))) (pe_ix (u_ix (K := K) rfl) (pv 0) pe_int (fun _ _ => rfl)))))
      pss_nil)
      (pss_one (ps_ret (pv 3)))))))), ?_⟩
  refine ⟨fun σ H2 => ∃ t : Str, σ = [some (.ref a), some (.ref ab), some (.ref am), some (.str t)] ∧ H2 = H ∧ cps t = chE f b m, ?_, ?_⟩
  · refine ⟨_, rfl, x_t sb rfl (n_flat rfl ⟨_, rfl, ?_⟩)⟩
    rw [nes]
    unfold chE
    by_cases e2 : b.1 ≠ ""
    · rw [decide_eq_true e2]
      refine iteT ⟨_, rfl, x_t sb rfl ⟨_, rfl, x_t sm rfl (n_flat rfl ⟨_, rfl, ?_⟩)⟩⟩
      rw [nes]
      by_cases e1 : b.1 ≠ m.1
      · rw [decide_eq_true e1, if_pos ⟨e1, e2⟩]
        exact iteT ⟨_, rfl, x_t hS rfl ⟨sg f.en, rfl, rfl, cps_sg _⟩⟩
      · rw [decide_eq_false e1, if_neg (fun z => e1 z.1)]
        exact iteF ⟨"", rfl, rfl, by decide +kernel⟩
    · rw [decide_eq_false e2, if_neg (fun z => e2 z.2)]
      exact iteF (iteF ⟨"", rfl, rfl, by decide +kernel⟩)
  rintro σ H2 ⟨t1, rfl, rfl, c1⟩
  have n1 : t1.length ≤ 1 := by rw [← cps_len, c1]; exact lE
  refine ⟨fun σ H3 => ∃ t : Str, σ = [some (.ref a), some (.ref ab), some (.ref am), some (.str t)] ∧ H3 = H2 ∧ cps t = chE f b m ++ chB f b m, ?_, ?_⟩
  · refine ⟨_, rfl, x_t sb rfl ⟨_, rfl, x_t sm rfl (n_flat rfl ⟨_, rfl, ?_⟩)⟩⟩
    rw [neb]
    unfold chB
    have o1 := sg_len f.bo
    by_cases e1 : b.2.1 ≠ m.2.1
    · rw [decide_eq_true e1, if_pos e1]
      exact iteT ⟨_, rfl, _, rfl, x_t hS rfl (a_ss (sl (by omega)) ⟨t1 ++ sg f.bo, rfl, rfl, by rw [cps_app, c1, cps_sg]⟩)⟩
    · rw [decide_eq_false e1, if_neg e1]
      exact iteF ⟨t1, rfl, rfl, by rw [c1, List.append_nil]⟩
  rintro σ H3 ⟨t2, rfl, rfl, c2⟩
  have n2 : t2.length ≤ 2 := by rw [← cps_len, c2, List.length_append]; omega
  refine ⟨fun σ H4 => ∃ t : Str, σ = [some (.ref a), some (.ref ab), some (.ref am), some (.str t)] ∧ H4 = H3 ∧ cps t = chE f b m ++ chB f b m ++ chS' f b m, ?_, ?_⟩
  · refine ⟨_, rfl, x_t sb rfl ⟨_, rfl, x_t sm rfl (n_flat rfl ⟨_, rfl, ?_⟩)⟩⟩
    rw [neb]
    unfold chS'
    have o1 := sg_len f.sl
    by_cases e1 : b.2.2 ≠ m.2.2
    · rw [decide_eq_true e1, if_pos e1]
      exact iteT ⟨_, rfl, _, rfl, x_t hS rfl (a_ss (sl (by omega)) ⟨t2 ++ sg f.sl, rfl, rfl, by rw [cps_app, c2, cps_sg]⟩)⟩
    · rw [decide_eq_false e1, if_neg e1]
      exact iteF ⟨t2, rfl, rfl, by rw [c2, List.append_nil]⟩
  rintro σ H4 ⟨t3, rfl, rfl, c3⟩
  have n3 : t3.length ≤ 3 := by rw [← cps_len, c3, List.length_append, List.length_append]; omega
  refine ⟨fun σ H5 => ∃ t : Str, σ = [some (.ref a), some (.ref ab), some (.ref am), some (.str t)] ∧ H5 = H4 ∧ cps t = chg f b m, ?_, ?_⟩
  · have ec : chg f b m = chE f b m ++ chB f b m ++ chS' f b m ++ chO f b m := by unfold chg; simp only [List.append_assoc]
    rw [ec]
    refine ⟨_, rfl, x_t sm rfl (n_flat rfl ⟨_, rfl, ?_⟩)⟩
    rw [nes]
    unfold chO
    by_cases e2 : m.1 ≠ ""
    · rw [decide_eq_true e2]
      refine iteT ⟨_, rfl, x_t sb rfl ⟨_, rfl, x_t sm rfl (n_flat rfl ⟨_, rfl, ?_⟩)⟩⟩
      rw [nes]
      by_cases e1 : b.1 ≠ m.1
      · rw [decide_eq_true e1, if_pos ⟨e1, e2⟩]
        have o1 := sg_len f.op
        have o2 := sg_len f.mi
        refine iteT ⟨_, rfl, _, rfl, x_t hS rfl (a_ss (sl (by omega)) ⟨_, rfl, x_t sm rfl (a_ss (sl (by rw [strLen_append]; omega)) ⟨_, rfl, x_t hS rfl (a_ss (sl (by rw [strLen_append, strLen_append]; omega)) ?_)⟩)⟩)⟩
        exact ⟨t3 ++ sg f.op ++ m.1 ++ sg f.mi, rfl, rfl, by rw [cps_app, cps_app, cps_app, c3, cps_sg, cps_sg]; simp only [List.append_assoc]⟩
      · rw [decide_eq_false e1, if_neg (fun z => e1 z.1)]
        exact iteF ⟨t3, rfl, rfl, by rw [c3, List.append_nil]⟩
    · rw [decide_eq_false e2, if_neg (fun z => e2 z.2)]
      exact iteF (iteF ⟨t3, rfl, rfl, by rw [c3, List.append_nil]⟩)
  rintro σ H5 ⟨t4, rfl, rfl, c4⟩
  exact ⟨_, rfl, k t4 H5 c4 (Gr.refl _)⟩
def spEsc (K : PySem.W.Frag) : Sp := fun vs H Q _ => ∃ (a : Addr) (f : Fo) (x : Str), vs = [.ref a, .str x] ∧ SqT K H a (strV f.strs) ∧ x.length ≤ 1000 ∧ ∀ (t : Str) H', cps t = (cps x).flatMap (esc f) → Gr H H' → Q (.str t) H'
theorem esc_len (f : Fo) (c : Nat) : (esc f c).length ≤ 2 := by
  have := ol_len f.es
  unfold esc
  split
  · rw [List.length_append, List.length_singleton]; omega
  · exact Nat.le_succ 1
theorem ok_escaped {fd : FuncData} (F : FnP K "escaped" s_escaped fd) (T : TD K mg) (D_signs_of : Df P w K mg base "signs_of" 1 p_signs_of (spSigns K)) : FnOk P w K mg base CX0 2 (He.fAd K ("escaped", none)) fd p_escaped (spEsc K) := by
  refine okP F sc_escaped (fun vs H Q E h => by obtain ⟨a, f, x, rfl, _⟩ := h; rfl) (fun A outer s H vs Q E hr h => ?_)
  obtain ⟨a, f, x, rfl, hS, hx, k⟩ := h
  have sl : ∀ {n : Nat}, n ≤ 3000 → n ≤ sizeLine := fun h => by rw [sizeLine_eq]; omega
  refine ⟨_, (pss_cons (ps_set (i := 2) sc_escaped.nd rfl (by first | exact Or.inl rfl | exact Or.inr rfl) (pe_fn D_signs_of hr (by decide) rfl (pa_cons (pv 0) pa_nil)))
      (pss_one (ps_ret (k_join (K := K) rfl pe_str (pe_lc (own := [("character", 3)]) (g := gName 3) (tt := tYes) rfl sc_escaped.nd (pi_str (pv 1)) (blkOk_by (own := [("character", 3)]) (N := n_escaped) (sc := defScope s_escaped) (by decide +kernel)) (fun _ _ _ _ _ => (pg_name (i := 3) sc_escaped.nd rfl (by first | exact Or.inl rfl | exact Or.inr rfl))) (fun _ _ _ _ _ => pts_nil) (fun _ _ _ _ _ => (pe_ifExp (pt_cmpR (u_in (K := K) rfl) (pv 3) (pv 2) (by first | exact nomark _ | rfl)) (pe_op (u_add (K := K) rfl) (pe_ix (u_ix (K := K) rfl) (pv 0) (pe_gl T.c_ESCAPE rfl) (fun _ _ => rfl)) (pv 3)) (pv 3)))))))), ?_⟩
  refine ⟨_, rfl, a, f, rfl, hS, fun sgs H1 e1 g1 => ?_⟩
  refine ⟨⟨_, rfl⟩, _, rfl, x, rfl, fun D hD => ?_⟩
  refine lc_S (x := x) (fun i H' => ∃ ys : List Str, ys.length = i ∧ ys.flatMap cps = ((cps x).take i).flatMap (esc f) ∧ (∀ y ∈ ys, y.length ≤ 2) ∧ Gr H1 H' ∧ H' D = some (.lst (strV ys))) ⟨[], rfl, rfl, by simp, Gr.new hD, upd_same⟩ ?_ ?_
  · rintro i c H' hc ⟨ys, hl, hq, hb, g, hL⟩
    have il := (List.getElem?_eq_some_iff.mp hc).1
    rw [Array.length_toList] at il
    have il2 : i < x.length := il
    refine ⟨rfl, ?_⟩
    have fin : ∀ t : Str, cps t = esc f c → t.length ≤ 2 → ∃ acc, H' D = some (.lst acc) ∧ acc.length < sizeLine ∧ ∃ ys : List Str, ys.length = i + 1 ∧ ys.flatMap cps = ((cps x).take (i + 1)).flatMap (esc f) ∧ (∀ y ∈ ys, y.length ≤ 2) ∧ Gr H1 (upd H' D (.lst (acc ++ [V.str t]))) ∧ upd H' D (.lst (acc ++ [V.str t])) D = some (.lst (strV ys)) := by
      intro t ht lt
      refine ⟨strV ys, hL, by unfold strV; rw [List.length_map, hl, sizeLine_eq]; omega, ys ++ [t], by rw [List.length_append, hl]; rfl, ?_, ?_, g.upd' hD, ?_⟩
      · rw [List.flatMap_append, hq, take_snoc hc, List.flatMap_append]
        show _ ++ (cps t ++ []) = _ ++ (esc f c ++ [])
        rw [ht]
      · intro y hy
        rcases List.mem_append.mp hy with z | z
        · exact hb y z
        · rw [List.mem_singleton.mp z]; exact lt
      · rw [upd_same]
        unfold strV
        rw [List.map_append]; rfl
    refine ⟨_, rfl, _, rfl, in_sign ⟨_, rfl, ?_⟩⟩
    have e2 : sgs.cps.toList = f.sgs := e1
    rw [e2]
    have o1 := sg_len f.es
    by_cases hs : c ∈ f.sgs
    · rw [decide_eq_true hs]
      refine iteT ⟨_, rfl, x_t ((g1.trans g).seqT hS) rfl ⟨_, rfl, a_ss (sl (by show (sg f.es).length + 1 ≤ 3000; omega)) (fin _ ?_ ?_)⟩⟩
      · unfold esc
        rw [if_pos hs]
        show cps (sg f.es ++ chS c) = _
        rw [cps_app, cps_sg]
        rfl
      · show (sg f.es ++ chS c).length ≤ 2
        have e3 : (sg f.es ++ chS c).length = (sg f.es).length + 1 := strLen_append _ _
        omega
    · rw [decide_eq_false hs]
      refine iteF ⟨_, rfl, fin _ ?_ (Nat.le_succ 1)⟩
      unfold esc
      rw [if_neg hs]
  · rintro H' ⟨ys, hl, hq, hb, g, hL⟩
    have e3 : (cps x).take x.cps.toList.length = cps x := List.take_length
    rw [e3] at hq
    refine ⟨"", D, ys, rfl, rfl, .inl (SqL.of hL), ?_, k _ H' (by rw [join_flat, hq]) (g1.trans g)⟩
    have q := sum1 hb
    have l0 : ("" : Str).length = 0 := rfl
    have l1 : x.cps.toList.length = x.length := Array.length_toList
    rw [l0]
    omega
end
end Vf
end
section
set_option Elab.async false
set_option linter.all false
set_option maxRecDepth 100000
set_option maxHeartbeats 4000000
namespace Vf
open PySem PySem.Spec PyProof.Rows L2 GxR GenW RZ
abbrev s_written_cell : Stmt := top 36
abbrev n_written_cell : List Str := ["form", "cell", "parts", "before", "text", "marks"]
abbrev p_written_cell : List Str := ["form", "cell"]
theorem sc_written_cell : FnScope n_written_cell p_written_cell (defScope s_written_cell) := ⟨rfl, rfl, rfl, by decide +kernel, rfl, by decide +kernel, by decide +kernel⟩

abbrev s__law_cell_text : Stmt := top 73
abbrev n__law_cell_text : List Str := ["form", "cell", "text", "here", "piece", "marks", "sign"]
abbrev p__law_cell_text : List Str := ["form", "cell"]
theorem sc__law_cell_text : FnScope n__law_cell_text p__law_cell_text (defScope s__law_cell_text) := ⟨rfl, rfl, rfl, by decide +kernel, rfl, by decide +kernel, by decide +kernel⟩

def wrP (f : Fo) : Mk3 → List Pc → List Nat
  | _, [] => []
  | b, p :: ps => chg f b p.2 ++ ((cps p.1).flatMap (esc f) ++ wrP f p.2 ps)
def lastM : Mk3 → List Pc → Mk3
  | b, [] => b
  | _, p :: ps => lastM p.2 ps
theorem wrP_snoc (f : Fo) : ∀ (ps : List Pc) (b : Mk3) (p : Pc), wrP f b (ps ++ [p]) = wrP f b ps ++ (chg f (lastM b ps) p.2 ++ (cps p.1).flatMap (esc f))
  | [], b, p => by
    show chg f b p.2 ++ ((cps p.1).flatMap (esc f) ++ []) = [] ++ _
    rw [List.append_nil, List.nil_append]
    rfl
  | q :: ps, b, p => by
    show chg f b q.2 ++ ((cps q.1).flatMap (esc f) ++ wrP f q.2 (ps ++ [p])) = (chg f b q.2 ++ ((cps q.1).flatMap (esc f) ++ wrP f q.2 ps)) ++ _
    rw [wrP_snoc f ps q.2 p]
    simp only [List.append_assoc]
    rfl
theorem lastM_snoc : ∀ (ps : List Pc) (b : Mk3) (p : Pc), lastM b (ps ++ [p]) = p.2
  | [], _, _ => rfl
  | _ :: ps, _, p => lastM_snoc ps _ p
theorem wr_text (f : Fo) (m : Mk3) (xs : Fc) : ∀ (l : List Nat), wr f m ((l.map fun c => ((c, m) : Ch)) ++ xs) = l.flatMap (esc f) ++ wr f m xs
  | [] => rfl
  | c :: l => by
    show chg f m m ++ (esc f c ++ wr f m ((l.map fun c => ((c, m) : Ch)) ++ xs)) = (esc f c ++ l.flatMap (esc f)) ++ wr f m xs
    rw [chg_same, wr_text f m xs l, List.nil_append, List.append_assoc]
theorem wr_fl (f : Fo) : ∀ (ps : List Pc) (b : Mk3), (∀ p ∈ ps, cps p.1 ≠ []) → wr f b (fl ps) = wrP f b ps ++ chg f (lastM b ps) NO
  | [], b, _ => rfl
  | p :: ps, b, h => by
    have ih := wr_fl f ps p.2 fun q hq => h q (List.mem_cons_of_mem _ hq)
    have e : fl (p :: ps) = ((cps p.1).map fun c => ((c, p.2) : Ch)) ++ fl ps := by rw [show fl (p :: ps) = fl [p] ++ fl ps from fl_app [p] ps, fl_one]
    rw [e]
    obtain ⟨c, l, hc⟩ : ∃ c l, cps p.1 = c :: l := by
      cases q : cps p.1 with
      | nil => exact absurd q (h p List.mem_cons_self)
      | cons c l => exact ⟨c, l, rfl⟩
    rw [hc]
    show chg f b p.2 ++ (esc f c ++ wr f p.2 ((l.map fun c => ((c, p.2) : Ch)) ++ fl ps)) = (chg f b p.2 ++ ((cps p.1).flatMap (esc f) ++ wrP f p.2 ps)) ++ chg f (lastM p.2 ps) NO
    rw [wr_text, ih, hc]
    show _ = (chg f b p.2 ++ ((esc f c ++ l.flatMap (esc f)) ++ wrP f p.2 ps)) ++ _
    simp only [List.append_assoc]
theorem wr_len {f : Fo} : ∀ (xs : Fc) (b : Mk3), OkC xs → (wr f b xs).length ≤ 19 * xs.length + 17
  | [], b, _ => by
    show (chg f b NO).length ≤ _
    have := chg_len (f := f) (b := b) (m := NO) (by simp [NO, LK4])
    omega
  | (c, m) :: xs, b, h => by
    have h1 := chg_len (f := f) (b := b) (m := m) (h (c, m) List.mem_cons_self).2.2
    have h2 := esc_len f c
    have ih := wr_len (f := f) xs m fun x hx => h x (List.mem_cons_of_mem _ hx)
    show (chg f b m ++ (esc f c ++ wr f m xs)).length ≤ _
    rw [List.length_append, List.length_append, List.length_cons]
    omega
theorem sum_flat (ys : List Str) : (ys.map (·.length)).sum = (ys.flatMap cps).length := by
  induction ys with
  | nil => rfl
  | cons y ys ih =>
    rw [List.map_cons, List.sum_cons, ih, List.flatMap_cons, List.length_append, cps_len]
def spWCell (K : PySem.W.Frag) : Sp := fun vs H Q _ => ∃ (a : Addr) (f : Fo) (v : V) (xs : Fc), vs = [.ref a, v] ∧ SqT K H a (strV f.strs) ∧ Dd K H v (ceD xs) ∧ OkC xs ∧ xs.length ≤ 491 ∧ ∀ (t : Str) H', cps t = wr f NO xs → Gr H H' → Q (.str t) H'
theorem in_strs {f : Fo} {c : Nat} : inV (.str (chS c)) (strV (f.os.map sg)) = decide (c ∈ f.sgs) := by
  have q : inV (.str (chS c)) (strV (f.os.map sg)) = true ↔ c ∈ f.sgs := by
    rw [inV_str]
    constructor
    · intro h
      obtain ⟨o, ho, e⟩ := List.mem_map.mp h
      have e2 : ol o = [c] := by rw [← cps_sg, e]; rfl
      cases o with
      | none => cases e2
      | some d =>
        have e3 : d = c := List.head_eq_of_cons_eq e2
        exact List.mem_filterMap.mpr ⟨some d, ho, by rw [e3]; rfl⟩
    · intro h
      obtain ⟨o, ho, e⟩ := List.mem_filterMap.mp h
      have e : o = some c := e
      rw [e] at ho
      exact List.mem_map.mpr ⟨some c, ho, rfl⟩
  cases e : inV (.str (chS c)) (strV (f.os.map sg)) with
  | true => exact (decide_eq_true (q.mp e)).symm
  | false => exact (decide_eq_false fun z => by rw [q.mpr z] at e; cases e).symm
/-- for c in a text -/
theorem for_S {x : Str} {g : TG} {tb : TS} {D : L2.Ends} {σ : L2.St} {H : Hp} (Pv : Nat → L2.St → Hp → Prop) (h0 : Pv 0 σ H)
    (hs : ∀ i c σ H, (cps x)[i]? = some c → Pv i σ H → g (.str (chS c)) σ H fun σ2 H2 => tb { nx := Pv (i + 1), rt := D.rt, bk := D.nx, ct := Pv (i + 1) } σ2 H2) (hd : ∀ σ H, Pv (cps x).length σ H → D.nx σ H) :
    ∃ W : Nat → Nat → L2.St → Hp → Prop, (∃ m, W 0 m σ H) ∧ ∀ i m σ H, W i m σ H →
      ((Its x).stop i H ∧ D.nx σ H) ∨ ((Its x).go i H ∧ ∃ N : L2.St → Hp → Prop, (∀ σ' H', N σ' H' → ∃ m', m' < m ∧ W (i + 1) m' σ' H') ∧ ∀ y H', (Its x).yld i H y H' → g y σ H' fun σ2 H2 => tb { nx := N, rt := D.rt, bk := D.nx, ct := N } σ2 H2) := by
  refine ⟨fun i m σ H => i + m = (cps x).length ∧ Pv i σ H, ⟨_, Nat.zero_add _, h0⟩, fun i m σ H ⟨hm, p⟩ => ?_⟩
  have e2 : (cps x).length = x.cps.size := Array.length_toList
  cases m with
  | zero =>
    have e : i = (cps x).length := by omega
    subst e
    exact .inl ⟨by show x.cps.size ≤ _; omega, hd σ H p⟩
  | succ m =>
    refine .inr ⟨by show i < x.cps.size; omega, Pv (i + 1), fun σ' H' p' => ⟨m, Nat.lt_succ_self _, by omega, p'⟩, ?_⟩
    rintro y H' ⟨rfl, c, hc, rfl⟩
    exact hs i c σ _ (by rw [Array.getElem?_toList]; exact hc) p
section
variable {P : Program} {w : World} {K : PySem.W.Frag} {mg : Str → Option Value} {base : Heap}
theorem ok_wcell {fd : FuncData} (F : FnP K "written_cell" s_written_cell fd) (T : TD K mg) (D_written_change : Df P w K mg base "written_change" 1 p_written_change (spChg K)) (D_escaped : Df P w K mg base "escaped" 2 p_escaped (spEsc K)) : FnOk P w K mg base CX0 3 (He.fAd K ("written_cell", none)) fd p_written_cell (spWCell K) := by
  obtain ⟨aN, m_NO_MARKS, sN⟩ := T.c_NO_MARKS
  refine okP F sc_written_cell (fun vs H Q E h => by obtain ⟨a, f, v, xs, rfl, _⟩ := h; rfl) (fun A outer s H vs Q E hr h => ?_)
  obtain ⟨a, f, v, fs, rfl, hS, hd, ok, hl, k⟩ := h
  obtain ⟨b, xs, rfl, sq, dA⟩ := dd_tup hd
  have okp : ∀ p ∈ cn fs, OkP p := fun p hp => ⟨cn_ne fs p hp, ok.mk hp⟩
  have cl : (cn fs).length ≤ 491 := by
    have := pcs_len okp
    rw [fl_cn] at this
    omega
  have xl : xs.length = (cn fs).length := by rw [ddA_len dA, List.length_map]
  have sl : ∀ {n : Nat}, n ≤ 3000 → n ≤ sizeLine := fun h => by rw [sizeLine_eq]; omega
  have nod : ∀ H' : Hp, Dd K H' (.ref aN) (mkD NO) := fun H' => .tup (sN _) (.cons (.str _) (.cons (.bl _) (.cons (.bl _) .nil)))
  refine ⟨_, (pss_cons (ps_set (i := 2) sc_written_cell.nd rfl (by first | exact Or.inl rfl | exact Or.inr rfl) (pe_lst pa_nil))
      (pss_cons (ps_set (i := 3) sc_written_cell.nd rfl (by first | exact Or.inl rfl | exact Or.inr rfl) (pe_ref rfl m_NO_MARKS))
      (pss_cons (ps_for PassesOwn.never rfl (k_tup (K := K) rfl (pv 1)) (kg_tup 2 (K := K) rfl rfl (pgs_cons (pg_name (i := 4) sc_written_cell.nd rfl (by first | exact Or.inl rfl | exact Or.inr rfl)) (pgs_cons (pg_name (i := 5) sc_written_cell.nd rfl (by first | exact Or.inl rfl | exact Or.inr rfl)) pgs_nil)))
      (pss_cons (ps_expr (k_bm (K := K) rfl PySem.F.plainAttrs_list PySem.F.slot_list_append PySem.F.type_list_append mt_append (pv 2) (pa_cons (pe_fn D_written_change hr (by decide) rfl (pa_cons (pv 0) (pa_cons (pv 3) (pa_cons (pv 5) pa_nil)))) pa_nil)))
      (pss_cons (ps_expr (k_bm (K := K) rfl PySem.F.plainAttrs_list PySem.F.slot_list_append PySem.F.type_list_append mt_append (pv 2) (pa_cons (pe_fn D_escaped hr (by decide) rfl (pa_cons (pv 0) (pa_cons (pv 4) pa_nil))) pa_nil)))
      (pss_one (ps_set (i := 3) sc_written_cell.nd rfl (by first | exact Or.inl rfl | exact Or.inr rfl) (pv 5))))))
      (pss_cons (ps_expr (k_bm (K := K) rfl PySem.F.plainAttrs_list PySem.F.slot_list_append PySem.F.type_list_append mt_append (pv 2) (pa_cons (pe_fn D_written_change hr (by decide) rfl (pa_cons (pv 0) (pa_cons (pv 3) (pa_cons (pe_ref rfl m_NO_MARKS) pa_nil)))) pa_nil)))
      (pss_one (ps_ret (k_join (K := K) rfl pe_str (pv 2)))))))), ?_⟩
  refine ⟨Nat.zero_le _, fun D hD => ?_⟩
  refine newH hD fun H1 g1 s1 => ?_
  refine ⟨_, rfl, b, rfl, ⟨_, g1.seqT sq⟩, ?_⟩
  refine for_tup (K := K) (a := b) (xs := xs) (fun i σ H' => ∃ (o4 o5 : Option V) (vb : V) (m : Mk3) (ys : List Str), σ = [some (.ref a), some (.ref b), some (.ref D), some vb, o4, o5] ∧ Gr H H' ∧ Dd K H' vb (mkD m) ∧ m.1 ∈ LK4 ∧ m = lastM NO ((cn fs).take i) ∧ H' D = some (.lst (strV ys)) ∧ ys.length = 2 * i ∧ ys.flatMap cps = wrP f NO ((cn fs).take i))
    ⟨none, none, .ref aN, NO, [], rfl, g1, nod _, by simp [NO, LK4], rfl, s1, rfl, rfl⟩ ?_ ?_ ?_
  · rintro i σ H' _ ⟨o4, o5, vb, m, ys, rfl, g, _⟩
    exact g.seqT sq
  · rintro i x σ H' hx ⟨o4, o5, vb, m, ys, rfl, g, db, km, em, hL, ly, hc⟩
    obtain ⟨p, hp, dp⟩ := ddA_map (g.ddA _ _ dA) hx
    have pm := List.mem_of_getElem? hp
    have il := (List.getElem?_eq_some_iff.mp hp).1
    obtain ⟨b1, w1, rfl, q1, dm⟩ := dd_pc dp
    have pl := pc_len pm
    rw [fl_cn] at pl
    refine ⟨b1, _, rfl, q1, rfl, _, _, rfl, _, _, rfl, rfl, ?_⟩
    refine ⟨_, rfl, .inl ⟨rfl, _, SqL.of hL⟩, _, rfl, _, rfl, _, rfl, a, f, vb, w1, m, p.2, rfl, g.seqT hS, db, dm, km, (okp p pm).2, fun t1 H2 c1 g2 => ?_⟩
    have hL2 := g2.lst hL
    refine ⟨D, _, _, rfl, rfl, hL2, by unfold strV; rw [List.length_map, ly, sizeLine_eq]; omega, ?_⟩
    have g3 := GrN.upd (ys := strV ys ++ [.str t1]) hL2
    have S3 : SqT K (upd H2 D (.lst (strV ys ++ [.str t1]))) a (strV f.strs) := g3.seqT ((g.trans g2).seqT hS)
    refine ⟨_, rfl, .inl ⟨rfl, _, SqL.of upd_same⟩, _, rfl, _, rfl, a, f, p.1, rfl, S3, by omega, fun t2 H4 c2 g4 => ?_⟩
    have hL4 := g4.lst (xs := strV ys ++ [.str t1]) upd_same
    refine ⟨D, _, _, rfl, rfl, hL4, by rw [List.length_append]; unfold strV; rw [List.length_map, ly, sizeLine_eq]; show _ + 1 < _; omega, ?_⟩
    have g5 := GrN.upd (ys := (strV ys ++ [V.str t1]) ++ [.str t2]) hL4
    refine ⟨_, rfl, _, _, w1, p.2, ys ++ [t1, t2], rfl, (((g.trans g2).upd' hD).trans g4).upd' hD, g5.dd _ _ rfl (g4.dd _ _ (g3.dd _ _ rfl (g2.dd _ _ dm))), (okp p pm).2, ?_, ?_, by rw [List.length_append, ly]; show 2 * i + 2 = _; omega, ?_⟩
    · rw [take_snoc hp, lastM_snoc]
    · rw [upd_same]
      unfold strV
      rw [List.map_append, List.append_assoc]
      rfl
    · rw [take_snoc hp, wrP_snoc, List.flatMap_append, hc, ← em]
      show _ ++ (cps t1 ++ (cps t2 ++ [])) = _
      rw [c1, c2, List.append_nil]
  · rintro σ H' ⟨o4, o5, vb, m, ys, rfl, g, db, km, em, hL, ly, hc⟩
    rw [xl, List.take_length] at em hc
    refine ⟨_, rfl, .inl ⟨rfl, _, SqL.of hL⟩, _, rfl, _, rfl, a, f, vb, _, m, NO, rfl, g.seqT hS, db, nod _, km, by simp [NO, LK4], fun t1 H2 c1 g2 => ?_⟩
    have hL2 := g2.lst hL
    refine ⟨D, _, _, rfl, rfl, hL2, by unfold strV; rw [List.length_map, ly, sizeLine_eq]; omega, ?_⟩
    have ec : (ys ++ [t1]).flatMap cps = wr f NO fs := by
      have q := wr_fl f (cn fs) NO (cn_ne fs)
      rw [fl_cn] at q
      rw [q, List.flatMap_append, hc, ← em]
      show _ ++ (cps t1 ++ []) = _
      rw [c1, List.append_nil]
    have hL3 : upd H2 D (.lst (strV ys ++ [.str t1])) D = some (.lst (strV (ys ++ [t1]))) := by
      rw [upd_same]
      unfold strV
      rw [List.map_append]; rfl
    refine ⟨⟨_, rfl⟩, _, rfl, "", D, ys ++ [t1], rfl, rfl, .inl (SqL.of hL3), ?_, k _ _ (by rw [join_flat, ec]) ((g.trans g2).upd' hD)⟩
    rw [sum_flat, ec]
    have q := wr_len (f := f) fs NO ok
    have l0 : ("" : Str).length = 0 := rfl
    rw [l0]
    omega
theorem ok_lcell {fd : FuncData} (F : FnP K "_law_cell_text" s__law_cell_text fd) (T : TD K mg) (D__law_switched : Df P w K mg base "_law_switched" 1 p__law_switched (spChg K)) : FnOk P w K mg base CX0 2 (He.fAd K ("_law_cell_text", none)) fd p__law_cell_text (spWCell K) := by
  refine okP F sc__law_cell_text (fun vs H Q E h => by obtain ⟨a, f, v, xs, rfl, _⟩ := h; rfl) (fun A outer s H vs Q E hr h => ?_)
  obtain ⟨a, f, v, fs, rfl, hS, hd, ok, hl, k⟩ := h
  obtain ⟨b, xs, rfl, sq, dA⟩ := dd_tup hd
  have okp : ∀ p ∈ cn fs, OkP p := fun p hp => ⟨cn_ne fs p hp, ok.mk hp⟩
  have xl : xs.length = (cn fs).length := by rw [ddA_len dA, List.length_map]
  have sl : ∀ {n : Nat}, n ≤ 30000 → n ≤ sizeLine := fun h => by rw [sizeLine_eq]; omega
  have wl := wr_len (f := f) fs NO ok
  have ew : wr f NO fs = wrP f NO (cn fs) ++ chg f (lastM NO (cn fs)) NO := by
    have q := wr_fl f (cn fs) NO (cn_ne fs)
    rw [fl_cn] at q
    exact q
  have wpl : ∀ i, (wrP f NO ((cn fs).take i)).length ≤ 19 * fs.length + 17 := by
    intro i
    have q := wr_fl f ((cn fs).take i) NO fun p hp => cn_ne fs p (List.mem_of_mem_take hp)
    have q2 := wr_len (f := f) (fl ((cn fs).take i)) NO (fl_ok fun p hp => by
      have pm := List.mem_of_mem_take hp
      exact ⟨fun c hc => ⟨(ok _ (cn_in pm hc)).1, (ok _ (cn_in pm hc)).2.1⟩, ok.mk pm⟩)
    have q3 := fl_take (cn fs) i
    rw [fl_cn] at q3
    have q4 := congrArg List.length q
    rw [List.length_append] at q4
    omega
  refine ⟨_, (pss_cons (ps_asg (pe_tup (pa_cons pe_str (pa_cons (pe_tup (pa_cons pe_str (pa_cons pe_bl (pa_cons pe_bl pa_nil)))) pa_nil))) (kg_tup 2 (K := K) rfl rfl (pgs_cons (pg_name (i := 2) sc__law_cell_text.nd rfl (by first | exact Or.inl rfl | exact Or.inr rfl)) (pgs_cons (pg_name (i := 3) sc__law_cell_text.nd rfl (by first | exact Or.inl rfl | exact Or.inr rfl)) pgs_nil))))
      (pss_cons (ps_for PassesOwn.never rfl (k_tup (K := K) rfl (pv 1)) (kg_tup 2 (K := K) rfl rfl (pgs_cons (pg_name (i := 4) sc__law_cell_text.nd rfl (by first | exact Or.inl rfl | exact Or.inr rfl)) (pgs_cons (pg_name (i := 5) sc__law_cell_text.nd rfl (by first | exact Or.inl rfl | exact Or.inr rfl)) pgs_nil)))
      (pss_cons (ps_set (i := 2) sc__law_cell_text.nd rfl (by first | exact Or.inl rfl | exact Or.inr rfl) (pe_op (u_add (K := K) rfl) (pv 2) (pe_fn D__law_switched hr (by decide) rfl (pa_cons (pv 0) (pa_cons (pv 3) (pa_cons (pv 5) pa_nil))))))
      (pss_cons (ps_for PassesOwn.never rfl (pi_str (pv 4)) (pg_name (i := 6) sc__law_cell_text.nd rfl (by first | exact Or.inl rfl | exact Or.inr rfl))
      (pss_one (ps_set (i := 2) sc__law_cell_text.nd rfl (by first | exact Or.inl rfl | exact Or.inr rfl) (pe_op (u_add (K := K) rfl) (pe_op (u_add (K := K) rfl) (pv 2) (pe_ifExp (pt_cmpR (u_in (K := K) rfl) (pv 6) (pe_slice (u_sl (K := K) rfl) (pv 0) (po_some pe_int) po_none) (by first | exact nomark _ | rfl)) (pe_ix (u_ix (K := K) rfl) (pv 0) pe_int (fun _ _ => rfl)) pe_str)) (pv 6)))))
      (pss_one (ps_set (i := 3) sc__law_cell_text.nd rfl (by first | exact Or.inl rfl | exact Or.inr rfl) (pv 5))))))
      (pss_one (ps_ret (pe_op (u_add (K := K) rfl) (pv 2) (pe_fn D__law_switched hr (by decide) rfl (pa_cons (pv 0) (pa_cons (pv 3) (pa_cons (pe_tup (pa_cons pe_str (pa_cons pe_bl (pa_cons pe_bl pa_nil)))) pa_nil))))))))), ?_⟩
  refine ⟨sl (by show 3 ≤ 30000; decide), fun pm hpm => ?_⟩
  refine newH hpm fun H0 g0 s0 => ?_
  refine ⟨sl (by show 2 ≤ 30000; decide), fun pq hpq => ?_⟩
  refine newH hpq fun H1 g01 s01 => ?_
  have s1 := g01.tup s0
  have g1 := g0.trans g01
  refine ⟨pq, _, rfl, SqT.of s01, rfl, _, _, rfl, _, _, rfl, rfl, ?_⟩
  refine ⟨_, rfl, b, rfl, ⟨_, g1.seqT sq⟩, ?_⟩
  refine for_tup (K := K) (a := b) (xs := xs) (fun i σ H' => ∃ (o4 o5 o6 : Option V) (vb : V) (m : Mk3) (t : Str), σ = [some (.ref a), some (.ref b), some (.str t), some vb, o4, o5, o6] ∧ Gr H H' ∧ Dd K H' vb (mkD m) ∧ m.1 ∈ LK4 ∧ m = lastM NO ((cn fs).take i) ∧ cps t = wrP f NO ((cn fs).take i))
    ⟨none, none, none, .ref pm, NO, "", rfl, g1, .tup (SqT.of s1) (.cons (.str _) (.cons (.bl _) (.cons (.bl _) .nil))), by simp [NO, LK4], rfl, (by show cps "" = []; decide +kernel)⟩ ?_ ?_ ?_
  · rintro i σ H' _ ⟨o4, o5, o6, vb, m, t, rfl, g, _⟩
    exact g.seqT sq
  · rintro i x σ H' hx ⟨o4, o5, o6, vb, m, t, rfl, g, db, km, em, hc⟩
    obtain ⟨p, hp, dp⟩ := ddA_map (g.ddA _ _ dA) hx
    have pm := List.mem_of_getElem? hp
    have il := (List.getElem?_eq_some_iff.mp hp).1
    obtain ⟨b1, w1, rfl, q1, dm⟩ := dd_pc dp
    have pl := pc_len pm
    rw [fl_cn] at pl
    have tl : t.length ≤ 19 * 491 + 17 := by rw [← cps_len, hc]; have := wpl i; omega
    have cg := chg_len (f := f) (b := m) (okp p pm).2
    refine ⟨b1, _, rfl, q1, rfl, _, _, rfl, _, _, rfl, rfl, ?_⟩
    refine ⟨_, rfl, _, rfl, _, rfl, _, rfl, a, f, vb, w1, m, p.2, rfl, g.seqT hS, db, dm, km, (okp p pm).2, fun t1 H2 c1 g2 => ?_⟩
    have t1l : t1.length ≤ 17 := by rw [← cps_len, c1]; exact cg
    refine a_ss (sl (by omega)) ?_
    have SH := (g.trans g2).seqT hS
    refine ⟨_, rfl, p.1, rfl, ?_⟩
    refine for_S (x := p.1) (fun j σ H3 => ∃ (o6 : Option V) (t2 : Str), σ = [some (.ref a), some (.ref b), some (.str t2), some vb, some (.str p.1), some w1, o6] ∧ Gr H2 H3 ∧ cps t2 = cps t ++ cps t1 ++ ((cps p.1).take j).flatMap (esc f)) ⟨_, t ++ t1, rfl, Gr.refl _, by rw [cps_app]; show _ = _ ++ []; rw [List.append_nil]⟩ ?_ ?_
    · rintro j c σ H3 hcj ⟨o6, t2, rfl, g3, c3⟩
      have jl := (List.getElem?_eq_some_iff.mp hcj).1
      have jl2 : j < p.1.length := by rw [← cps_len]; exact jl
      have fll : (((cps p.1).take j).flatMap (esc f)).length ≤ 2 * 491 := by
        have q : ∀ l : List Nat, (l.flatMap (esc f)).length ≤ 2 * l.length := by
          intro l
          induction l with
          | nil => exact Nat.zero_le _
          | cons d l ih =>
            have := esc_len f d
            rw [List.flatMap_cons, List.length_append, List.length_cons]
            omega
        have := q ((cps p.1).take j)
        rw [List.length_take] at this
        omega
      have t2l : t2.length ≤ 19 * 491 + 17 + 17 + 2 * 491 := by
        rw [← cps_len, c3, List.length_append, List.length_append, cps_len, cps_len]
        omega
      have o1 := sg_len f.es
      have e0 : cps "" = [] := by decide +kernel
      refine ⟨_, rfl, _, rfl, _, rfl, _, rfl, sl_t1 (g3.seqT SH) fun p9 H4 g4 s4 => ?_⟩
      have s4 : SqT K H4 p9 (strV (f.os.map sg)) := s4
      refine in_seq (.inr s4) rfl (strV_flat _) ⟨_, rfl, ?_⟩
      rw [in_strs]
      have cl1 : (chS c).length = 1 := rfl
      have fin : ∀ u : Str, u.length ≤ 1 → cps u ++ [c] = esc f c → rAdd K (.str t2) (.str u) H4 fun y H5 => tVar 6 [some (.ref a), some (.ref b), some (.str t2), some vb, some (.str p.1), some w1, some (.str (chS c))] H5 fun z H6 => rAdd K y z H6 fun r H7 => ∃ (o6 : Option V) (t3 : Str), [some (V.ref a), some (V.ref b), some r, some vb, some (V.str p.1), some w1, some (V.str (chS c))] = [some (V.ref a), some (V.ref b), some (V.str t3), some vb, some (V.str p.1), some w1, o6] ∧ Gr H2 H7 ∧ cps t3 = cps t ++ cps t1 ++ ((cps p.1).take (j + 1)).flatMap (esc f) := by
        intro u lu eu
        refine a_ss (sl (by omega)) ⟨_, rfl, a_ss (sl (by rw [strLen_append]; omega)) ⟨_, t2 ++ u ++ chS c, rfl, g3.trans g4, ?_⟩⟩
        rw [cps_app, cps_app, c3, take_snoc hcj, List.flatMap_append]
        show _ ++ cps u ++ [c] = _ ++ (_ ++ (esc f c ++ []))
        rw [List.append_nil, ← eu]
        simp only [List.append_assoc]
      by_cases hs : c ∈ f.sgs
      · rw [decide_eq_true hs]
        refine iteT ⟨_, rfl, x_t ((g3.trans g4).seqT SH) rfl (fin _ o1 ?_)⟩
        unfold esc
        rw [if_pos hs, cps_sg]
      · rw [decide_eq_false hs]
        refine iteF (fin "" (by decide +kernel) ?_)
        unfold esc
        rw [if_neg hs, e0]
        rfl
    · rintro σ H3 ⟨o6, t2, rfl, g3, c3⟩
      rw [List.take_length] at c3
      refine ⟨_, rfl, _, _, _, w1, p.2, t2, rfl, (g.trans g2).trans g3, g3.dd _ _ (g2.dd _ _ dm), (okp p pm).2, ?_, ?_⟩
      · rw [take_snoc hp, lastM_snoc]
      · rw [c3, hc, c1, take_snoc hp, wrP_snoc, ← em]
        simp only [List.append_assoc]
  · rintro σ H' ⟨o4, o5, o6, vb, m, t, rfl, g, db, km, em, hc⟩
    rw [xl, List.take_length] at em hc
    have tl : t.length ≤ 19 * 491 + 17 := by
      rw [← cps_len, hc]
      rw [ew, List.length_append] at wl
      omega
    refine ⟨_, rfl, _, rfl, _, rfl, sl (by show 3 ≤ 30000; decide), fun pe hpe => ?_⟩
    refine newH hpe fun H2 g2 s2 => ?_
    refine ⟨a, f, vb, .ref pe, m, NO, rfl, (g.trans g2).seqT hS, g2.dd _ _ db, .tup (SqT.of s2) (.cons (.str _) (.cons (.bl _) (.cons (.bl _) .nil))), km, by simp [NO, LK4], fun t1 H3 c1 g3 => ?_⟩
    have cg := chg_len (f := f) (b := m) (m := NO) (by simp [NO, LK4])
    have t1l : t1.length ≤ 17 := by rw [← cps_len, c1]; exact cg
    exact a_ss (sl (by omega)) (k _ H3 (by rw [cps_app, hc, c1, ew, ← em]) ((g.trans g2).trans g3))
end
end Vf
end
section
set_option Elab.async false
set_option linter.all false
set_option maxRecDepth 100000
set_option maxHeartbeats 4000000
namespace Vf
open PySem PySem.Spec PyProof.Rows L2 GxR GenW RZ
abbrev s_written_line : Stmt := top 35
abbrev n_written_line : List Str := ["form", "line", "depth", "cells", "cell"]
abbrev p_written_line : List Str := ["form", "line"]
theorem sc_written_line : FnScope n_written_line p_written_line (defScope s_written_line) := ⟨rfl, rfl, rfl, by decide +kernel, rfl, by decide +kernel, by decide +kernel⟩

abbrev s_write : Stmt := top 34
abbrev n_write : List Str := ["form", "content", "kept", "line"]
abbrev p_write : List Str := ["form", "content"]
theorem sc_write : FnScope n_write p_write (defScope s_write) := ⟨rfl, rfl, rfl, by decide +kernel, rfl, by decide +kernel, by decide +kernel⟩

abbrev s__law_written : Stmt := top 75
abbrev n__law_written : List Str := ["form", "content", "lines", "depth", "cells", "cell"]
abbrev p__law_written : List Str := ["form", "content"]
theorem sc__law_written : FnScope n__law_written p__law_written (defScope s__law_written) := ⟨rfl, rfl, rfl, by decide +kernel, rfl, by decide +kernel, by decide +kernel⟩

def spWLine (K : PySem.W.Frag) : Sp := fun vs H Q _ => ∃ (a : Addr) (f : Fo) (v : V) (l : Fln), vs = [.ref a, v] ∧ SqT K H a (strV f.strs) ∧ Dd K H v (liD l) ∧ FitL f l ∧ ∀ (t : Str) H', cps t = lnT f l → Gr H H' → Q (.str t) H'
def spWrite (K : PySem.W.Frag) : Sp := fun vs H Q _ => ∃ (a : Addr) (f : Fo) (v : V) (m : Fm), vs = [.ref a, v] ∧ SqT K H a (strV f.strs) ∧ Dd K H v (coD m) ∧ OkF m ∧ m.length ≤ 4 ∧ ∀ (t : Str) H', cps t = txT f (keepM (carF f) m) → Gr H H' → Q (.str t) H'
theorem joinL_len {sep : List Nat} {b : Nat} (hs : sep.length ≤ 1) : ∀ {ps : List (List Nat)}, (∀ p ∈ ps, p.length ≤ b) → (joinL sep ps).length ≤ ps.length * (b + 1)
  | [], _ => Nat.zero_le _
  | [p], h => by
    have := h p (by simp)
    show p.length ≤ 1 * (b + 1)
    omega
  | p :: q :: r, h => by
    have h1 := h p (by simp)
    have ih := joinL_len hs (ps := q :: r) fun x hx => h x (List.mem_cons_of_mem _ hx)
    show (p ++ (sep ++ joinL sep (q :: r))).length ≤ ((q :: r).length + 1) * (b + 1)
    rw [List.length_append, List.length_append, Nat.add_mul, Nat.one_mul]
    omega
theorem FitL.okc {f : Fo} {l : Fln} (h : FitL f l) : ∀ xs ∈ l.2, OkC xs ∧ xs.length ≤ 491 := fun xs hx => ⟨h.ok.c xs hx, Nat.le_trans (gl_ge hx) h.ok.g⟩
theorem wr_len2 {f : Fo} {xs : Fc} (h : OkC xs ∧ xs.length ≤ 491) : (wr f NO xs).length ≤ 9346 := by
  have := wr_len (f := f) xs NO h.1
  omega
theorem lnR_len {f : Fo} {l : Fln} (h : FitL f l) : (lnR f l).length ≤ 112164 := by
  have q := joinL_len (sep := ol f.ce) (b := 9346) (ol_len _) (ps := l.2.map (wr f NO)) fun p hp => by
    obtain ⟨xs, hx, rfl⟩ := List.mem_map.mp hp
    exact wr_len2 (h.okc xs hx)
  rw [List.length_map] at q
  have c12 := h.ok.c12
  unfold lnR
  have : l.2.length * (9346 + 1) ≤ 12 * (9346 + 1) := Nat.mul_le_mul_right _ c12
  omega
theorem rep_len (o : Option Nat) (n : Nat) : ((List.replicate n (ol o)).flatten).length ≤ n := by
  induction n with
  | zero => exact Nat.le_refl _
  | succ n ih =>
    have := ol_len o
    rw [List.replicate_succ, List.flatten_cons, List.length_append]
    omega
theorem lnT_len {f : Fo} {l : Fln} (h : FitL f l) : (lnT f l).length ≤ 112170 := by
  have h1 := rep_len f.le l.1
  have h2 := lnR_len h
  have h3 := h.ok.d
  unfold lnT
  rw [List.length_append]
  omega
theorem keepM_len (fs : List Str) (m : Fm) : (keepM fs m).length = m.length := List.length_map _
theorem sg_zero {o : Option Nat} (h : (sg o).length = 0) : o = none := by
  cases o with
  | none => rfl
  | some c => exact absurd h (by show ¬ 1 = 0; decide)
section
variable {P : Program} {w : World} {K : PySem.W.Frag} {mg : Str → Option Value} {base : Heap}
theorem ok_wline {fd : FuncData} (F : FnP K "written_line" s_written_line fd) (T : TD K mg) (D_written_cell : Df P w K mg base "written_cell" 3 p_written_cell (spWCell K)) : FnOk P w K mg base CX0 4 (He.fAd K ("written_line", none)) fd p_written_line (spWLine K) := by
  refine okP F sc_written_line (fun vs H Q E h => by obtain ⟨a, f, v, l, rfl, _⟩ := h; rfl) (fun A outer s H vs Q E hr h => ?_)
  obtain ⟨a, f, v, l, rfl, hS, hd, fl, k⟩ := h
  obtain ⟨b, ac, xs, rfl, q1, q2, dA⟩ := dd_li hd
  have xl : xs.length = l.2.length := by rw [ddA_len dA, List.length_map]
  have c12 := fl.ok.c12
  have d6 := fl.ok.d
  refine ⟨_, (pss_cons (ps_asg (pv 1) (kg_tup 2 (K := K) rfl rfl (pgs_cons (pg_name (i := 2) sc_written_line.nd rfl (by first | exact Or.inl rfl | exact Or.inr rfl)) (pgs_cons (pg_name (i := 3) sc_written_line.nd rfl (by first | exact Or.inl rfl | exact Or.inr rfl)) pgs_nil))))
      (pss_one (ps_ret (pe_op (u_add (K := K) rfl) (pe_op (u_mulY (K := K) rfl) (pe_ix (u_ix (K := K) rfl) (pv 0) (pe_gl T.c_LEVEL rfl) (fun _ _ => rfl)) (pv 2)) (k_join (K := K) rfl (pe_ix (u_ix (K := K) rfl) (pv 0) (pe_gl T.c_CELL rfl) (fun _ _ => rfl)) (pe_lc (own := [("cell", 4)]) (g := gName 4) (tt := tYes) rfl sc_written_line.nd (k_tup (K := K) rfl (pv 3)) (blkOk_by (own := [("cell", 4)]) (N := n_written_line) (sc := defScope s_written_line) (by decide +kernel)) (fun _ _ _ _ _ => (pg_name (i := 4) sc_written_line.nd rfl (by first | exact Or.inl rfl | exact Or.inr rfl))) (fun _ _ _ _ _ => pts_nil) (fun _ _ _ _ _ => (pe_fn D_written_cell hr (by decide) rfl (pa_cons (pv 0) (pa_cons (pv 4) pa_nil)))))))))), ?_⟩
  refine ⟨_, rfl, b, _, rfl, q1, rfl, _, _, rfl, _, _, rfl, rfl, ?_⟩
  refine ⟨_, rfl, x_t hS rfl ⟨_, rfl, my_any (z := sg f.le) (k := l.1) (by omega) (fun z => fl.le (sg_zero z)) (by have := sg_len f.le; omega) fun r hr => ?_⟩⟩
  have rl : r.length ≤ 6 := by
    have q : (cps r).length ≤ l.1 := by
      have hr2 : cps r = (List.replicate l.1 (cps (sg f.le))).flatten := hr
      rw [hr2, cps_sg]
      exact rep_len _ _
    rw [cps_len] at q
    omega
  refine ⟨_, rfl, x_t hS rfl ⟨⟨_, rfl⟩, _, rfl, ac, rfl, ⟨_, q2⟩, fun D hD => ?_⟩⟩
  refine lc_tup (K := K) (a := ac) (xs := xs) (fun i H' => ∃ ys : List Str, ys.map cps = (l.2.take i).map (wr f NO) ∧ Gr H H' ∧ H' D = some (.lst (strV ys))) ⟨[], rfl, Gr.new hD, upd_same⟩ ?_ ?_ ?_
  · rintro i H' _ ⟨ys, _, g, _⟩
    exact g.seqT q2
  · rintro i x H' hx ⟨ys, hy, g, hL⟩
    obtain ⟨c, hc, dc⟩ := ddA_map (g.ddA _ _ dA) hx
    have cm := List.mem_of_getElem? hc
    have il := (List.getElem?_eq_some_iff.mp hc).1
    have okc := fl.okc c cm
    have yl : ys.length = i := by
      have q := congrArg List.length hy
      rw [List.length_map, List.length_map, List.length_take] at q
      omega
    refine ⟨rfl, ?_⟩
    refine ⟨_, rfl, _, rfl, a, f, x, c, rfl, g.seqT hS, dc, okc.1, okc.2, fun t H2 ct g2 => ?_⟩
    refine ⟨_, g2.lst hL, by unfold strV; rw [List.length_map, yl, sizeLine_eq]; omega, ys ++ [t], ?_, (g.trans g2).upd' hD, ?_⟩
    · rw [List.map_append, hy, take_snoc hc, List.map_append]
      show _ ++ [cps t] = _ ++ [wr f NO c]
      rw [ct]
    · rw [upd_same]
      unfold strV
      rw [List.map_append]; rfl
  · rintro H' ⟨ys, hy, g, hL⟩
    rw [xl, List.take_length] at hy
    have yl : ys.length = l.2.length := by
      have q := congrArg List.length hy
      rw [List.length_map, List.length_map] at q
      exact q
    have yb : ∀ y ∈ ys, y.length ≤ 9346 := fun y hm => by
      have q : cps y ∈ ys.map cps := List.mem_map.mpr ⟨y, hm, rfl⟩
      rw [hy] at q
      obtain ⟨c, hc, e⟩ := List.mem_map.mp q
      rw [← cps_len, ← e]
      exact wr_len2 (fl.okc c hc)
    have sb := sum1 yb
    have o1 := sg_len f.ce
    have ml : ys.length * (sg f.ce).length ≤ 12 * 1 := Nat.mul_le_mul (by omega) o1
    have ml2 : ys.length * 9346 ≤ 12 * 9346 := Nat.mul_le_mul_right _ (by omega)
    refine ⟨sg f.ce, D, ys, rfl, rfl, .inl (SqL.of hL), by omega, ?_⟩
    have ej : cps (Txt.join (sg f.ce) ys) = lnR f l := by
      rw [cps_join2, hy, cps_sg]
      rfl
    have el := lnR_len fl
    rw [← ej, cps_len] at el
    refine a_ss (by rw [sizeLine_eq]; omega) (k _ H' ?_ g)
    have hr2 : cps r = (List.replicate l.1 (cps (sg f.le))).flatten := hr
    rw [cps_app, ej, hr2, cps_sg]
    rfl
theorem ok_write {fd : FuncData} (F : FnP K "write" s_write fd) (T : TD K mg) (D_keep : Df P w K mg base "keep" 5 p_keep (spKeep K)) (D_carried : Df P w K mg base "carried" 1 p_carried (spCarried K)) (D_written_line : Df P w K mg base "written_line" 4 p_written_line (spWLine K)) : FnOk P w K mg base CX0 6 (He.fAd K ("write", none)) fd p_write (spWrite K) := by
  refine okP F sc_write (fun vs H Q E h => by obtain ⟨a, f, v, m, rfl, _⟩ := h; rfl) (fun A outer s H vs Q E hr h => ?_)
  obtain ⟨a, f, v, m, rfl, hS, hd, ok, l4, k⟩ := h
  have fk := fit_keep (f := f) ok
  have kl := keepM_len (carF f) m
  refine ⟨_, (pss_cons (ps_set (i := 2) sc_write.nd rfl (by first | exact Or.inl rfl | exact Or.inr rfl) (pe_fn D_keep hr (by decide) rfl (pa_cons (pv 1) (pa_cons (pe_fn D_carried hr (by decide) rfl (pa_cons (pv 0) pa_nil)) pa_nil))))
      (pss_one (ps_ret (k_join (K := K) rfl pe_str (pe_lc (own := [("line", 3)]) (g := gName 3) (tt := tYes) rfl sc_write.nd (k_tup (K := K) rfl (pv 2)) (blkOk_by (own := [("line", 3)]) (N := n_write) (sc := defScope s_write) (by decide +kernel)) (fun _ _ _ _ _ => (pg_name (i := 3) sc_write.nd rfl (by first | exact Or.inl rfl | exact Or.inr rfl))) (fun _ _ _ _ _ => pts_nil) (fun _ _ _ _ _ => (pe_fn D_written_line hr (by decide) rfl (pa_cons (pv 0) (pa_cons (pv 3) pa_nil))))))))), ?_⟩
  refine ⟨_, rfl, _, rfl, a, f, rfl, hS, fun pc H1 g1 s1 => ?_⟩
  refine ⟨v, pc, carF f, m, rfl, s1, g1.dd _ _ hd, ok, fun vk H2 g2 d2 => ?_⟩
  have G := g1.trans g2
  obtain ⟨b, xs, rfl, sq, dA⟩ := dd_tup d2
  have xl : xs.length = (keepM (carF f) m).length := by rw [ddA_len dA, List.length_map]
  refine ⟨⟨_, rfl⟩, _, rfl, b, rfl, ⟨_, sq⟩, fun D hD => ?_⟩
  refine lc_tup (K := K) (a := b) (xs := xs) (fun i H' => ∃ ys : List Str, ys.map cps = ((keepM (carF f) m).take i).map (lnT f) ∧ Gr H2 H' ∧ H' D = some (.lst (strV ys))) ⟨[], rfl, Gr.new hD, upd_same⟩ ?_ ?_ ?_
  · rintro i H' _ ⟨ys, _, g, _⟩
    exact g.seqT sq
  · rintro i x H' hx ⟨ys, hy, g, hL⟩
    obtain ⟨c, hc, dc⟩ := ddA_map (g.ddA _ _ dA) hx
    have cm := List.mem_of_getElem? hc
    have il := (List.getElem?_eq_some_iff.mp hc).1
    have yl : ys.length = i := by
      have q := congrArg List.length hy
      rw [List.length_map, List.length_map, List.length_take] at q
      omega
    refine ⟨rfl, ?_⟩
    refine ⟨_, rfl, _, rfl, a, f, x, c, rfl, (G.trans g).seqT hS, dc, fk c cm, fun t H3 ct g3 => ?_⟩
    refine ⟨_, g3.lst hL, by unfold strV; rw [List.length_map, yl, sizeLine_eq]; omega, ys ++ [t], ?_, (g.trans g3).upd' hD, ?_⟩
    · rw [List.map_append, hy, take_snoc hc, List.map_append]
      show _ ++ [cps t] = _ ++ [lnT f c]
      rw [ct]
    · rw [upd_same]
      unfold strV
      rw [List.map_append]; rfl
  · rintro H' ⟨ys, hy, g, hL⟩
    rw [xl, List.take_length] at hy
    have yl : ys.length = m.length := by
      have q := congrArg List.length hy
      rw [List.length_map, List.length_map, kl] at q
      exact q
    have yb : ∀ y ∈ ys, y.length ≤ 112170 := fun y hm => by
      have q : cps y ∈ ys.map cps := List.mem_map.mpr ⟨y, hm, rfl⟩
      rw [hy] at q
      obtain ⟨c, hc, e⟩ := List.mem_map.mp q
      rw [← cps_len, ← e]
      exact lnT_len (fk c hc)
    have sb := sum1 yb
    have ml2 : ys.length * 112170 ≤ 4 * 112170 := Nat.mul_le_mul_right _ (by omega)
    refine ⟨"\n", D, ys, rfl, rfl, .inl (SqL.of hL), ?_, k _ H' ?_ (G.trans g)⟩
    · have l1 : ("\n" : Str).length = 1 := rfl
      rw [l1]
      omega
    · rw [cps_join2, hy]
      rfl
end
end Vf
end
section
set_option Elab.async false
set_option linter.all false
set_option maxRecDepth 100000
set_option maxHeartbeats 4000000
namespace Vf
open PySem PySem.Spec PyProof.Rows L2 GxR GenW RZ
section
variable {P : Program} {w : World} {K : PySem.W.Frag} {mg : Str → Option Value} {base : Heap}
theorem ok_lwritten {fd : FuncData} (F : FnP K "_law_written" s__law_written fd) (T : TD K mg) (D__law_keeping : Df P w K mg base "_law_keeping" 3 p__law_keeping (spKeep K)) (D__law_carried : Df P w K mg base "_law_carried" 1 p__law_carried (spCarried K)) (D__law_cell_text : Df P w K mg base "_law_cell_text" 2 p__law_cell_text (spWCell K)) : FnOk P w K mg base CX0 4 (He.fAd K ("_law_written", none)) fd p__law_written (spWrite K) := by
  refine okP F sc__law_written (fun vs H Q E h => by obtain ⟨a, f, v, m, rfl, _⟩ := h; rfl) (fun A outer s H vs Q E hr h => ?_)
  obtain ⟨a, f, v, m, rfl, hS, hd, ok, l4, k⟩ := h
  have fk := fit_keep (f := f) ok
  have kl := keepM_len (carF f) m
  refine ⟨_, (pss_cons (ps_set (i := 2) sc__law_written.nd rfl (by first | exact Or.inl rfl | exact Or.inr rfl) (pe_lst pa_nil))
      (pss_cons (ps_for PassesOwn.never rfl (k_tup (K := K) rfl (pe_fn D__law_keeping hr (by decide) rfl (pa_cons (pv 1) (pa_cons (pe_fn D__law_carried hr (by decide) rfl (pa_cons (pv 0) pa_nil)) pa_nil)))) (kg_tup 2 (K := K) rfl rfl (pgs_cons (pg_name (i := 3) sc__law_written.nd rfl (by first | exact Or.inl rfl | exact Or.inr rfl)) (pgs_cons (pg_name (i := 4) sc__law_written.nd rfl (by first | exact Or.inl rfl | exact Or.inr rfl)) pgs_nil)))
      (pss_one (ps_expr (k_bm (K := K) rfl PySem.F.plainAttrs_list PySem.F.slot_list_append PySem.F.type_list_append mt_append (pv 2) (pa_cons (pe_op (u_add (K := K) rfl) (pe_op (u_mulY (K := K) rfl) (pe_ix (u_ix (K := K) rfl) (pv 0) pe_int (fun _ _ => rfl)) (pv 3)) (k_join (K := K) rfl (pe_ix (u_ix (K := K) rfl) (pv 0) pe_int (fun _ _ => rfl)) (pe_lc (own := [("cell", 5)]) (g := gName 5) (tt := tYes) rfl sc__law_written.nd (k_tup (K := K) rfl (pv 4)) (blkOk_by (own := [("cell", 5)]) (N := n__law_written) (sc := defScope s__law_written) (by decide +kernel)) (fun _ _ _ _ _ => (pg_name (i := 5) sc__law_written.nd rfl (by first | exact Or.inl rfl | exact Or.inr rfl))) (fun _ _ _ _ _ => pts_nil) (fun _ _ _ _ _ => (pe_fn D__law_cell_text hr (by decide) rfl (pa_cons (pv 0) (pa_cons (pv 5) pa_nil))))))) pa_nil)))))
      (pss_one (ps_ret (k_join (K := K) rfl pe_str (pv 2)))))), ?_⟩
  refine ⟨Nat.zero_le _, fun D hD => ?_⟩
  refine newH hD fun H0 g0 s0 => ?_
  refine ⟨_, rfl, _, rfl, a, f, rfl, g0.seqT hS, fun pc H1 g1 s1 => ?_⟩
  refine ⟨v, pc, carF f, m, rfl, s1, (g0.trans g1).dd _ _ hd, ok, fun vk H2 g2 d2 => ?_⟩
  have G12 := g1.trans g2
  have G := g0.trans G12
  obtain ⟨b, xs, rfl, sq, dA⟩ := dd_tup d2
  have xl : xs.length = (keepM (carF f) m).length := by rw [ddA_len dA, List.length_map]
  refine ⟨b, rfl, ⟨_, sq⟩, ?_⟩
  refine for_tup (K := K) (a := b) (xs := xs) (fun i σ H' => ∃ (o3 o4 : Option V) (ys : List Str), σ = [some (.ref a), some v, some (.ref D), o3, o4, none] ∧ ys.map cps = ((keepM (carF f) m).take i).map (lnT f) ∧ Gr H H' ∧ GrN H2 H' ∧ H' D = some (.lst (strV ys))) ⟨none, none, [], rfl, rfl, G, GrN.refl _, G12.lst s0⟩ ?_ ?_ ?_
  · rintro i σ H' _ ⟨o3, o4, ys, rfl, _, _, g, _⟩
    exact g.seqT sq
  · rintro i x σ H' hx ⟨o3, o4, ys, rfl, hy, gH, g, hL⟩
    obtain ⟨l, hl, dl⟩ := ddA_map (g.ddA _ _ (nl_lis _) dA) hx
    have lm := List.mem_of_getElem? hl
    have il := (List.getElem?_eq_some_iff.mp hl).1
    have flx := fk l lm
    have c12 := flx.ok.c12
    have d6 := flx.ok.d
    have yl : ys.length = i := by
      have q := congrArg List.length hy
      rw [List.length_map, List.length_map, List.length_take] at q
      omega
    obtain ⟨b1, ac, zs, rfl, q1, q2, dZ⟩ := dd_li dl
    have zl : zs.length = l.2.length := by rw [ddA_len dZ, List.length_map]
    have SH := gH.seqT hS
    refine ⟨b1, _, rfl, q1, rfl, _, _, rfl, _, _, rfl, rfl, ?_⟩
    refine ⟨_, rfl, .inl ⟨rfl, _, SqL.of hL⟩, ?_⟩
    refine ⟨_, rfl, x_t SH rfl ⟨_, rfl, my_any (z := sg f.le) (k := l.1) (by omega) (fun z => flx.le (sg_zero z)) (by have := sg_len f.le; omega) fun r hr => ?_⟩⟩
    have rl : r.length ≤ 6 := by
      have q : (cps r).length ≤ l.1 := by
        have hr2 : cps r = (List.replicate l.1 (cps (sg f.le))).flatten := hr
        rw [hr2, cps_sg]
        exact rep_len _ _
      rw [cps_len] at q
      omega
    refine ⟨_, rfl, x_t SH rfl ⟨⟨_, rfl⟩, _, rfl, ac, rfl, ⟨_, q2⟩, fun D2 hD2 => ?_⟩⟩
    refine lc_tup (K := K) (a := ac) (xs := zs) (fun j H3 => ∃ us : List Str, us.map cps = (l.2.take j).map (wr f NO) ∧ Gr H' H3 ∧ H3 D2 = some (.lst (strV us))) ⟨[], rfl, Gr.new hD2, upd_same⟩ ?_ ?_ ?_
    · rintro j H3 _ ⟨us, _, g3, _⟩
      exact g3.seqT q2
    · rintro j x H3 hx ⟨us, hu, g3, hL3⟩
      obtain ⟨c, hc, dc⟩ := ddA_map (g3.ddA _ _ dZ) hx
      have cm := List.mem_of_getElem? hc
      have jl := (List.getElem?_eq_some_iff.mp hc).1
      have okc := flx.okc c cm
      have ul : us.length = j := by
        have q := congrArg List.length hu
        rw [List.length_map, List.length_map, List.length_take] at q
        omega
      refine ⟨rfl, ?_⟩
      refine ⟨_, rfl, _, rfl, a, f, x, c, rfl, g3.seqT SH, dc, okc.1, okc.2, fun t H4 ct g4 => ?_⟩
      refine ⟨_, g4.lst hL3, by unfold strV; rw [List.length_map, ul, sizeLine_eq]; omega, us ++ [t], ?_, (g3.trans g4).upd' hD2, ?_⟩
      · rw [List.map_append, hu, take_snoc hc, List.map_append]
        show _ ++ [cps t] = _ ++ [wr f NO c]
        rw [ct]
      · rw [upd_same]
        unfold strV
        rw [List.map_append]; rfl
    · rintro H3 ⟨us, hu, g3, hL3⟩
      rw [zl, List.take_length] at hu
      have ul : us.length = l.2.length := by
        have q := congrArg List.length hu
        rw [List.length_map, List.length_map] at q
        exact q
      have ub : ∀ y ∈ us, y.length ≤ 9346 := fun y hm => by
        have q : cps y ∈ us.map cps := List.mem_map.mpr ⟨y, hm, rfl⟩
        rw [hu] at q
        obtain ⟨c, hc, e⟩ := List.mem_map.mp q
        rw [← cps_len, ← e]
        exact wr_len2 (flx.okc c hc)
      have sb := sum1 ub
      have o1 := sg_len f.ce
      have ml : us.length * (sg f.ce).length ≤ 12 * 1 := Nat.mul_le_mul (by omega) o1
      have ml2 : us.length * 9346 ≤ 12 * 9346 := Nat.mul_le_mul_right _ (by omega)
      refine ⟨sg f.ce, D2, us, rfl, rfl, .inl (SqL.of hL3), by omega, ?_⟩
      have ej : cps (Txt.join (sg f.ce) us) = lnR f l := by
        rw [cps_join2, hu, cps_sg]
        rfl
      have el := lnR_len flx
      rw [← ej, cps_len] at el
      have hL3' := g3.lst hL
      refine a_ss (by rw [sizeLine_eq]; omega) ⟨D, _, _, rfl, rfl, hL3', by unfold strV; rw [List.length_map, yl, sizeLine_eq]; omega, ?_⟩
      refine ⟨_, _, ys ++ [r ++ Txt.join (sg f.ce) us], rfl, ?_, (gH.trans g3).upd' hD, (g.trans g3.n).trans (GrN.upd hL3'), ?_⟩
      · rw [List.map_append, hy, take_snoc hl, List.map_append]
        have hr2 : cps r = (List.replicate l.1 (cps (sg f.le))).flatten := hr
        show _ ++ [cps (r ++ Txt.join (sg f.ce) us)] = _ ++ [lnT f l]
        rw [cps_app, ej, hr2, cps_sg]
        rfl
      · rw [upd_same]
        unfold strV
        rw [List.map_append]; rfl
  · rintro σ H' ⟨o3, o4, ys, rfl, hy, gH, g, hL⟩
    rw [xl, List.take_length] at hy
    have yl : ys.length = m.length := by
      have q := congrArg List.length hy
      rw [List.length_map, List.length_map, kl] at q
      exact q
    have yb : ∀ y ∈ ys, y.length ≤ 112170 := fun y hm => by
      have q : cps y ∈ ys.map cps := List.mem_map.mpr ⟨y, hm, rfl⟩
      rw [hy] at q
      obtain ⟨c, hc, e⟩ := List.mem_map.mp q
      rw [← cps_len, ← e]
      exact lnT_len (fk c hc)
    have sb := sum1 yb
    have ml2 : ys.length * 112170 ≤ 4 * 112170 := Nat.mul_le_mul_right _ (by omega)
    refine ⟨⟨_, rfl⟩, _, rfl, "\n", D, ys, rfl, rfl, .inl (SqL.of hL), ?_, k _ H' ?_ gH⟩
    · have l1 : ("\n" : Str).length = 1 := rfl
      rw [l1]
      omega
    · rw [cps_join2, hy]
      rfl
end
end Vf
end
section
set_option Elab.async false
set_option linter.all false
set_option maxRecDepth 100000
set_option maxHeartbeats 4000000
namespace Vf
open PySem PySem.Spec PyProof.Rows L2 GxR GenW RZ
abbrev s_CellsReader____init__ : Stmt := inClass (top 42) 0
abbrev n_CellsReader____init__ : List Str := ["self", "form", "number", "column"]
abbrev p_CellsReader____init__ : List Str := ["self", "form", "number", "column"]
theorem sc_CellsReader____init__ : FnScope n_CellsReader____init__ p_CellsReader____init__ (defScope s_CellsReader____init__) := ⟨rfl, rfl, rfl, by decide +kernel, rfl, by decide +kernel, by decide +kernel⟩

abbrev s_CellsReader__take : Stmt := inClass (top 42) 2
abbrev n_CellsReader__take : List Str := ["self", "character"]
abbrev p_CellsReader__take : List Str := ["self", "character"]
theorem sc_CellsReader__take : FnScope n_CellsReader__take p_CellsReader__take (defScope s_CellsReader__take) := ⟨rfl, rfl, rfl, by decide +kernel, rfl, by decide +kernel, by decide +kernel⟩

abbrev s_CellsReader__take_escaped : Stmt := inClass (top 42) 3
abbrev n_CellsReader__take_escaped : List Str := ["self", "character"]
abbrev p_CellsReader__take_escaped : List Str := ["self", "character"]
theorem sc_CellsReader__take_escaped : FnScope n_CellsReader__take_escaped p_CellsReader__take_escaped (defScope s_CellsReader__take_escaped) := ⟨rfl, rfl, rfl, by decide +kernel, rfl, by decide +kernel, by decide +kernel⟩

abbrev s_CellsReader__take_in_word : Stmt := inClass (top 42) 4
abbrev n_CellsReader__take_in_word : List Str := ["self", "character"]
abbrev p_CellsReader__take_in_word : List Str := ["self", "character"]
theorem sc_CellsReader__take_in_word : FnScope n_CellsReader__take_in_word p_CellsReader__take_in_word (defScope s_CellsReader__take_in_word) := ⟨rfl, rfl, rfl, by decide +kernel, rfl, by decide +kernel, by decide +kernel⟩

abbrev s_CellsReader__take_sign : Stmt := inClass (top 42) 5
abbrev n_CellsReader__take_sign : List Str := ["self", "character"]
abbrev p_CellsReader__take_sign : List Str := ["self", "character"]
theorem sc_CellsReader__take_sign : FnScope n_CellsReader__take_sign p_CellsReader__take_sign (defScope s_CellsReader__take_sign) := ⟨rfl, rfl, rfl, by decide +kernel, rfl, by decide +kernel, by decide +kernel⟩

abbrev s_CellsReader__take_cell_sign : Stmt := inClass (top 42) 6
abbrev n_CellsReader__take_cell_sign : List Str := ["self"]
abbrev p_CellsReader__take_cell_sign : List Str := ["self"]
theorem sc_CellsReader__take_cell_sign : FnScope n_CellsReader__take_cell_sign p_CellsReader__take_cell_sign (defScope s_CellsReader__take_cell_sign) := ⟨rfl, rfl, rfl, by decide +kernel, rfl, by decide +kernel, by decide +kernel⟩

abbrev s_CellsReader__end_cell : Stmt := inClass (top 42) 7
abbrev n_CellsReader__end_cell : List Str := ["self"]
abbrev p_CellsReader__end_cell : List Str := ["self"]
theorem sc_CellsReader__end_cell : FnScope n_CellsReader__end_cell p_CellsReader__end_cell (defScope s_CellsReader__end_cell) := ⟨rfl, rfl, rfl, by decide +kernel, rfl, by decide +kernel, by decide +kernel⟩

abbrev s_CellsReader__need_room : Stmt := inClass (top 42) 8
abbrev n_CellsReader__need_room : List Str := ["self", "most"]
abbrev p_CellsReader__need_room : List Str := ["self"]
theorem sc_CellsReader__need_room : FnScope n_CellsReader__need_room p_CellsReader__need_room (defScope s_CellsReader__need_room) := ⟨rfl, rfl, rfl, by decide +kernel, rfl, by decide +kernel, by decide +kernel⟩

abbrev s_CellsReader__put : Stmt := inClass (top 42) 9
abbrev n_CellsReader__put : List Str := ["self", "character"]
abbrev p_CellsReader__put : List Str := ["self", "character"]
theorem sc_CellsReader__put : FnScope n_CellsReader__put p_CellsReader__put (defScope s_CellsReader__put) := ⟨rfl, rfl, rfl, by decide +kernel, rfl, by decide +kernel, by decide +kernel⟩

abbrev s_CellsReader__finished : Stmt := inClass (top 42) 10
abbrev n_CellsReader__finished : List Str := ["self"]
abbrev p_CellsReader__finished : List Str := ["self"]
theorem sc_CellsReader__finished : FnScope n_CellsReader__finished p_CellsReader__finished (defScope s_CellsReader__finished) := ⟨rfl, rfl, rfl, by decide +kernel, rfl, by decide +kernel, by decide +kernel⟩

abbrev CR (K : PySem.W.Frag) : Addr := He.ga K "CellsReader"
abbrev FmP (K : PySem.W.Frag) (m q : Str) (st : Stmt) (fd : FuncData) : Prop := FunD K m q (defArgs st) (defBody st) (defScope st) [] [] (He.fAd K ("CellsReader", some m)) fd
def wdV : Option Str → V
  | none => .non
  | some w => .str w
/-- the reader's fields -/
structure Fv where
  fm : Addr
  sgs : Str
  n : Int
  col : Int
  cl : Addr
  pl : Addr
  lk : Str
  bo : Bool
  sl : Bool
  wd : Option Str
  ie : Bool
def Fv.l (v : Fv) : List (Str × V) := [("form", .ref v.fm), ("signs", .str v.sgs), ("number", .int v.n), ("column", .int v.col), ("cells", .ref v.cl), ("pieces", .ref v.pl), ("link_word", .str v.lk), ("bold", .bl v.bo), ("slant", .bl v.sl), ("word", wdV v.wd), ("is_escaping", .bl v.ie)]
section
variable (v : Fv)
theorem lu_form : v.l.lookup ("form" : Str) = some (.ref v.fm) := by kernel_rfl
theorem lu_signs : v.l.lookup ("signs" : Str) = some (.str v.sgs) := by kernel_rfl
theorem lu_column : v.l.lookup ("column" : Str) = some (.int v.col) := by kernel_rfl
theorem lu_cells : v.l.lookup ("cells" : Str) = some (.ref v.cl) := by kernel_rfl
theorem lu_pieces : v.l.lookup ("pieces" : Str) = some (.ref v.pl) := by kernel_rfl
theorem lu_link : v.l.lookup ("link_word" : Str) = some (.str v.lk) := by kernel_rfl
theorem lu_bold : v.l.lookup ("bold" : Str) = some (.bl v.bo) := by kernel_rfl
theorem lu_slant : v.l.lookup ("slant" : Str) = some (.bl v.sl) := by kernel_rfl
theorem lu_word : v.l.lookup ("word" : Str) = some (wdV v.wd) := by kernel_rfl
theorem lu_ie : v.l.lookup ("is_escaping" : Str) = some (.bl v.ie) := by kernel_rfl
theorem pu_column (c : Int) : putF "column" (.int c) v.l = { v with col := c }.l := by kernel_rfl
theorem pu_pieces (p : Addr) : putF "pieces" (.ref p) v.l = { v with pl := p }.l := by kernel_rfl
theorem pu_link (w : Str) : putF "link_word" (.str w) v.l = { v with lk := w }.l := by kernel_rfl
theorem pu_bold (b : Bool) : putF "bold" (.bl b) v.l = { v with bo := b }.l := by kernel_rfl
theorem pu_slant (b : Bool) : putF "slant" (.bl b) v.l = { v with sl := b }.l := by kernel_rfl
theorem pu_word (w : Option Str) : putF "word" (wdV w) v.l = { v with wd := w }.l := by kernel_rfl
theorem pu_ie (b : Bool) : putF "is_escaping" (.bl b) v.l = { v with ie := b }.l := by kernel_rfl
theorem lu_meth : v.l.lookup ("take" : Str) = none ∧ v.l.lookup ("take_escaped" : Str) = none ∧ v.l.lookup ("take_in_word" : Str) = none ∧ v.l.lookup ("take_sign" : Str) = none ∧ v.l.lookup ("take_cell_sign" : Str) = none ∧ v.l.lookup ("end_cell" : Str) = none ∧ v.l.lookup ("need_room" : Str) = none ∧ v.l.lookup ("put" : Str) = none ∧ v.l.lookup ("finished" : Str) = none := ⟨by kernel_rfl, by kernel_rfl, by kernel_rfl, by kernel_rfl, by kernel_rfl, by kernel_rfl, by kernel_rfl, by kernel_rfl, by kernel_rfl⟩
theorem mk_l (fm : Addr) (sgs : Str) (n col : Int) (cl pl : Addr) : putF "is_escaping" (.bl false) (putF "word" .non (putF "slant" (.bl false) (putF "bold" (.bl false) (putF "link_word" (.str "") (putF "pieces" (.ref pl) (putF "cells" (.ref cl) (putF "column" (.int col) (putF "number" (.int n) (putF "signs" (.str sgs) (putF "form" (.ref fm) [])))))))))) = (Fv.mk fm sgs n col cl pl "" false false none false).l := by kernel_rfl
end
def pcsP (xs : Fc) : List Pc := xs.map fun x => (chS x.1, x.2)
theorem fl_pcsP : ∀ xs : Fc, fl (pcsP xs) = xs
  | [] => rfl
  | (c, m) :: xs => by
    show fl ([(chS c, m)] ++ pcsP xs) = _
    rw [fl_app, fl_pcsP xs, fl_one]
    rfl
/-- the reader r is in the state s -/
structure Rd (K : PySem.W.Frag) (H : Hp) (r : Addr) (f : Fo) (s : Rs) (v : Fv) : Prop where
  ex : ∃ dx, H r = some (.ins (CR K) dx v.l)
  fm : SqT K H v.fm (strV f.strs)
  sg : cps v.sgs = f.sgs
  mm : s.mm = (v.lk, v.bo, v.sl)
  wd : s.wd = v.wd
  ie : s.ie = v.ie
  kl : v.lk ∈ LK4
  ok : OkC s.pcs
  cs : ∃ ys, H v.cl = some (.lst ys) ∧ DdAll K H ys (s.cells.map ceD)
  ps : ∃ ys, H v.pl = some (.lst ys) ∧ DdAll K H ys ((pcsP s.pcs).map pcD)
  ne : r ≠ v.cl ∧ r ≠ v.pl ∧ v.cl ≠ v.pl
  lc : s.cells.length ≤ 12
  lp : s.pcs.length ≤ 491
/-- what a method may change -/
def spM (K : PySem.W.Frag) (go : Fo → Rs → Option Rs) : Sp := fun vs H Q _ => ∃ (r : Addr) (f : Fo) (s t : Rs) (v : Fv), vs = [.ref r] ∧ Rd K H r f s v ∧ go f s = some t ∧ ∀ H' v', GrM [r, v.cl, v.pl] H H' → v'.cl = v.cl → (v'.pl = v.pl ∨ H v'.pl = none) → Rd K H' r f t v' → Q .non H'
def spMc (K : PySem.W.Frag) (go : Fo → Rs → Nat → Option Rs) : Sp := fun vs H Q _ => ∃ (r : Addr) (f : Fo) (s t : Rs) (v : Fv) (c : Nat), vs = [.ref r, .str (chS c)] ∧ Rd K H r f s v ∧ FoOk f ∧ 32 ≤ c ∧ c ≤ 126 ∧ go f s c = some t ∧ ∀ H' v', GrM [r, v.cl, v.pl] H H' → v'.cl = v.cl → (v'.pl = v.pl ∨ H v'.pl = none) → Rd K H' r f t v' → Q .non H'
section
variable {P : Program} {w : World} {K : PySem.W.Frag} {mg : Str → Option Value} {base : Heap}
theorem ok_room {fd : FuncData} (F : FmP K "need_room" "CellsReader.need_room" s_CellsReader__need_room fd) (T : TD K mg) : FnOk P w K mg base CX0 1 (He.fAd K ("CellsReader", some "need_room")) fd p_CellsReader__need_room (spM K fun _ s => if room s then some s else none) := by
  refine okP F sc_CellsReader__need_room (fun vs H Q E h => by obtain ⟨r, f, s, t, v, rfl, _⟩ := h; rfl) (fun A outer s0 H vs Q E hr h => ?_)
  obtain ⟨r, f, s, t, v, rfl, hd, hg, k⟩ := h
  have hg : (if room s = true then some s else none) = some t := hg
  have hro : room s = true := by
    cases e : room s with
    | true => rfl
    | false => rw [e] at hg; cases hg
  rw [hro] at hg
  cases hg
  have lt : s.pcs.length < cap s := of_decide_eq_true hro
  obtain ⟨dx, h1⟩ := hd.ex
  obtain ⟨cs, c1, c2⟩ := hd.cs
  obtain ⟨ps, p1, p2⟩ := hd.ps
  have nof : ∀ x ∈ (["form", "signs", "number", "column", "cells", "pieces", "link_word", "bold", "slant", "word", "is_escaping"] : List Str), NoAttr K (CR K) x := T.nA
  have cl : cs.length = s.cells.length := by rw [ddA_len c2, List.length_map]
  have pl : ps.length = s.pcs.length := by
    rw [ddA_len p2, List.length_map]
    unfold pcsP
    rw [List.length_map]
  refine ⟨_, (C8.pss_cut (ps_set (i := 1) sc_CellsReader__need_room.nd rfl (by first | exact Or.inl rfl | exact Or.inr rfl) (pe_ifExp (k_truth (K := K) rfl (pe_fld (pv 0) rfl) (by intro _; rfl)) (pe_gl T.c_MOST_CELL_CHARACTERS rfl) (pe_gl T.c_MOST_ONLY_CELL_CHARACTERS rfl)))
      (pss_one (ps_if (pt_cmpR (u_eq (K := K) rfl hr.units) (pe_callB (k_len (K := K) rfl) rfl T.b_len (by decide +kernel) (pa_cons (pe_fld (pv 0) rfl) pa_nil)) (pv 1) (nomark _))
      (pss_one ps_never)
      pss_nil))), ?_⟩
  refine ⟨fun σ H' => σ = [some (.ref r), some (.int (cap s))] ∧ H' = H, ?_, ?_⟩
  · refine ⟨_, rfl, r, CR K, dx, _, _, rfl, h1, T.cl, nof _ (by simp), lu_cells v, !cs.isEmpty, .inl ⟨cs, SqL.of c1, rfl⟩, ?_⟩
    cases e : s.cells with
    | nil =>
      rw [e] at cl
      have c0 : cs = [] := List.eq_nil_of_length_eq_zero cl
      have e2 : cap s = 491 := by unfold cap; rw [e]; rfl
      rw [c0, e2]
      exact iteF ⟨rfl, rfl⟩
    | cons x l =>
      rw [e] at cl
      have e2 : cap s = 40 := by unfold cap; rw [e]; rfl
      have e3 : (!cs.isEmpty) = true := by
        cases cs with
        | nil => cases cl
        | cons _ _ => rfl
      rw [e3, e2]
      exact iteT ⟨rfl, rfl⟩
  · rintro σ H' ⟨rfl, rfl⟩
    refine ⟨_, rfl, r, CR K, dx, _, _, rfl, h1, T.cl, nof _ (by simp), lu_pieces v, _, ps.length, rfl, .inl ⟨ps, SqL.of p1, rfl⟩, _, rfl, e_flat rfl ⟨_, rfl, ?_⟩⟩
    have e : ¬ V.int ((ps.length : Nat) : Int) = V.int (cap s) := fun z => by
      have := V.int.inj z
      omega
    rw [decide_eq_false e]
    exact iteF (k _ v (GrM.refl _ _) rfl (.inl rfl) hd)
theorem Rd.gr {H H' : Hp} {r : Addr} {f : Fo} {s : Rs} {v : Fv} (h : Rd K H r f s v) (g : Gr H H') : Rd K H' r f s v := by
  obtain ⟨dx, h1⟩ := h.ex
  obtain ⟨cs, c1, c2⟩ := h.cs
  obtain ⟨ps, p1, p2⟩ := h.ps
  exact ⟨⟨dx, g.keep h1 (fun _ z => by cases z)⟩, g.seqT h.fm, h.sg, h.mm, h.wd, h.ie, h.kl, h.ok, ⟨cs, g.lst c1, g.ddA _ _ c2⟩, ⟨ps, g.lst p1, g.ddA _ _ p2⟩, h.ne, h.lc, h.lp⟩
theorem ok_put {fd : FuncData} (F : FmP K "put" "CellsReader.put" s_CellsReader__put fd) (T : TD K mg) : FnOk P w K mg base CX0 1 (He.fAd K ("CellsReader", some "put")) fd p_CellsReader__put (spMc K fun _ s c => if s.pcs.length < 491 then some (putC s c) else none) := by
  refine okP F sc_CellsReader__put (fun vs H Q E h => by obtain ⟨r, f, s, t, v, c, rfl, _⟩ := h; rfl) (fun A outer s0 H vs Q E hr h => ?_)
  obtain ⟨r, f, s, t, v, c, rfl, hd, hf, c32, c126, hg, k⟩ := h
  have hg : (if s.pcs.length < 491 then some (putC s c) else none) = some t := hg
  have lt : s.pcs.length < 491 := by
    by_cases e : s.pcs.length < 491
    · exact e
    · rw [if_neg e] at hg; cases hg
  rw [if_pos lt] at hg
  cases hg
  obtain ⟨dx, h1⟩ := hd.ex
  obtain ⟨cs, k1, k2⟩ := hd.cs
  obtain ⟨ps, p1, p2⟩ := hd.ps
  have nof : ∀ x ∈ (["form", "signs", "number", "column", "cells", "pieces", "link_word", "bold", "slant", "word", "is_escaping"] : List Str), NoAttr K (CR K) x := T.nA
  have pl : ps.length = s.pcs.length := by
    rw [ddA_len p2, List.length_map]
    unfold pcsP
    rw [List.length_map]
  have sl : ∀ {n : Nat}, n ≤ 3000 → n ≤ sizeLine := fun h => by rw [sizeLine_eq]; omega
  refine ⟨_, (pss_one (ps_expr (k_bm (K := K) rfl PySem.F.plainAttrs_list PySem.F.slot_list_append PySem.F.type_list_append mt_append (pe_fld (pv 0) rfl) (pa_cons (pe_tup (pa_cons (pv 1) (pa_cons (pe_tup (pa_cons (pe_fld (pv 0) rfl) (pa_cons (pe_fld (pv 0) rfl) (pa_cons (pe_fld (pv 0) rfl) pa_nil)))) pa_nil))) pa_nil)))), ?_⟩
  refine ⟨_, rfl, r, CR K, dx, _, _, rfl, h1, T.cl, nof _ (by simp), lu_pieces v, .inl ⟨rfl, _, SqL.of p1⟩, ?_⟩
  refine ⟨_, rfl, _, rfl, r, CR K, dx, _, _, rfl, h1, T.cl, nof _ (by simp), lu_link v, _, rfl, r, CR K, dx, _, _, rfl, h1, T.cl, nof _ (by simp), lu_bold v, _, rfl, r, CR K, dx, _, _, rfl, h1, T.cl, nof _ (by simp), lu_slant v, sl (by show 3 ≤ 3000; decide), fun q1 e1 => ?_⟩
  refine newH e1 fun H1 g1 s1 => ?_
  refine ⟨sl (by show 2 ≤ 3000; decide), fun q2 e2 => ?_⟩
  refine newH e2 fun H2 g2 s2 => ?_
  have G := g1.trans g2
  have hd2 := hd.gr G
  refine ⟨v.pl, ps, .ref q2, rfl, rfl, G.lst p1, by rw [pl, sizeLine_eq]; omega, ?_⟩
  have gN := GrN.upd (ys := ps ++ [.ref q2]) (G.lst p1)
  obtain ⟨n1, n2, n3⟩ := hd.ne
  refine k _ v (((GrM.refl _ _).trans G.m).upd (by simp) (Mu.lst p1)) rfl (.inl rfl) ⟨⟨dx, ?_⟩, gN.seqT hd2.fm, hd.sg, hd.mm, hd.wd, hd.ie, hd.kl, ?_, ⟨cs, ?_, ?_⟩, ⟨ps ++ [.ref q2], upd_same, ?_⟩, hd.ne, hd.lc, ?_⟩
  · rw [upd_ne n2]
    exact G.keep h1 (fun _ z => by cases z)
  · intro x hx
    rcases List.mem_append.mp hx with z | z
    · exact hd.ok x z
    · rw [List.mem_singleton.mp z]
      refine ⟨c32, c126, ?_⟩
      show s.mm.1 ∈ LK4
      rw [hd.mm]
      exact hd.kl
  · rw [upd_ne n3]
    exact G.lst k1
  · exact gN.ddA _ _ (nl_ces _) (G.ddA _ _ k2)
  · have e : pcsP (s.pcs ++ [(c, s.mm)]) = pcsP s.pcs ++ [(chS c, s.mm)] := by unfold pcsP; rw [List.map_append]; rfl
    show DdAll K _ _ ((pcsP (s.pcs ++ [(c, s.mm)])).map pcD)
    rw [e, List.map_append]
    refine ddA_app (gN.ddA _ _ (nl_pcs _) (G.ddA _ _ p2)) (.cons (gN.dd _ _ rfl (.tup (SqT.of s2) (.cons (.str _) (.cons (.tup (SqT.of (g2.tup s1)) ?_) .nil)))) .nil)
    rw [hd.mm]
    exact .cons (.str _) (.cons (.bl _) (.cons (.bl _) .nil))
  · show (s.pcs ++ [(c, s.mm)]).length ≤ 491
    rw [List.length_append, List.length_singleton]
    omega
end
end Vf
end
section
set_option Elab.async false
set_option linter.all false
set_option maxRecDepth 100000
set_option maxHeartbeats 4000000
namespace Vf
open PySem PySem.Spec PyProof.Rows L2 GxR GenW RZ
/-! ### lists and instances may change -/
def isMu : HO → Bool
  | .lst _ => true
  | .ins _ _ _ => true
  | _ => false
def GrX (H H' : Hp) : Prop := ∀ b o, isMu o = false → H b = some o → (H' b = some o ∨ ∃ ps more, o = .tbl ps ∧ H' b = some (.tbl (ps ++ more)) ∧ (TriplesOk ps.toList → TriplesOk (ps ++ more).toList))
theorem GrX.refl (H : Hp) : GrX H H := fun _ _ _ h => .inl h
theorem Gr.x {H H' : Hp} (g : Gr H H') : GrX H H' := fun b o _ h => g b o h
theorem GrX.trans {H H1 H2 : Hp} (a : GrX H H1) (b : GrX H1 H2) : GrX H H2 := by
  intro c o hn h
  rcases a c o hn h with h1 | ⟨ps, m1, rfl, h1, t1⟩
  · exact b c o hn h1
  · rcases b c _ rfl h1 with h2 | ⟨qs, m2, e, h2, t2⟩
    · exact .inr ⟨ps, m1, rfl, h2, t1⟩
    · cases e
      exact .inr ⟨ps, m1 ++ m2, rfl, by rw [← Array.append_assoc]; exact h2, fun z => by rw [← Array.append_assoc]; exact t2 (t1 z)⟩
theorem GrX.upd {H : Hp} {D : Addr} {o o' : HO} (h : H D = some o') (hm : isMu o' = true) : GrX H (upd H D o) := fun b u hn e => by
  have hb : b ≠ D := fun z => by
    rw [z, h] at e
    cases e
    rw [hm] at hn
    cases hn
  rw [upd_ne hb]
  exact .inl e
theorem GrX.keep {H H' : Hp} (g : GrX H H') {b : Addr} {o : HO} (h : H b = some o) (n1 : isMu o = false) (n2 : ∀ ps, o ≠ .tbl ps) : H' b = some o := by
  rcases g b o n1 h with h1 | ⟨ps, _, rfl, _⟩
  · exact h1
  · exact absurd rfl (n2 ps)
theorem GrX.seqT {K : PySem.W.Frag} {H H' : Hp} (g : GrX H H') {a : Addr} {xs : List V} (h : SqT K H a xs) : SqT K H' a xs := by
  rcases h with (h | ⟨o, h⟩) | h
  · exact .inl (.inl (g.keep h rfl (fun _ z => by cases z)))
  · exact .inl (.inr ⟨o, g.keep h rfl (fun _ z => by cases z)⟩)
  · exact .inr h
mutual
theorem GrX.dd {K : PySem.W.Frag} {H H' : Hp} (g : GrX H H') : ∀ (d : PyData) (v : V), noLst d = true → Dd K H v d → Dd K H' v d
  | .none, _, _, h => by cases h; exact .non
  | .bool _, _, _, h => by cases h; exact .bl _
  | .int _, _, _, h => by cases h; exact .int _
  | .str _, _, _, h => by cases h; exact .str _
  | .list ds, _, n, h => by cases n
  | .tuple ds, _, n, h => by
    cases h with
    | tup a b => exact .tup (g.seqT a) (GrX.ddA g ds _ n b)
  | .dict _, _, _, h => by
    cases h with
    | dct a => exact .dct (g.keep a rfl (fun _ z => by cases z))
theorem GrX.ddA {K : PySem.W.Frag} {H H' : Hp} (g : GrX H H') : ∀ (ds : List PyData) (vs : List V), noLstA ds = true → DdAll K H vs ds → DdAll K H' vs ds
  | [], _, _, h => by cases h; exact .nil
  | d :: ds, _, n, h => by
    have n' : (noLst d && noLstA ds) = true := n
    rw [Bool.and_eq_true] at n'
    cases h with
    | cons a b => exact .cons (GrX.dd g d _ n'.1 a) (GrX.ddA g ds _ n'.2 b)
end
/-- a field of the reader is written -/
theorem Rd.set {K : PySem.W.Frag} {H : Hp} {r dx : Addr} {f : Fo} {s : Rs} {v : Fv} (h : Rd K H r f s v) (h1 : H r = some (.ins (CR K) dx v.l)) {w : Fv} {t : Rs} (e1 : w.fm = v.fm) (e2 : w.sgs = v.sgs) (e3 : w.cl = v.cl) (e4 : w.pl = v.pl) (e5 : t.cells = s.cells) (e6 : t.pcs = s.pcs) (m : t.mm = (w.lk, w.bo, w.sl)) (d : t.wd = w.wd) (i : t.ie = w.ie) (kl : w.lk ∈ LK4) :
    Rd K (upd H r (.ins (CR K) dx w.l)) r f t w ∧ GrM [r, v.cl, v.pl] H (upd H r (.ins (CR K) dx w.l)) := by
  have g : GrX H (upd H r (.ins (CR K) dx w.l)) := GrX.upd h1 rfl
  obtain ⟨cs, c1, c2⟩ := h.cs
  obtain ⟨ps, p1, p2⟩ := h.ps
  obtain ⟨n1, n2, n3⟩ := h.ne
  refine ⟨⟨⟨dx, upd_same⟩, by rw [e1]; exact g.seqT h.fm, by rw [e2]; exact h.sg, m, d, i, kl, by rw [e6]; exact h.ok, ⟨cs, by rw [e3, upd_ne (Ne.symm n1)]; exact c1, by rw [e5]; exact g.ddA _ _ (nl_ces _) c2⟩, ⟨ps, by rw [e4, upd_ne (Ne.symm n2)]; exact p1, by rw [e6]; exact g.ddA _ _ (nl_pcs _) p2⟩, by rw [e3, e4]; exact h.ne, by rw [e5]; exact h.lc, by rw [e6]; exact h.lp⟩, (GrM.refl _ _).upd (by simp) (Mu.ins h1)⟩
section
variable {P : Program} {w : World} {K : PySem.W.Frag} {mg : Str → Option Value} {base : Heap}
theorem ok_endcell {fd : FuncData} (F : FmP K "end_cell" "CellsReader.end_cell" s_CellsReader__end_cell fd) (T : TD K mg) (D_merged : Df P w K mg base "merged" 1 p_merged (spMerged K)) : FnOk P w K mg base CX0 2 (He.fAd K ("CellsReader", some "end_cell")) fd p_CellsReader__end_cell (spM K fun _ s => if s.cells.length < 12 then endC s else none) := by
  obtain ⟨aN, m_NO_MARKS, sN⟩ := T.c_NO_MARKS
  refine okP F sc_CellsReader__end_cell (fun vs H Q E h => by obtain ⟨r, f, s, t, v, rfl, _⟩ := h; rfl) (fun A outer s0 H vs Q E hr h => ?_)
  obtain ⟨r, f, s, t, v, rfl, hd, hg, k⟩ := h
  have hg : (if s.cells.length < 12 then endC s else none) = some t := hg
  have lt : s.cells.length < 12 := by
    by_cases e : s.cells.length < 12
    · exact e
    · rw [if_neg e] at hg; cases hg
  rw [if_pos lt] at hg
  unfold endC at hg
  have hm : s.mm = NO := by
    by_cases e : s.mm = NO
    · exact e
    · rw [if_neg e] at hg; cases hg
  rw [if_pos hm] at hg
  cases hg
  obtain ⟨dx, h1⟩ := hd.ex
  obtain ⟨cs, k1, k2⟩ := hd.cs
  obtain ⟨ps, p1, p2⟩ := hd.ps
  obtain ⟨n1, n2, n3⟩ := hd.ne
  have nof : ∀ x ∈ (["form", "signs", "number", "column", "cells", "pieces", "link_word", "bold", "slant", "word", "is_escaping"] : List Str), NoAttr K (CR K) x := T.nA
  have cl : cs.length = s.cells.length := by rw [ddA_len k2, List.length_map]
  have sl : ∀ {n : Nat}, n ≤ 3000 → n ≤ sizeLine := fun h => by rw [sizeLine_eq]; omega
  have mk0 : (v.lk, v.bo, v.sl) = NO := hd.mm.symm.trans hm
  refine ⟨_, (C8.pss_cut (ps_if (pt_cmpR (u_ne (K := K) rfl hr.units) (pe_tup (pa_cons (pe_fld (pv 0) rfl) (pa_cons (pe_fld (pv 0) rfl) (pa_cons (pe_fld (pv 0) rfl) pa_nil)))) (pe_ref rfl m_NO_MARKS) (nomark _))
      (pss_one ps_never)
      pss_nil)
      (pss_cons (ps_expr (k_bm (K := K) rfl PySem.F.plainAttrs_list PySem.F.slot_list_append PySem.F.type_list_append mt_append (pe_fld (pv 0) rfl) (pa_cons (pe_fn D_merged hr (by decide) rfl (pa_cons (pe_fld (pv 0) rfl) pa_nil)) pa_nil)))
      (pss_one (ps_fld (pv 0) (pe_lst pa_nil) rfl)))), ?_⟩
  refine ⟨fun σ H' => σ = [some (.ref r)] ∧ Gr H H', ?_, ?_⟩
  · refine ⟨_, rfl, r, CR K, dx, _, _, rfl, h1, T.cl, nof _ (by simp), lu_link v, _, rfl, r, CR K, dx, _, _, rfl, h1, T.cl, nof _ (by simp), lu_bold v, _, rfl, r, CR K, dx, _, _, rfl, h1, T.cl, nof _ (by simp), lu_slant v, sl (by show 3 ≤ 3000; decide), fun q1 e1 => ?_⟩
    refine newH e1 fun H1 g1 s1 => ?_
    have nk : (NO : Mk3).1 ∈ LK4 := by simp [NO, LK4]
    have d1 : Dd K H1 (.ref q1) (mkD NO) := by
      rw [← mk0]
      exact .tup (SqT.of s1) (.cons (.str _) (.cons (.bl _) (.cons (.bl _) .nil)))
    have d2 : Dd K H1 (.ref aN) (mkD NO) := .tup (sN _) (.cons (.str _) (.cons (.bl _) (.cons (.bl _) .nil)))
    refine n_data ((cl_mk nk).dp d1) ((cl_mk nk).dp d2) ((cl_mk nk).shaped (by decide)) ((cl_mk nk).shaped (by decide)) ⟨_, rfl, ?_⟩
    rw [eqv_refl _ (cl_mk nk).lay]
    exact iteF ⟨rfl, g1⟩
  · rintro σ H1 ⟨rfl, g1⟩
    have hd1 := hd.gr g1
    have h1' := g1.keep h1 (fun _ z => by cases z)
    refine ⟨_, rfl, r, CR K, dx, _, _, rfl, h1', T.cl, nof _ (by simp), lu_cells v, .inl ⟨rfl, _, SqL.of (g1.lst k1)⟩, ?_⟩
    refine ⟨_, rfl, r, CR K, dx, _, _, rfl, h1', T.cl, nof _ (by simp), lu_pieces v, ?_⟩
    refine ⟨v.pl, ps, pcsP s.pcs, rfl, g1.lst p1, g1.ddA _ _ p2, ?_, by rw [fl_pcsP]; have := hd.lp; omega, fun p H2 g2 d2 => ?_⟩
    · intro q hq
      obtain ⟨x, hx, rfl⟩ := List.mem_map.mp hq
      exact ⟨by show [x.1] ≠ []; simp, (hd.ok x hx).2.2⟩
    rw [fl_pcsP] at d2
    have G := g1.trans g2
    refine ⟨v.cl, cs, .ref p, rfl, rfl, G.lst k1, by rw [cl, sizeLine_eq]; omega, ?_⟩
    have gN := GrN.upd (ys := cs ++ [.ref p]) (G.lst k1)
    have m2 : GrM [r, v.cl, v.pl] H (upd H2 v.cl (.lst (cs ++ [.ref p]))) := ((GrM.refl _ _).trans G.m).upd (by simp) (Mu.lst k1)
    refine ⟨Nat.zero_le _, fun q e => ?_⟩
    have hq2 : H2 q = none := by
      have nq : q ≠ v.cl := fun z => by rw [z, upd_same] at e; cases e
      rw [upd_ne nq] at e
      exact e
    have hq0 : H q = none := G.free hq2
    refine newH e fun H3 g3 s3 => ?_
    have h3 : H3 r = some (.ins (CR K) dx v.l) := g3.keep (by rw [upd_ne n1]; exact G.keep h1 (fun _ z => by cases z)) (fun _ z => by cases z)
    refine ⟨_, rfl, r, CR K, dx, _, rfl, h3, T.cl, nof _ (by simp), by show 11 < 1000; decide, ?_⟩
    rw [pu_pieces]
    have gX : GrX H3 (upd H3 r (.ins (CR K) dx ({ v with pl := q } : Fv).l)) := GrX.upd h3 rfl
    have nqr : r ≠ q := fun z => by rw [z, hq0] at h1; cases h1
    have nqc : v.cl ≠ q := fun z => by rw [z, hq0] at k1; cases k1
    have c3 : H3 v.cl = some (.lst (cs ++ [.ref p])) := g3.lst upd_same
    refine k _ { v with pl := q } ((m2.trans g3.m).upd (by simp) (Mu.ins h1)) rfl (.inr hq0) ⟨⟨dx, upd_same⟩, gX.seqT (g3.seqT (gN.seqT (g2.seqT hd1.fm))), hd.sg, hd.mm, hd.wd, hd.ie, hd.kl, (fun x hx => by cases hx), ⟨cs ++ [.ref p], ?_, ?_⟩, ⟨[], ?_, .nil⟩, ⟨n1, nqr, nqc⟩, ?_, Nat.zero_le _⟩
    · show upd H3 r _ v.cl = _
      rw [upd_ne (Ne.symm n1)]
      exact c3
    · show DdAll K _ _ ((s.cells ++ [s.pcs]).map ceD)
      exact gX.ddA _ _ (nl_ces _) (g3.ddA _ _ (ddA_cells (gN.ddA _ _ (nl_ces _) (G.ddA _ _ k2)) (gN.dd _ _ (nl_ce _) d2)))
    · show upd H3 r _ q = _
      rw [upd_ne (Ne.symm nqr)]
      exact s3
    · show (s.cells ++ [s.pcs]).length ≤ 12
      rw [List.length_append, List.length_singleton]
      omega
end
end Vf
end
section
set_option Elab.async false
set_option linter.all false
set_option maxRecDepth 100000
set_option maxHeartbeats 4000000
namespace Vf
open PySem PySem.Spec PyProof.Rows L2 GxR GenW RZ
def goCe (_ : Fo) (s : Rs) : Option Rs := if 12 ≤ s.cells.length + 1 ∨ 40 < s.pcs.length then none else endC s
def goEnd (_ : Fo) (s : Rs) : Option Rs := if s.cells.length < 12 then endC s else none
def goPut (_ : Fo) (s : Rs) (c : Nat) : Option Rs := if s.pcs.length < 491 then some (putC s c) else none
def goEsc (f : Fo) (s : Rs) (c : Nat) : Option Rs := if c ∈ f.sgs ∧ s.pcs.length < 491 then some (putC { s with ie := false } c) else none
def goWord (f : Fo) (s : Rs) (c : Nat) : Option Rs := match s.wd with
  | some w => if f.mi = some c ∧ w ≠ "" ∧ w ∈ LK4 then some { s with mm := (w, s.mm.2.1, s.mm.2.2), wd := none } else if c ∈ wordsC ∧ w.length < 12 then some { s with wd := some (w ++ chS c) } else none
  | none => none
theorem eq_sg {o : Option Nat} {c : Nat} : decide (V.str (chS c) = V.str (sg o)) = decide (o = some c) := by
  cases o with
  | none =>
    have e : ¬ V.str (chS c) = V.str (sg none) := fun z => by
      have q := congrArg cps (V.str.inj z)
      rw [cps_sg] at q
      cases q
    rw [decide_eq_false e]
    rfl
  | some d =>
    by_cases h : d = c
    · subst h
      simp [sg]
    · have e : ¬ V.str (chS c) = V.str (sg (some d)) := fun z => h (chS_inj (V.str.inj z)).symm
      rw [decide_eq_false e]
      exact (decide_eq_false fun z => h (Option.some.inj z)).symm
section
variable {P : Program} {w : World} {K : PySem.W.Frag} {mg : Str → Option Value} {base : Heap}
theorem ok_cellsign {fd : FuncData} (F : FmP K "take_cell_sign" "CellsReader.take_cell_sign" s_CellsReader__take_cell_sign fd) (T : TD K mg) (D_CellsReader__end_cell : Mf P w K mg base (CR K) "end_cell" 2 p_CellsReader__end_cell (spM K goEnd)) : FnOk P w K mg base CX0 3 (He.fAd K ("CellsReader", some "take_cell_sign")) fd p_CellsReader__take_cell_sign (spM K goCe) := by
  refine okP F sc_CellsReader__take_cell_sign (fun vs H Q E h => by obtain ⟨r, f, s, t, v, rfl, _⟩ := h; rfl) (fun A outer s0 H vs Q E hr h => ?_)
  obtain ⟨r, f, s, t, v, rfl, hd, hg, k⟩ := h
  have hg : (if 12 ≤ s.cells.length + 1 ∨ 40 < s.pcs.length then none else endC s) = some t := hg
  have hn : ¬ (12 ≤ s.cells.length + 1 ∨ 40 < s.pcs.length) := fun e => by rw [if_pos e] at hg; cases hg
  rw [if_neg hn] at hg
  obtain ⟨dx, h1⟩ := hd.ex
  obtain ⟨cs, k1, k2⟩ := hd.cs
  obtain ⟨ps, p1, p2⟩ := hd.ps
  have nof : ∀ x ∈ (["form", "signs", "number", "column", "cells", "pieces", "link_word", "bold", "slant", "word", "is_escaping"] : List Str), NoAttr K (CR K) x := T.nA
  have cl : cs.length = s.cells.length := by rw [ddA_len k2, List.length_map]
  have pl : ps.length = s.pcs.length := by
    rw [ddA_len p2, List.length_map]
    unfold pcsP
    rw [List.length_map]
  refine ⟨_, (C8.pss_cut (ps_if (PW.pt (pw_or (pt_cmpR (u_eq (K := K) rfl hr.units) (pe_op (u_add (K := K) rfl) (pe_callB (k_len (K := K) rfl) rfl T.b_len (by decide +kernel) (pa_cons (pe_fld (pv 0) rfl) pa_nil)) pe_int) (pe_gl T.c_MOST_CELLS rfl) (nomark _)) (pw_or1 (pt_cmpR u_gt (pe_callB (k_len (K := K) rfl) rfl T.b_len (by decide +kernel) (pa_cons (pe_fld (pv 0) rfl) pa_nil)) (pe_gl T.c_MOST_CELL_CHARACTERS rfl) (nomark _)))))
      (pss_one ps_never)
      pss_nil)
      (pss_one (ps_expr (pe_mt0 T.cl D_CellsReader__end_cell hr (by decide) (pv 0))))), ?_⟩
  refine ⟨fun σ H' => σ = [some (.ref r)] ∧ H' = H, ?_, ?_⟩
  · refine ⟨_, rfl, r, CR K, dx, _, _, rfl, h1, T.cl, nof _ (by simp), lu_cells v, _, cs.length, rfl, .inl ⟨cs, SqL.of k1, rfl⟩, a_ii (e_flat rfl ⟨_, rfl, ?_⟩)⟩
    have e : ¬ V.int ((cs.length : Nat) + 1 : Int) = V.int 12 := fun z => by
      have := V.int.inj z
      omega
    rw [decide_eq_false e]
    refine iteF ⟨_, rfl, r, CR K, dx, _, _, rfl, h1, T.cl, nof _ (by simp), lu_pieces v, _, ps.length, rfl, .inl ⟨ps, SqL.of p1, rfl⟩, gt_ii ⟨_, rfl, ?_⟩⟩
    rw [decide_eq_false (by omega)]
    exact iteF ⟨rfl, rfl⟩
  · rintro σ H' ⟨rfl, rfl⟩
    have hl : s.cells.length < 12 := by omega
    refine ⟨_, rfl, r, dx, _, rfl, h1, (lu_meth v).2.2.2.2.2.1, r, f, s, t, v, rfl, hd, by unfold goEnd; rw [if_pos hl]; exact hg, fun H2 v2 g2 e1 e2 hd2 => ?_⟩
    exact k H2 v2 g2 e1 e2 hd2
theorem ok_tesc {fd : FuncData} (F : FmP K "take_escaped" "CellsReader.take_escaped" s_CellsReader__take_escaped fd) (T : TD K mg) (D_CellsReader__put : Mf P w K mg base (CR K) "put" 1 p_CellsReader__put (spMc K goPut)) : FnOk P w K mg base CX0 2 (He.fAd K ("CellsReader", some "take_escaped")) fd p_CellsReader__take_escaped (spMc K goEsc) := by
  refine okP F sc_CellsReader__take_escaped (fun vs H Q E h => by obtain ⟨r, f, s, t, v, c, rfl, _⟩ := h; rfl) (fun A outer s0 H vs Q E hr h => ?_)
  obtain ⟨r, f, s, t, v, c, rfl, hd, hf, c32, c126, hg, k⟩ := h
  have hg : (if c ∈ f.sgs ∧ s.pcs.length < 491 then some (putC { s with ie := false } c) else none) = some t := hg
  have hc : c ∈ f.sgs ∧ s.pcs.length < 491 := by
    by_cases e : c ∈ f.sgs ∧ s.pcs.length < 491
    · exact e
    · rw [if_neg e] at hg; cases hg
  rw [if_pos hc] at hg
  cases hg
  obtain ⟨dx, h1⟩ := hd.ex
  have nof : ∀ x ∈ (["form", "signs", "number", "column", "cells", "pieces", "link_word", "bold", "slant", "word", "is_escaping"] : List Str), NoAttr K (CR K) x := T.nA
  refine ⟨_, (C8.pss_cut (ps_if (pt_cmpR (u_ni (K := K) rfl) (pv 1) (pe_fld (pv 0) rfl) (by first | exact nomark _ | rfl))
      (pss_one ps_never)
      pss_nil)
      (pss_cons (ps_fld (pv 0) pe_bl rfl)
      (pss_one (ps_expr (pe_mt T.cl D_CellsReader__put hr (by decide) (pv 0) (pa_cons (pv 1) pa_nil)))))), ?_⟩
  refine ⟨fun σ H' => σ = [some (.ref r), some (.str (chS c))] ∧ H' = H, ?_, ?_⟩
  · refine ⟨_, rfl, _, rfl, r, CR K, dx, _, _, rfl, h1, T.cl, nof _ (by simp), lu_signs v, ni_sign ⟨_, rfl, ?_⟩⟩
    have e : v.sgs.cps.toList = f.sgs := hd.sg
    rw [e, decide_eq_true hc.1]
    exact iteF ⟨rfl, rfl⟩
  · rintro σ H' ⟨rfl, rfl⟩
    refine ⟨_, rfl, r, CR K, dx, _, rfl, h1, T.cl, nof _ (by simp), by show 11 < 1000; decide, ?_⟩
    rw [pu_ie]
    obtain ⟨hd2, g2⟩ := hd.set h1 (w := { v with ie := false }) (t := { s with ie := false }) rfl rfl rfl rfl rfl rfl hd.mm hd.wd rfl hd.kl
    refine ⟨_, rfl, r, dx, _, rfl, upd_same, (lu_meth _).2.2.2.2.2.2.2.1, _, rfl, r, f, _, _, { v with ie := false }, c, rfl, hd2, hf, c32, c126, if_pos hc.2, fun H3 v3 g3 e1 e2 hd3 => ?_⟩
    refine k H3 v3 (g2.trans g3) e1 ?_ hd3
    rcases e2 with e2 | e2
    · exact .inl e2
    · refine .inr ?_
      have n : v3.pl ≠ r := fun z => by rw [z, upd_same] at e2; cases e2
      rw [upd_ne n] at e2
      exact e2
end
end Vf
end
section
set_option Elab.async false
set_option linter.all false
set_option maxRecDepth 100000
set_option maxHeartbeats 4000000
namespace Vf
open PySem PySem.Spec PyProof.Rows L2 GxR GenW RZ
theorem words_eq : ("abcdefghijklmnopqrstuvwxyz0123456789" : Str).cps.toList = wordsC := rfl
section
variable {P : Program} {w : World} {K : PySem.W.Frag} {mg : Str → Option Value} {base : Heap}
theorem ok_inword {fd : FuncData} (F : FmP K "take_in_word" "CellsReader.take_in_word" s_CellsReader__take_in_word fd) (T : TD K mg) : FnOk P w K mg base CX0 1 (He.fAd K ("CellsReader", some "take_in_word")) fd p_CellsReader__take_in_word (spMc K goWord) := by
  refine okP F sc_CellsReader__take_in_word (fun vs H Q E h => by obtain ⟨r, f, s, t, v, c, rfl, _⟩ := h; rfl) (fun A outer s0 H vs Q E hr h => ?_)
  obtain ⟨r, f, s, t, v, c, rfl, hd, hf, c32, c126, hg, k⟩ := h
  obtain ⟨dx, h1⟩ := hd.ex
  have nof : ∀ x ∈ (["form", "signs", "number", "column", "cells", "pieces", "link_word", "bold", "slant", "word", "is_escaping"] : List Str), NoAttr K (CR K) x := T.nA
  obtain ⟨wd, hw⟩ : ∃ wd, s.wd = some wd := by
    cases e : s.wd with
    | some wd => exact ⟨wd, rfl⟩
    | none => unfold goWord at hg; rw [e] at hg; cases hg
  have vw : v.wd = some wd := hd.wd.symm.trans hw
  have luw : v.l.lookup ("word" : Str) = some (.str wd) := by rw [lu_word, vw]; rfl
  have hg : (if f.mi = some c ∧ wd ≠ "" ∧ wd ∈ LK4 then some { s with mm := (wd, s.mm.2.1, s.mm.2.2), wd := none } else if c ∈ wordsC ∧ wd.length < 12 then some { s with wd := some (wd ++ chS c) } else none) = some t := by
    unfold goWord at hg
    rw [hw] at hg
    exact hg
  refine ⟨_, (pss_one (ps_if (PW.pt (pw_and (pt_cmpR (u_eq (K := K) rfl hr.units) (pv 1) (pe_ix (u_ix (K := K) rfl) (pe_fld (pv 0) rfl) (pe_gl T.c_MIDDLE rfl) (fun _ _ => rfl)) (nomark _)) (pw_and1 (pt_cmpR (u_ne (K := K) rfl hr.units) (pe_fld (pv 0) rfl) pe_str (nomark _)))))
      (pss_cons (ps_fld (pv 0) (pe_fld (pv 0) rfl) rfl)
      (pss_one (ps_fld (pv 0) pe_non rfl)))
      (pss_one (ps_if (PW.pt (pw_and (pt_cmpR (u_in (K := K) rfl) (pv 1) (pe_gl T.c_WORD_CHARACTERS rfl) (by first | exact nomark _ | rfl)) (pw_and1 (pt_cmpR u_lt (pe_callB (k_len (K := K) rfl) rfl T.b_len (by decide +kernel) (pa_cons (pe_fld (pv 0) rfl) pa_nil)) (pe_gl T.c_MOST_WORD_CHARACTERS rfl) (nomark _)))))
      (pss_one (ps_fldaug (pv 0) (pv 1) in_addS))
      (pss_one ps_never))))), ?_⟩
  refine ⟨_, rfl, _, rfl, r, CR K, dx, _, _, rfl, h1, T.cl, nof _ (by simp), lu_form v, x_t hd.fm rfl (e_flat rfl ⟨_, rfl, ?_⟩)⟩
  rw [eq_sg]
  have wordCase : ¬ (f.mi = some c ∧ wd ≠ "" ∧ wd ∈ LK4) → c ∈ wordsC ∧ wd.length < 12 ∧ t = { s with wd := some (wd ++ chS c) } := fun hn => by
    rw [if_neg hn] at hg
    by_cases e : c ∈ wordsC ∧ wd.length < 12
    · rw [if_pos e] at hg
      exact ⟨e.1, e.2, (Option.some.inj hg).symm⟩
    · rw [if_neg e] at hg
      cases hg
  by_cases hm : f.mi = some c
  · have nw : ¬ c ∈ wordsC := (sg_ok hf (in_sgs hf (i := 5) rfl hm)).2.1
    have hm2 : f.mi = some c ∧ wd ≠ "" ∧ wd ∈ LK4 := by
      by_cases e : f.mi = some c ∧ wd ≠ "" ∧ wd ∈ LK4
      · exact e
      · exact absurd (wordCase e).1 nw
    rw [if_pos hm2] at hg
    cases hg
    rw [decide_eq_true hm]
    refine iteT ⟨_, rfl, r, CR K, dx, _, _, rfl, h1, T.cl, nof _ (by simp), luw, n_flat rfl ⟨_, rfl, ?_⟩⟩
    rw [nes, decide_eq_true hm2.2.1]
    refine iteT ⟨_, rfl, r, CR K, dx, _, _, rfl, h1, T.cl, nof _ (by simp), luw, _, rfl, r, CR K, dx, _, rfl, h1, T.cl, nof _ (by simp), by show 11 < 1000; decide, ?_⟩
    rw [pu_link]
    have mm2 : s.mm.2 = (v.bo, v.sl) := by rw [hd.mm]
    obtain ⟨hd2, g2⟩ := hd.set h1 (w := { v with lk := wd }) (t := { s with mm := (wd, s.mm.2.1, s.mm.2.2) }) rfl rfl rfl rfl rfl rfl (by show (wd, s.mm.2.1, s.mm.2.2) = _; rw [mm2]) hd.wd hd.ie hm2.2.2
    refine ⟨_, rfl, r, CR K, dx, _, rfl, upd_same, T.cl, nof _ (by simp), by show 11 < 1000; decide, ?_⟩
    rw [show putF "word" V.non ({ v with lk := wd } : Fv).l = ({ v with lk := wd, wd := none } : Fv).l from pu_word { v with lk := wd } none]
    obtain ⟨hd3, g3⟩ := hd2.set upd_same (w := { v with lk := wd, wd := none }) (t := { s with mm := (wd, s.mm.2.1, s.mm.2.2), wd := none }) rfl rfl rfl rfl rfl rfl hd2.mm rfl hd.ie hm2.2.2
    exact k _ { v with lk := wd, wd := none } (g2.trans g3) rfl (.inl rfl) hd3
  · rw [decide_eq_false hm]
    obtain ⟨hc, hl, rfl⟩ := wordCase fun z => hm z.1
    refine iteF (iteF ⟨_, rfl, in_sign ⟨_, rfl, ?_⟩⟩)
    rw [words_eq, decide_eq_true hc]
    refine iteT ⟨_, rfl, r, CR K, dx, _, _, rfl, h1, T.cl, nof _ (by simp), luw, _, wd.length, rfl, ⟨by rw [sizeLine_eq]; omega, rfl⟩, l_ii ⟨_, rfl, ?_⟩⟩
    rw [decide_eq_true (by omega)]
    refine iteT ?_
    refine ⟨_, rfl, r, CR K, dx, _, _, rfl, h1, T.cl, nof _ (by simp), luw, _, rfl, wd, chS c, rfl, rfl, by show wd.length + 1 ≤ sizeLine; rw [sizeLine_eq]; omega, dx, _, h1, by show 11 < 1000; decide, ?_⟩
    rw [show putF "word" (V.str (wd ++ chS c)) v.l = ({ v with wd := some (wd ++ chS c) } : Fv).l from pu_word v (some (wd ++ chS c))]
    obtain ⟨hd2, g2⟩ := hd.set h1 (w := { v with wd := some (wd ++ chS c) }) (t := { s with wd := some (wd ++ chS c) }) rfl rfl rfl rfl rfl rfl hd.mm rfl hd.ie hd.kl
    exact k _ { v with wd := some (wd ++ chS c) } g2 rfl (.inl rfl) hd2
end
end Vf
end
section
set_option Elab.async false
set_option linter.all false
set_option maxRecDepth 100000
set_option maxHeartbeats 4000000
namespace Vf
open PySem PySem.Spec PyProof.Rows L2 GxR GenW RZ
theorem sd_eq {x y : Str} : decide (V.str x = V.str y) = decide (x = y) := by
  by_cases h : x = y
  · subst h
    simp
  · have : ¬ V.str x = V.str y := fun z => h (V.str.inj z)
    simp [h, this]
section
variable {P : Program} {w : World} {K : PySem.W.Frag} {mg : Str → Option Value} {base : Heap}
theorem ok_sign {fd : FuncData} (F : FmP K "take_sign" "CellsReader.take_sign" s_CellsReader__take_sign fd) (T : TD K mg) (D_CellsReader__take_cell_sign : Mf P w K mg base (CR K) "take_cell_sign" 3 p_CellsReader__take_cell_sign (spM K goCe)) (D_CellsReader__need_room : Mf P w K mg base (CR K) "need_room" 1 p_CellsReader__need_room (spM K fun _ s => if room s then some s else none)) : FnOk P w K mg base CX0 4 (He.fAd K ("CellsReader", some "take_sign")) fd p_CellsReader__take_sign (spMc K stepS) := by
  refine okP F sc_CellsReader__take_sign (fun vs H Q E h => by obtain ⟨r, f, s, t, v, c, rfl, _⟩ := h; rfl) (fun A outer s0 H vs Q E hr h => ?_)
  obtain ⟨r, f, s, t, v, c, rfl, hd, hf, c32, c126, hg, k⟩ := h
  obtain ⟨dx, h1⟩ := hd.ex
  have nof : ∀ x ∈ (["form", "signs", "number", "column", "cells", "pieces", "link_word", "bold", "slant", "word", "is_escaping"] : List Str), NoAttr K (CR K) x := T.nA
  have mm1 : s.mm.1 = v.lk := by rw [hd.mm]
  have mm2 : s.mm.2.1 = v.bo := by rw [hd.mm]
  have mm3 : s.mm.2.2 = v.sl := by rw [hd.mm]
  unfold stepS at hg
  refine ⟨_, (pss_one (ps_if (pt_cmpR (u_eq (K := K) rfl hr.units) (pv 1) (pe_ix (u_ix (K := K) rfl) (pe_fld (pv 0) rfl) (pe_gl T.c_CELL rfl) (fun _ _ => rfl)) (nomark _))
      (pss_one (ps_expr (pe_mt0 T.cl D_CellsReader__take_cell_sign hr (by decide) (pv 0))))
      (pss_one (ps_if (pt_cmpR (u_eq (K := K) rfl hr.units) (pv 1) (pe_ix (u_ix (K := K) rfl) (pe_fld (pv 0) rfl) (pe_gl T.c_BOLD rfl) (fun _ _ => rfl)) (nomark _))
      (pss_one (ps_fld (pv 0) (pe_not (pe_fld (pv 0) rfl)) rfl))
      (pss_one (ps_if (pt_cmpR (u_eq (K := K) rfl hr.units) (pv 1) (pe_ix (u_ix (K := K) rfl) (pe_fld (pv 0) rfl) (pe_gl T.c_SLANT rfl) (fun _ _ => rfl)) (nomark _))
      (pss_one (ps_fld (pv 0) (pe_not (pe_fld (pv 0) rfl)) rfl))
      (pss_one (ps_if (PW.pt (pw_and (pt_cmpR (u_eq (K := K) rfl hr.units) (pv 1) (pe_ix (u_ix (K := K) rfl) (pe_fld (pv 0) rfl) (pe_gl T.c_OPENING rfl) (fun _ _ => rfl)) (nomark _)) (pw_and1 (pt_cmpR (u_eq (K := K) rfl hr.units) (pe_fld (pv 0) rfl) pe_str (nomark _)))))
      (pss_one (ps_fld (pv 0) pe_str rfl))
      (pss_one (ps_if (PW.pt (pw_and (pt_cmpR (u_eq (K := K) rfl hr.units) (pv 1) (pe_ix (u_ix (K := K) rfl) (pe_fld (pv 0) rfl) (pe_gl T.c_END rfl) (fun _ _ => rfl)) (nomark _)) (pw_and1 (pt_cmpR (u_ne (K := K) rfl hr.units) (pe_fld (pv 0) rfl) pe_str (nomark _)))))
      (pss_one (ps_fld (pv 0) pe_str rfl))
      (pss_one (ps_if (pt_cmpR (u_eq (K := K) rfl hr.units) (pv 1) (pe_ix (u_ix (K := K) rfl) (pe_fld (pv 0) rfl) (pe_gl T.c_ESCAPE rfl) (fun _ _ => rfl)) (nomark _))
      (pss_cons (ps_expr (pe_mt0 T.cl D_CellsReader__need_room hr (by decide) (pv 0)))
      (pss_one (ps_fld (pv 0) pe_bl rfl)))
      (pss_one ps_never))))))))))))), ?_⟩
  refine ⟨_, rfl, _, rfl, r, CR K, dx, _, _, rfl, h1, T.cl, nof _ (by simp), lu_form v, x_t hd.fm rfl (e_flat rfl ⟨_, rfl, ?_⟩)⟩
  rw [eq_sg]
  by_cases k0 : f.ce = some c
  · rw [if_pos k0] at hg
    rw [decide_eq_true k0]
    refine iteT ⟨_, rfl, r, dx, _, rfl, h1, (lu_meth v).2.2.2.2.1, r, f, s, t, v, rfl, hd, hg, fun H2 v2 g2 e1 e2 hd2 => ?_⟩
    exact k H2 v2 g2 e1 e2 hd2
  rw [if_neg k0] at hg
  rw [decide_eq_false k0]
  refine iteF ⟨_, rfl, _, rfl, r, CR K, dx, _, _, rfl, h1, T.cl, nof _ (by simp), lu_form v, x_t hd.fm rfl (e_flat rfl ⟨_, rfl, ?_⟩)⟩
  rw [eq_sg]
  by_cases k1 : f.bo = some c
  · rw [if_pos k1] at hg
    cases hg
    rw [decide_eq_true k1]
    refine iteT ⟨_, rfl, r, CR K, dx, _, _, rfl, h1, T.cl, nof _ (by simp), lu_bold v, ?_⟩
    refine ⟨v.bo, rfl, _, rfl, r, CR K, dx, _, rfl, h1, T.cl, nof _ (by simp), by show 11 < 1000; decide, ?_⟩
    rw [pu_bold]
    obtain ⟨hd2, g2⟩ := hd.set h1 (w := { v with bo := !v.bo }) (t := { s with mm := (s.mm.1, !s.mm.2.1, s.mm.2.2) }) rfl rfl rfl rfl rfl rfl (by show (s.mm.1, !s.mm.2.1, s.mm.2.2) = _; rw [mm1, mm2, mm3]) hd.wd hd.ie hd.kl
    exact k _ { v with bo := !v.bo } g2 rfl (.inl rfl) hd2
  rw [if_neg k1] at hg
  rw [decide_eq_false k1]
  refine iteF ⟨_, rfl, _, rfl, r, CR K, dx, _, _, rfl, h1, T.cl, nof _ (by simp), lu_form v, x_t hd.fm rfl (e_flat rfl ⟨_, rfl, ?_⟩)⟩
  rw [eq_sg]
  by_cases k2 : f.sl = some c
  · rw [if_pos k2] at hg
    cases hg
    rw [decide_eq_true k2]
    refine iteT ⟨_, rfl, r, CR K, dx, _, _, rfl, h1, T.cl, nof _ (by simp), lu_slant v, ?_⟩
    refine ⟨v.sl, rfl, _, rfl, r, CR K, dx, _, rfl, h1, T.cl, nof _ (by simp), by show 11 < 1000; decide, ?_⟩
    rw [pu_slant]
    obtain ⟨hd2, g2⟩ := hd.set h1 (w := { v with sl := !v.sl }) (t := { s with mm := (s.mm.1, s.mm.2.1, !s.mm.2.2) }) rfl rfl rfl rfl rfl rfl (by show (s.mm.1, s.mm.2.1, !s.mm.2.2) = _; rw [mm1, mm2, mm3]) hd.wd hd.ie hd.kl
    exact k _ { v with sl := !v.sl } g2 rfl (.inl rfl) hd2
  rw [if_neg k2] at hg
  rw [decide_eq_false k2]
  refine iteF ⟨_, rfl, _, rfl, r, CR K, dx, _, _, rfl, h1, T.cl, nof _ (by simp), lu_form v, x_t hd.fm rfl (e_flat rfl ⟨_, rfl, ?_⟩)⟩
  rw [eq_sg]
  have no4 : f.op = some c → f.en ≠ some c ∧ f.es ≠ some c := fun z => ⟨os_ne hf (i := 4) (j := 6) rfl rfl (by decide) z, os_ne hf (i := 4) (j := 7) rfl rfl (by decide) z⟩
  have no6 : f.en = some c → f.es ≠ some c := fun z => os_ne hf (i := 6) (j := 7) rfl rfl (by decide) z
  by_cases k3 : f.op = some c
  · have l0 : v.lk = "" := by
      by_cases e : v.lk = ""
      · exact e
      · rw [if_neg (fun z => e (mm1.symm.trans z.2)), if_neg (fun z => (no4 k3).1 z.1), if_neg (no4 k3).2] at hg
        cases hg
    rw [if_pos ⟨k3, mm1.trans l0⟩] at hg
    cases hg
    rw [decide_eq_true k3]
    refine iteT ⟨_, rfl, r, CR K, dx, _, _, rfl, h1, T.cl, nof _ (by simp), lu_link v, e_flat rfl ⟨_, rfl, ?_⟩⟩
    rw [sd_eq, decide_eq_true l0]
    refine iteT ⟨_, rfl, r, CR K, dx, _, rfl, h1, T.cl, nof _ (by simp), by show 11 < 1000; decide, ?_⟩
    rw [show putF "word" (V.str "") v.l = ({ v with wd := some "" } : Fv).l from pu_word v (some "")]
    obtain ⟨hd2, g2⟩ := hd.set h1 (w := { v with wd := some "" }) (t := { s with wd := some "" }) rfl rfl rfl rfl rfl rfl hd.mm rfl hd.ie hd.kl
    exact k _ { v with wd := some "" } g2 rfl (.inl rfl) hd2
  rw [if_neg (fun z => k3 z.1)] at hg
  rw [decide_eq_false k3]
  refine iteF (iteF ⟨_, rfl, _, rfl, r, CR K, dx, _, _, rfl, h1, T.cl, nof _ (by simp), lu_form v, x_t hd.fm rfl (e_flat rfl ⟨_, rfl, ?_⟩)⟩)
  rw [eq_sg]
  by_cases k4 : f.en = some c
  · have l0 : v.lk ≠ "" := fun e => by
      rw [if_neg (fun z => z.2 (mm1.trans e)), if_neg (no6 k4)] at hg
      cases hg
    rw [if_pos ⟨k4, fun z => l0 (mm1.symm.trans z)⟩] at hg
    cases hg
    rw [decide_eq_true k4]
    refine iteT ⟨_, rfl, r, CR K, dx, _, _, rfl, h1, T.cl, nof _ (by simp), lu_link v, n_flat rfl ⟨_, rfl, ?_⟩⟩
    rw [nes, decide_eq_true l0]
    refine iteT ⟨_, rfl, r, CR K, dx, _, rfl, h1, T.cl, nof _ (by simp), by show 11 < 1000; decide, ?_⟩
    rw [pu_link]
    obtain ⟨hd2, g2⟩ := hd.set h1 (w := { v with lk := "" }) (t := { s with mm := ("", s.mm.2.1, s.mm.2.2) }) rfl rfl rfl rfl rfl rfl (by show ((("" : Str), s.mm.2.1, s.mm.2.2) : Mk3) = _; rw [mm2, mm3]) hd.wd hd.ie (by simp [LK4])
    exact k _ { v with lk := "" } g2 rfl (.inl rfl) hd2
  rw [if_neg (fun z => k4 z.1)] at hg
  rw [decide_eq_false k4]
  refine iteF (iteF ⟨_, rfl, _, rfl, r, CR K, dx, _, _, rfl, h1, T.cl, nof _ (by simp), lu_form v, x_t hd.fm rfl (e_flat rfl ⟨_, rfl, ?_⟩)⟩)
  rw [eq_sg]
  by_cases k5 : f.es = some c
  · rw [if_pos k5] at hg
    have ro : room s = true := by
      cases e : room s with
      | true => rfl
      | false => rw [e] at hg; cases hg
    rw [if_pos ro] at hg
    cases hg
    rw [decide_eq_true k5]
    refine iteT ⟨_, rfl, r, dx, _, rfl, h1, (lu_meth v).2.2.2.2.2.2.1, r, f, s, s, v, rfl, hd, if_pos ro, fun H2 v2 g2 e1 e2 hd2 => ?_⟩
    obtain ⟨dx2, h2⟩ := hd2.ex
    refine ⟨_, rfl, r, CR K, dx2, _, rfl, h2, T.cl, nof _ (by simp), by show 11 < 1000; decide, ?_⟩
    rw [pu_ie]
    obtain ⟨hd3, g3⟩ := hd2.set h2 (w := { v2 with ie := true }) (t := { s with ie := true }) rfl rfl rfl rfl rfl rfl hd2.mm hd2.wd rfl hd2.kl
    have g3' : GrM [r, v.cl, v.pl] H2 (upd H2 r (.ins (CR K) dx2 ({ v2 with ie := true } : Fv).l)) := (GrM.refl _ _).upd (by simp) (Mu.ins h2)
    exact k _ { v2 with ie := true } (g2.trans g3') e1 e2 hd3
  · rw [if_neg k5] at hg
    cases hg
end
end Vf
end
section
set_option Elab.async false
set_option linter.all false
set_option maxRecDepth 100000
set_option maxHeartbeats 4000000
namespace Vf
open PySem PySem.Spec PyProof.Rows L2 GxR GenW RZ
section
variable {P : Program} {w : World} {K : PySem.W.Frag} {mg : Str → Option Value} {base : Heap}
theorem ok_take {fd : FuncData} (F : FmP K "take" "CellsReader.take" s_CellsReader__take fd) (T : TD K mg) (D_CellsReader__take_escaped : Mf P w K mg base (CR K) "take_escaped" 2 p_CellsReader__take_escaped (spMc K goEsc)) (D_CellsReader__take_in_word : Mf P w K mg base (CR K) "take_in_word" 1 p_CellsReader__take_in_word (spMc K goWord))
    (D_CellsReader__take_sign : Mf P w K mg base (CR K) "take_sign" 4 p_CellsReader__take_sign (spMc K stepS)) (D_CellsReader__need_room : Mf P w K mg base (CR K) "need_room" 1 p_CellsReader__need_room (spM K fun _ s => if room s then some s else none)) (D_CellsReader__put : Mf P w K mg base (CR K) "put" 1 p_CellsReader__put (spMc K goPut)) :
    FnOk P w K mg base CX0 5 (He.fAd K ("CellsReader", some "take")) fd p_CellsReader__take (spMc K step) := by
  refine okP F sc_CellsReader__take (fun vs H Q E h => by obtain ⟨r, f, s, t, v, c, rfl, _⟩ := h; rfl) (fun A outer s0 H vs Q E hr h => ?_)
  obtain ⟨r, f, s, t, v, c, rfl, hd, hf, c32, c126, hg, k⟩ := h
  obtain ⟨dx, h1⟩ := hd.ex
  have nof : ∀ x ∈ (["form", "signs", "number", "column", "cells", "pieces", "link_word", "bold", "slant", "word", "is_escaping"] : List Str), NoAttr K (CR K) x := T.nA
  have n9 : c ≠ 9 := by omega
  unfold step at hg
  rw [if_neg n9] at hg
  refine ⟨_, (pss_cons (ps_fldaug (pv 0) pe_int in_add)
      (C8.pss_cut (ps_if (pt_cmpR (u_eq (K := K) rfl hr.units) (pv 1) pe_str (nomark _))
      (pss_one ps_never)
      pss_nil)
      (pss_one (ps_if (k_truth (K := K) rfl (pe_fld (pv 0) rfl) (by intro _; rfl))
      (pss_one (ps_expr (pe_mt T.cl D_CellsReader__take_escaped hr (by decide) (pv 0) (pa_cons (pv 1) pa_nil))))
      (pss_one (ps_if (pt_cmpR op_notN (pe_fld (pv 0) rfl) pe_non (nomark _))
      (pss_one (ps_expr (pe_mt T.cl D_CellsReader__take_in_word hr (by decide) (pv 0) (pa_cons (pv 1) pa_nil))))
      (pss_one (ps_if (pt_cmpR (u_in (K := K) rfl) (pv 1) (pe_fld (pv 0) rfl) (by first | exact nomark _ | rfl))
      (pss_one (ps_expr (pe_mt T.cl D_CellsReader__take_sign hr (by decide) (pv 0) (pa_cons (pv 1) pa_nil))))
      (pss_cons (ps_expr (pe_mt0 T.cl D_CellsReader__need_room hr (by decide) (pv 0)))
      (pss_one (ps_expr (pe_mt T.cl D_CellsReader__put hr (by decide) (pv 0) (pa_cons (pv 1) pa_nil))))))))))))), ?_⟩
  refine ⟨_, rfl, r, CR K, dx, _, _, rfl, h1, T.cl, nof _ (by simp), lu_column v, _, _, rfl, rfl, dx, _, h1, by show 11 < 1000; decide, ?_⟩
  rw [pu_column]
  obtain ⟨hd2, g2⟩ := hd.set h1 (w := { v with col := v.col + 1 }) (t := s) rfl rfl rfl rfl rfl rfl hd.mm hd.wd hd.ie hd.kl
  have K2 : ∀ H' v', GrM [r, v.cl, v.pl] (upd H r (.ins (CR K) dx ({ v with col := v.col + 1 } : Fv).l)) H' → v'.cl = v.cl → (v'.pl = v.pl ∨ upd H r (.ins (CR K) dx ({ v with col := v.col + 1 } : Fv).l) v'.pl = none) → Rd K H' r f t v' → Q .non H' := fun H' v' g e1 e2 hd' => by
    refine k H' v' (g2.trans g) e1 ?_ hd'
    rcases e2 with e2 | e2
    · exact .inl e2
    · refine .inr ?_
      have n : v'.pl ≠ r := fun z => by rw [z, upd_same] at e2; cases e2
      rw [upd_ne n] at e2
      exact e2
  generalize upd H r (.ins (CR K) dx ({ v with col := v.col + 1 } : Fv).l) = H2 at hd2 K2
  obtain ⟨dx2, h2⟩ := hd2.ex
  refine ⟨fun σ H' => σ = [some (.ref r), some (.str (chS c))] ∧ H' = H2, ?_, ?_⟩
  · refine ⟨_, rfl, e_flat rfl ⟨_, rfl, ?_⟩⟩
    have e : ¬ V.str (chS c) = V.str "\t" := fun z => by
      have q := congrArg cps (V.str.inj z)
      have q2 : [c] = cps "\t" := q
      rw [show cps "\t" = [9] by decide +kernel] at q2
      exact n9 (List.head_eq_of_cons_eq q2)
    rw [decide_eq_false e]
    exact iteF ⟨rfl, rfl⟩
  rintro σ H' ⟨rfl, rfl⟩
  refine ⟨_, rfl, r, CR K, dx2, _, _, rfl, h2, T.cl, nof _ (by simp), lu_ie { v with col := v.col + 1 }, v.ie, rfl, ?_⟩
  have ei : s.ie = v.ie := hd.ie
  cases ev : v.ie with
  | true =>
    rw [ei, ev, if_pos rfl] at hg
    refine iteT ⟨_, rfl, r, dx2, _, rfl, h2, (lu_meth _).2.1, _, rfl, r, f, s, t, { v with col := v.col + 1 }, c, rfl, hd2, hf, c32, c126, hg, fun H3 v3 g3 e1 e2 hd3 => K2 H3 v3 g3 e1 e2 hd3⟩
  | false =>
    rw [if_neg (by rw [ei, ev]; decide)] at hg
    refine iteF ⟨_, rfl, r, CR K, dx2, _, _, rfl, h2, T.cl, nof _ (by simp), lu_word { v with col := v.col + 1 }, ?_⟩
    have ew : s.wd = v.wd := hd.wd
    have fin : ∀ x, x = wdV v.wd → True := fun _ _ => trivial
    cases vw : v.wd with
    | some wd =>
      have gw : goWord f s c = some t := by
        unfold goWord
        rw [ew, vw]
        rw [ew, vw] at hg
        exact hg
      show tC V.non _ _ _
      refine ⟨rfl, _, rfl, ?_⟩
      refine ite2 (fun _ => ?_) (fun h => absurd (show _ = true by simp [vw, wdV]) h)
      exact ⟨_, rfl, r, dx2, _, rfl, h2, (lu_meth _).2.2.1, _, rfl, r, f, s, t, { v with col := v.col + 1 }, c, rfl, hd2, hf, c32, c126, gw, fun H3 v3 g3 e1 e2 hd3 => K2 H3 v3 g3 e1 e2 hd3⟩
    | none =>
      have hg : (if c ∈ f.sgs then stepS f s c else if room s then some (putC s c) else none) = some t := by
        rw [ew, vw] at hg
        exact hg
      show tC V.non _ _ _
      refine ⟨rfl, _, rfl, ?_⟩
      refine ite2 (fun h => absurd h (by simp [vw, wdV])) (fun _ => ?_)
      refine ⟨_, rfl, _, rfl, r, CR K, dx2, _, _, rfl, h2, T.cl, nof _ (by simp), lu_signs { v with col := v.col + 1 }, in_sign ⟨_, rfl, ?_⟩⟩
      have es : ({ v with col := v.col + 1 } : Fv).sgs.cps.toList = f.sgs := hd.sg
      rw [es]
      by_cases hs : c ∈ f.sgs
      · rw [if_pos hs] at hg
        rw [decide_eq_true hs]
        exact iteT ⟨_, rfl, r, dx2, _, rfl, h2, (lu_meth _).2.2.2.1, _, rfl, r, f, s, t, { v with col := v.col + 1 }, c, rfl, hd2, hf, c32, c126, hg, fun H3 v3 g3 e1 e2 hd3 => K2 H3 v3 g3 e1 e2 hd3⟩
      · rw [if_neg hs] at hg
        rw [decide_eq_false hs]
        have ro : room s = true := by
          cases e : room s with
          | true => rfl
          | false => rw [e] at hg; cases hg
        rw [if_pos ro] at hg
        cases hg
        have l491 : s.pcs.length < 491 := by
          have q := of_decide_eq_true ro
          split at q <;> omega
        refine iteF ⟨_, rfl, r, dx2, _, rfl, h2, (lu_meth _).2.2.2.2.2.2.1, r, f, s, s, { v with col := v.col + 1 }, rfl, hd2, if_pos ro, fun H3 v3 g3 e1 e2 hd3 => ?_⟩
        obtain ⟨dx3, h3⟩ := hd3.ex
        refine ⟨_, rfl, r, dx3, _, rfl, h3, (lu_meth _).2.2.2.2.2.2.2.1, _, rfl, r, f, s, _, v3, c, rfl, hd3, hf, c32, c126, if_pos l491, fun H4 v4 g4 f1 f2 hd4 => ?_⟩
        have sub : ∀ b ∈ [r, v.cl, v.pl], b ∈ [r, v.cl, v.pl, v3.pl] ∨ H' b = none := fun b hb => by
          simp only [List.mem_cons, List.not_mem_nil, or_false] at hb ⊢
          rcases hb with h | h | h <;> simp [h]
        have m3 : GrM [r, v.cl, v.pl, v3.pl] H' H3 := GrM.drop g3 sub
        have m4 : GrM [r, v.cl, v.pl, v3.pl] H3 H4 := GrM.drop g4 fun b hb => by
          have e1' : v3.cl = v.cl := e1
          simp only [List.mem_cons, List.not_mem_nil, or_false] at hb ⊢
          rcases hb with h | h | h
          · exact .inl (.inl h)
          · exact .inl (.inr (.inl (h.trans e1')))
          · exact .inl (.inr (.inr (.inr h)))
        have g34 : GrM [r, v.cl, v.pl] H' H4 := (m3.trans m4).drop fun b hb => by
          simp only [List.mem_cons, List.not_mem_nil, or_false] at hb ⊢
          rcases hb with h | h | h | h
          · exact .inl (.inl h)
          · exact .inl (.inr (.inl h))
          · exact .inl (.inr (.inr h))
          · rcases e2 with e2 | e2
            · exact .inl (.inr (.inr (h.trans e2)))
            · exact .inr (h ▸ e2)
        refine K2 H4 v4 g34 (f1.trans e1) ?_ hd4
        rcases f2 with f2 | f2
        · rcases e2 with e2 | e2
          · exact .inl (f2.trans e2)
          · exact .inr (by rw [f2]; exact e2)
        · by_cases q : v4.pl = v.pl
          · exact .inl q
          · refine .inr (GrM.free g3 ?_ f2)
            obtain ⟨cs, c1, _⟩ := hd3.cs
            simp only [List.mem_cons, List.not_mem_nil, or_false, not_or]
            refine ⟨fun z => ?_, fun z => ?_, q⟩
            · rw [z, h3] at f2
              cases f2
            · have z2 : v4.pl = v3.cl := z.trans e1.symm
              rw [z2, c1] at f2
              cases f2
end
end Vf
end
section
set_option Elab.async false
set_option linter.all false
set_option maxRecDepth 100000
set_option maxHeartbeats 4000000
namespace Vf
open PySem PySem.Spec PyProof.Rows L2 GxR GenW RZ
/-- the reader's end: a tuple of cells -/
def spFin (K : PySem.W.Frag) : Sp := fun vs H Q _ => ∃ (r : Addr) (f : Fo) (s : Rs) (v : Fv) (cs : List Fc), vs = [.ref r] ∧ Rd K H r f s v ∧ Ends s cs ∧ cs.length ≤ 12 ∧ ∀ p H', GrM [r, v.cl, v.pl] H H' → Dd K H' (.ref p) (.tuple (cs.map ceD)) → Q (.ref p) H'
section
variable {P : Program} {w : World} {K : PySem.W.Frag} {mg : Str → Option Value} {base : Heap}
theorem ok_finished {fd : FuncData} (F : FmP K "finished" "CellsReader.finished" s_CellsReader__finished fd) (T : TD K mg) (D_CellsReader__end_cell : Mf P w K mg base (CR K) "end_cell" 2 p_CellsReader__end_cell (spM K goEnd)) : FnOk P w K mg base CX0 3 (He.fAd K ("CellsReader", some "finished")) fd p_CellsReader__finished (spFin K) := by
  refine okP F sc_CellsReader__finished (fun vs H Q E h => by obtain ⟨r, f, s, v, cs, rfl, _⟩ := h; rfl) (fun A outer s0 H vs Q E hr h => ?_)
  obtain ⟨r, f, s, v, cs, rfl, hd, he, hl, k⟩ := h
  obtain ⟨dx, h1⟩ := hd.ex
  have nof : ∀ x ∈ (["form", "signs", "number", "column", "cells", "pieces", "link_word", "bold", "slant", "word", "is_escaping"] : List Str), NoAttr K (CR K) x := T.nA
  refine ⟨_, (pss_cons (ps_fldaug (pv 0) pe_int in_add)
      (C8.pss_cut (ps_if (PW.pt (pw_or (k_truth (K := K) rfl (pe_fld (pv 0) rfl) (by intro _; rfl)) (pw_or1 (pt_cmpR op_notN (pe_fld (pv 0) rfl) pe_non (nomark _)))))
      (pss_one ps_never)
      pss_nil)
      (pss_cons (ps_expr (pe_mt0 T.cl D_CellsReader__end_cell hr (by decide) (pv 0)))
      (pss_one (ps_ret (k_tuple (K := K) rfl rfl T.b_tuple (pe_fld (pv 0) rfl))))))), ?_⟩
  refine ⟨_, rfl, r, CR K, dx, _, _, rfl, h1, T.cl, nof _ (by simp), lu_column v, _, _, rfl, rfl, dx, _, h1, by show 11 < 1000; decide, ?_⟩
  rw [pu_column]
  obtain ⟨hd2, g2⟩ := hd.set h1 (w := { v with col := v.col + 1 }) (t := s) rfl rfl rfl rfl rfl rfl hd.mm hd.wd hd.ie hd.kl
  have hnc : ∀ q, upd H r (.ins (CR K) dx ({ v with col := v.col + 1 } : Fv).l) q = none → H q = none := fun q e => by
    have n : q ≠ r := fun z => by rw [z, upd_same] at e; cases e
    rw [upd_ne n] at e
    exact e
  generalize upd H r (.ins (CR K) dx ({ v with col := v.col + 1 } : Fv).l) = H2 at hd2 g2 hnc
  obtain ⟨dx2, h2⟩ := hd2.ex
  refine ⟨fun σ H' => σ = [some (.ref r)] ∧ H' = H2, ?_, ?_⟩
  · refine ⟨_, rfl, r, CR K, dx2, _, _, rfl, h2, T.cl, nof _ (by simp), lu_ie { v with col := v.col + 1 }, v.ie, rfl, ?_⟩
    have ev : v.ie = false := hd.ie.symm.trans he.ie
    have vw : v.wd = none := hd.wd.symm.trans he.wd
    rw [ev]
    refine iteF ⟨_, rfl, r, CR K, dx2, _, _, rfl, h2, T.cl, nof _ (by simp), lu_word { v with col := v.col + 1 }, ?_⟩
    show tC V.non _ _ _
    refine ⟨rfl, _, rfl, ?_⟩
    exact ite2 (fun h => absurd h (by simp [vw, wdV])) (fun _ => ⟨rfl, rfl⟩)
  · rintro σ H' ⟨rfl, rfl⟩
    have hcl : s.cells.length < 12 := by
      have q := congrArg List.length he.cs
      rw [List.length_append, List.length_singleton] at q
      omega
    have hg : goEnd f s = some { s with cells := s.cells ++ [s.pcs], pcs := [] } := by
      unfold goEnd endC
      rw [if_pos hcl, if_pos he.mm]
    refine ⟨_, rfl, r, dx2, _, rfl, h2, (lu_meth _).2.2.2.2.2.1, r, f, s, _, { v with col := v.col + 1 }, rfl, hd2, hg, fun H3 v3 g3 e1 e2 hd3 => ?_⟩
    obtain ⟨dx3, h3⟩ := hd3.ex
    obtain ⟨ys, c1, c2⟩ := hd3.cs
    have c2 : DdAll K H3 ys ((s.cells ++ [s.pcs]).map ceD) := c2
    rw [he.cs] at c2
    refine ⟨_, rfl, r, CR K, dx3, _, _, rfl, h3, T.cl, nof _ (by simp), lu_cells v3, ⟨.inl ⟨v3.cl, _, rfl, SqL.of c1, fun p hp => ?_⟩⟩⟩
    refine newH hp fun H4 g4 s4 => ?_
    exact k p H4 ((g2.trans g3).trans g4.m) (.tup (SqT.of s4) (g4.ddA _ _ c2))
end
end Vf
end
section
set_option Elab.async false
set_option linter.all false
set_option maxRecDepth 100000
set_option maxHeartbeats 4000000
/-! Own layer: what a test's or a term's word asks grows with its answer (for while). -/
namespace Vf
open PySem PySem.Spec PyProof.Rows L2 GxR GenW RZ
def MoE (t : TE) : Prop := ∀ σ H (Q Q' : VK), (∀ v H1, Q v H1 → Q' v H1) → t σ H Q → t σ H Q'
def MoA (t : TA) : Prop := ∀ σ H (Q Q' : List V → Hp → Prop), (∀ v H1, Q v H1 → Q' v H1) → t σ H Q → t σ H Q'
def MoT (t : TT) : Prop := ∀ σ H (Q Q' : Bool → Hp → Prop), (∀ b H1, Q b H1 → Q' b H1) → t σ H Q → t σ H Q'
def MoR (r : R2) : Prop := ∀ x y H (Q Q' : VK), (∀ v H1, Q v H1 → Q' v H1) → r x y H Q → r x y H Q'
theorem mo_var (i : Nat) : MoE (tVar i) := fun σ H Q Q' h ⟨v, e, q⟩ => ⟨v, e, h _ _ q⟩
theorem mo_c (v : V) : MoE (tC v) := fun σ H Q Q' h q => h _ _ q
theorem mo_op {r : R2} {a b : TE} (hr : MoR r) (ha : MoE a) (hb : MoE b) : MoE (tOp r a b) := fun σ H Q Q' h q => ha σ H _ _ (fun x H1 q1 => hb σ H1 _ _ (fun y H2 q2 => hr x y H2 _ _ h q2) q1) q
theorem mo_nil : MoA tNil := fun σ H Q Q' h q => h _ _ q
theorem mo_cons {a : TE} {t : TA} (ha : MoE a) (ht : MoA t) : MoA (tCons a t) := fun σ H Q Q' h q => ha σ H _ _ (fun x H1 q1 => ht σ H1 _ _ (fun xs H2 q2 => h _ _ q2) q1) q
theorem mo_len {K : PySem.W.Frag} {t : TA} (ht : MoA t) : MoE (tCB (fun xs H Q => ∃ x n, xs = [x] ∧ LenV K x H n ∧ Q (.int n) H) t) := fun σ H Q Q' h q => ht σ H _ _ (fun xs H1 ⟨x, n, e, l, q1⟩ => ⟨x, n, e, l, h _ _ q1⟩) q
theorem mo_test {t : TE} (ht : MoE t) : MoT (tTest t) := fun σ H Q Q' h q => ht σ H _ _ (fun v H1 ⟨k, e, q1⟩ => ⟨k, e, h _ _ q1⟩) q
theorem mo_and {t u : TT} (ht : MoT t) (hu : MoT u) : MoT (tAnd t u) := fun σ H Q Q' h q => ht σ H _ _ (fun c H1 q1 => by
  cases c with
  | true => exact hu σ H1 _ _ h q1
  | false => exact h _ _ q1) q
theorem mo_or {t u : TT} (ht : MoT t) (hu : MoT u) : MoT (tOr t u) := fun σ H Q Q' h q => ht σ H _ _ (fun c H1 q1 => by
  cases c with
  | true => exact h _ _ q1
  | false => exact hu σ H1 _ _ h q1) q
theorem mo_not {t : TT} (ht : MoT t) : MoT (tNot t) := fun σ H Q Q' h q => ht σ H _ _ (fun c H1 q1 => h _ _ q1) q
theorem mo_lt : MoR rLtU := fun x y H Q Q' h q => by
  rcases q.h with ⟨i, j, e1, e2, q⟩ | ⟨i, j, e1, e2, q⟩
  · exact ⟨.inl ⟨i, j, e1, e2, h _ _ q⟩⟩
  · exact ⟨.inr ⟨i, j, e1, e2, h _ _ q⟩⟩
theorem mo_le : MoR rLeU := fun x y H Q Q' h q => by
  rcases q.h with ⟨i, j, e1, e2, q⟩ | ⟨i, j, e1, e2, q⟩
  · exact ⟨.inl ⟨i, j, e1, e2, h _ _ q⟩⟩
  · exact ⟨.inr ⟨i, j, e1, e2, h _ _ q⟩⟩
theorem mo_gt : MoR rGt := fun x y H Q Q' h ⟨⟨i, j, e1, e2, q⟩⟩ => ⟨⟨i, j, e1, e2, h _ _ q⟩⟩
theorem mo_ge : MoR rGe := fun x y H Q Q' h ⟨⟨i, j, e1, e2, q⟩⟩ => ⟨⟨i, j, e1, e2, h _ _ q⟩⟩
theorem mo_eq {K : PySem.W.Frag} : MoR (rEqU K) := fun x y H Q Q' h q => by
  rcases q.h with ⟨e, q⟩ | ⟨d, e, h1, h2, h3, h4, q⟩
  · exact ⟨.inl ⟨e, h _ _ q⟩⟩
  · exact ⟨.inr ⟨d, e, h1, h2, h3, h4, h _ _ q⟩⟩
theorem mo_ne {K : PySem.W.Frag} : MoR (rNeU K) := fun x y H Q Q' h q => by
  rcases q.h with ⟨e, q⟩ | ⟨d, e, h1, h2, h3, h4, q⟩
  · exact ⟨.inl ⟨e, h _ _ q⟩⟩
  · exact ⟨.inr ⟨d, e, h1, h2, h3, h4, h _ _ q⟩⟩
theorem mo_ix {K : PySem.W.Frag} : MoR (rIxU K) := fun x y H Q Q' h q => by
  rcases q.h with ⟨p, xs, i, v, e1, e2, e3, e4, q⟩ | ⟨p, xs, i, v, e1, e2, e3, e4, q⟩ | ⟨z, i, c, e1, e2, e3, e4, q⟩
  · exact ⟨.inl ⟨p, xs, i, v, e1, e2, e3, e4, h _ _ q⟩⟩
  · exact ⟨.inr (.inl ⟨p, xs, i, v, e1, e2, e3, e4, h _ _ q⟩)⟩
  · exact ⟨.inr (.inr ⟨z, i, c, e1, e2, e3, e4, h _ _ q⟩)⟩
end Vf
end
section
set_option Elab.async false
set_option linter.all false
set_option maxRecDepth 100000
set_option maxHeartbeats 4000000
namespace Vf
open PySem PySem.Spec PyProof.Rows L2 GxR GenW RZ
abbrev s_read_depth : Stmt := top 41
abbrev n_read_depth : List Str := ["form", "number", "text", "depth"]
abbrev p_read_depth : List Str := ["form", "number", "text"]
theorem sc_read_depth : FnScope n_read_depth p_read_depth (defScope s_read_depth) := ⟨rfl, rfl, rfl, by decide +kernel, rfl, by decide +kernel, by decide +kernel⟩

/-- a reader that is being made -/
structure Ini (K : PySem.W.Frag) (f : Fo) (a : Addr) (H0 H : Hp) (r dx : Addr) (l : List (Str × V)) (ls : List Addr) : Prop where
  g : GrM [r] H0 H
  i : H r = some (.ins (CR K) dx l)
  s : SqT K H a (strV f.strs)
  e : ∀ b ∈ ls, H b = some (.lst [])
  n : ∀ b ∈ ls, H0 b = none
  d : ls.Nodup
theorem Ini.set {K : PySem.W.Frag} {f : Fo} {a : Addr} {H0 H : Hp} {r dx : Addr} {l : List (Str × V)} {ls : List Addr} (h : Ini K f a H0 H r dx l ls) (m : Mu H0 r) (l' : List (Str × V)) : Ini K f a H0 (upd H r (.ins (CR K) dx l')) r dx l' ls :=
  ⟨h.g.upd (by simp) m, upd_same, (GrX.upd h.i rfl).seqT h.s, fun b hb => by
    have q := h.e b hb
    have n : b ≠ r := fun z => by rw [z, h.i] at q; cases q
    rw [upd_ne n]
    exact q, h.n, h.d⟩
theorem Ini.gr {K : PySem.W.Frag} {f : Fo} {a : Addr} {H0 H H' : Hp} {r dx : Addr} {l : List (Str × V)} {ls : List Addr} (h : Ini K f a H0 H r dx l ls) (g : Gr H H') : Ini K f a H0 H' r dx l ls :=
  ⟨h.g.trans g.m, g.keep h.i (fun _ z => by cases z), g.seqT h.s, fun b hb => g.lst (h.e b hb), h.n, h.d⟩
theorem Ini.new {K : PySem.W.Frag} {f : Fo} {a q : Addr} {H0 H H' : Hp} {r dx : Addr} {l : List (Str × V)} {ls : List Addr} (h : Ini K f a H0 H r dx l ls) (hq : H q = none) (g : Gr H H') (e : H' q = some (.lst [])) : Ini K f a H0 H' r dx l (q :: ls) := by
  have i2 := h.gr g
  have nq : q ∉ [r] := fun z => by rw [List.mem_singleton.mp z, h.i] at hq; cases hq
  refine ⟨i2.g, i2.i, i2.s, fun b hb => ?_, fun b hb => ?_, List.nodup_cons.mpr ⟨fun z => ?_, h.d⟩⟩
  · rcases List.mem_cons.mp hb with rfl | hb
    · exact e
    · exact i2.e b hb
  · rcases List.mem_cons.mp hb with rfl | hb
    · exact h.g.free nq hq
    · exact h.n b hb
  · have q2 := h.e q z
    rw [hq] at q2
    cases q2
theorem seqT_ins {K : PySem.W.Frag} {H0 H : Hp} {r a C dx : Addr} {l : List (Str × V)} {xs : List V} (g : GrM [r] H0 H) (h : H0 r = some (.ins C dx l)) (s : SqT K H0 a xs) : SqT K H a xs := by
  rcases s with (s | ⟨o, s⟩) | s
  · exact .inl (.inl (g.tup s))
  · have n : a ∉ [r] := fun z => by rw [List.mem_singleton.mp z, h] at s; cases s
    exact .inl (.inr ⟨o, g.keep n s (fun _ z => by cases z)⟩)
  · exact .inr s
def Lk (fm : Addr) (sgs : Str) (n col : Int) (cl pl : Addr) (k : Nat) : List (Str × V) := (Fv.mk fm sgs n col cl pl "" false false none false).l.take k
def spInit (K : PySem.W.Frag) : Sp := fun vs H Q _ => ∃ (r dx a : Addr) (f : Fo) (n c : Int), vs = [.ref r, .ref a, .int n, .int c] ∧ H r = some (.ins (CR K) dx []) ∧ SqT K H a (strV f.strs) ∧ ∀ v H', GrM [r] H H' → H v.cl = none → H v.pl = none → Rd K H' r f Rs0 v → Q .non H'
section
variable {P : Program} {w : World} {K : PySem.W.Frag} {mg : Str → Option Value} {base : Heap}
theorem ok_init {fd : FuncData} (F : FmP K "__init__" "CellsReader.__init__" s_CellsReader____init__ fd) (T : TD K mg) (D_signs_of : Df P w K mg base "signs_of" 1 p_signs_of (spSigns K)) : FnOk P w K mg base CX0 2 (He.fAd K ("CellsReader", some "__init__")) fd p_CellsReader____init__ (spInit K) := by
  refine okP F sc_CellsReader____init__ (fun vs H Q E h => by obtain ⟨r, dx, a, f, n, c, rfl, _⟩ := h; rfl) (fun A outer s0 H vs Q E hr h => ?_)
  obtain ⟨r, dx, a, f, n, c, rfl, h0, hS, k⟩ := h
  have nof : ∀ x ∈ (["form", "signs", "number", "column", "cells", "pieces", "link_word", "bold", "slant", "word", "is_escaping"] : List Str), NoAttr K (CR K) x := T.nA
  have m := Mu.ins h0
  have I0 : Ini K f a H H r dx (Lk a "" n c 0 0 0) [] := ⟨GrM.refl _ _, h0, hS, by simp, by simp, List.nodup_nil⟩
  refine ⟨_, (pss_cons (ps_fld (pv 0) (pv 1) rfl)
      (pss_cons (ps_fld (pv 0) (pe_fn D_signs_of hr (by decide) rfl (pa_cons (pv 1) pa_nil)) rfl)
      (pss_cons (ps_fld (pv 0) (pv 2) rfl)
      (pss_cons (ps_fld (pv 0) (pv 3) rfl)
      (pss_cons (ps_fld (pv 0) (pe_lst pa_nil) rfl)
      (pss_cons (ps_fld (pv 0) (pe_lst pa_nil) rfl)
      (pss_cons (ps_fld (pv 0) pe_str rfl)
      (pss_cons (ps_fld (pv 0) pe_bl rfl)
      (pss_cons (ps_fld (pv 0) pe_bl rfl)
      (pss_cons (ps_fld (pv 0) pe_non rfl)
      (pss_one (ps_fld (pv 0) pe_bl rfl)))))))))))), ?_⟩
  refine ⟨_, rfl, _, rfl, r, CR K, dx, _, rfl, I0.i, T.cl, nof _ (by simp), by show 0 < 1000; decide, ?_⟩
  have I1 := I0.set m (Lk a "" n c 0 0 1)
  rw [show putF "form" (.ref a) (Lk a "" n c 0 0 0) = Lk a "" n c 0 0 1 from by kernel_rfl]
  generalize upd H r _ = H1 at I1 ⊢
  refine ⟨_, rfl, a, f, rfl, I1.s, fun t H100 ht g100 => ?_⟩
  have I100 := I1.gr g100
  refine ⟨_, rfl, r, CR K, dx, _, rfl, I100.i, T.cl, nof _ (by simp), by show 1 < 1000; decide, ?_⟩
  have I2 := I100.set m (Lk a t n c 0 0 2)
  rw [show putF "signs" (.str t) (Lk a "" n c 0 0 1) = Lk a t n c 0 0 2 from by kernel_rfl]
  generalize upd H100 r _ = H2 at I2 ⊢
  refine ⟨_, rfl, _, rfl, r, CR K, dx, _, rfl, I2.i, T.cl, nof _ (by simp), by show 2 < 1000; decide, ?_⟩
  have I3 := I2.set m (Lk a t n c 0 0 3)
  rw [show putF "number" (.int n) (Lk a t n c 0 0 2) = Lk a t n c 0 0 3 from by kernel_rfl]
  generalize upd H2 r _ = H3 at I3 ⊢
  refine ⟨_, rfl, _, rfl, r, CR K, dx, _, rfl, I3.i, T.cl, nof _ (by simp), by show 3 < 1000; decide, ?_⟩
  have I4 := I3.set m (Lk a t n c 0 0 4)
  rw [show putF "column" (.int c) (Lk a t n c 0 0 3) = Lk a t n c 0 0 4 from by kernel_rfl]
  generalize upd H3 r _ = H4 at I4 ⊢
  refine ⟨Nat.zero_le _, fun q1 e101 => ?_⟩
  refine newH e101 fun H101 g101 s101 => ?_
  have I101 := I4.new e101 g101 s101
  refine ⟨_, rfl, r, CR K, dx, _, rfl, I101.i, T.cl, nof _ (by simp), by show 4 < 1000; decide, ?_⟩
  have I5 := I101.set m (Lk a t n c q1 0 5)
  rw [show putF "cells" (.ref q1) (Lk a t n c 0 0 4) = Lk a t n c q1 0 5 from by kernel_rfl]
  generalize upd H101 r _ = H5 at I5 ⊢
  refine ⟨Nat.zero_le _, fun q2 e102 => ?_⟩
  refine newH e102 fun H102 g102 s102 => ?_
  have I102 := I5.new e102 g102 s102
  refine ⟨_, rfl, r, CR K, dx, _, rfl, I102.i, T.cl, nof _ (by simp), by show 5 < 1000; decide, ?_⟩
  have I6 := I102.set m (Lk a t n c q1 q2 6)
  rw [show putF "pieces" (.ref q2) (Lk a t n c q1 0 5) = Lk a t n c q1 q2 6 from by kernel_rfl]
  generalize upd H102 r _ = H6 at I6 ⊢
  refine ⟨_, rfl, r, CR K, dx, _, rfl, I6.i, T.cl, nof _ (by simp), by show 6 < 1000; decide, ?_⟩
  have I7 := I6.set m (Lk a t n c q1 q2 7)
  rw [show putF "link_word" (.str "") (Lk a t n c q1 q2 6) = Lk a t n c q1 q2 7 from by kernel_rfl]
  generalize upd H6 r _ = H7 at I7 ⊢
  refine ⟨_, rfl, r, CR K, dx, _, rfl, I7.i, T.cl, nof _ (by simp), by show 7 < 1000; decide, ?_⟩
  have I8 := I7.set m (Lk a t n c q1 q2 8)
  rw [show putF "bold" (.bl false) (Lk a t n c q1 q2 7) = Lk a t n c q1 q2 8 from by kernel_rfl]
  generalize upd H7 r _ = H8 at I8 ⊢
  refine ⟨_, rfl, r, CR K, dx, _, rfl, I8.i, T.cl, nof _ (by simp), by show 8 < 1000; decide, ?_⟩
  have I9 := I8.set m (Lk a t n c q1 q2 9)
  rw [show putF "slant" (.bl false) (Lk a t n c q1 q2 8) = Lk a t n c q1 q2 9 from by kernel_rfl]
  generalize upd H8 r _ = H9 at I9 ⊢
  refine ⟨_, rfl, r, CR K, dx, _, rfl, I9.i, T.cl, nof _ (by simp), by show 9 < 1000; decide, ?_⟩
  have I10 := I9.set m (Lk a t n c q1 q2 10)
  rw [show putF "word" (.non) (Lk a t n c q1 q2 9) = Lk a t n c q1 q2 10 from by kernel_rfl]
  generalize upd H9 r _ = H10 at I10 ⊢
  refine ⟨_, rfl, r, CR K, dx, _, rfl, I10.i, T.cl, nof _ (by simp), by show 10 < 1000; decide, ?_⟩
  have I11 := I10.set m ((Fv.mk a t n c q1 q2 "" false false none false).l)
  rw [show putF "is_escaping" (.bl false) (Lk a t n c q1 q2 10) = (Fv.mk a t n c q1 q2 "" false false none false).l from by kernel_rfl]
  generalize upd H10 r _ = H11 at I11 ⊢
  have nd := List.nodup_cons.mp I11.d
  have c1 := I11.e q1 (by simp)
  have c2 := I11.e q2 (by simp)
  have nr : ∀ {b : Addr}, H11 b = some (.lst []) → r ≠ b := fun hb z => by rw [← z, I11.i] at hb; cases hb
  exact k (Fv.mk a t n c q1 q2 "" false false none false) H11 I11.g (I11.n q1 (by simp)) (I11.n q2 (by simp)) ⟨⟨dx, I11.i⟩, I11.s, ht, rfl, rfl, rfl, by simp [LK4], (fun x hx => by cases hx), ⟨[], c1, .nil⟩, ⟨[], c2, .nil⟩, ⟨nr c1, nr c2, fun z => nd.1 (by rw [show q2 = q1 from z.symm]; simp)⟩, Nat.zero_le _, Nat.zero_le _⟩
def spDepth (K : PySem.W.Frag) : Sp := fun vs H Q _ => ∃ (a : Addr) (f : Fo) (n : V) (x : Str), vs = [.ref a, n, .str x] ∧ SqT K H a (strV f.strs) ∧ x.length ≤ 1500000 ∧ dep f.le (cps x) ≤ 6 ∧ Q (.int (dep f.le (cps x) : Nat)) H
theorem dep_at {o : Option Nat} : ∀ (l : List Nat) (i : Nat), i ≤ dep o l → (∀ c, l[i]? = some c → (i < dep o l ↔ o = some c)) ∧ (l[i]? = none → i = dep o l)
  | [], i, h => by
    have h : i ≤ 0 := h
    refine ⟨fun c hc => by simp at hc, fun _ => by show i = 0; omega⟩
  | d :: l, i, h => by
    have e : dep o (d :: l) = if o = some d then dep o l + 1 else 0 := rfl
    by_cases q : o = some d
    · rw [if_pos q] at e
      rw [e] at h ⊢
      cases i with
      | zero =>
        refine ⟨fun c hc => ?_, fun z => by simp at z⟩
        have hc : d = c := by simpa using hc
        exact ⟨fun _ => by rw [q, hc], fun _ => Nat.succ_pos _⟩
      | succ i =>
        obtain ⟨h1, h2⟩ := dep_at (o := o) l i (by omega)
        refine ⟨fun c hc => ?_, fun z => ?_⟩
        · have := h1 c (by simpa using hc)
          rw [← this]
          omega
        · have := h2 (by simpa using z)
          omega
    · rw [if_neg q] at e
      rw [e] at h ⊢
      have i0 : i = 0 := by omega
      subst i0
      refine ⟨fun c hc => ?_, fun z => by simp at z⟩
      have hc : d = c := by simpa using hc
      exact ⟨fun z => absurd z (Nat.lt_irrefl 0), fun z => absurd (by rw [z, hc]) q⟩
theorem dep_le {o : Option Nat} : ∀ l : List Nat, dep o l ≤ l.length
  | [] => Nat.le_refl _
  | d :: l => by
    have := dep_le (o := o) l
    show (if o = some d then dep o l + 1 else 0) ≤ _
    rw [List.length_cons]
    split <;> omega
theorem ok_depth {fd : FuncData} (F : FnP K "read_depth" s_read_depth fd) (T : TD K mg) : FnOk P w K mg base CX0 1 (He.fAd K ("read_depth", none)) fd p_read_depth (spDepth K) := by
  refine okP F sc_read_depth (fun vs H Q E h => by obtain ⟨a, f, n, x, rfl, _⟩ := h; rfl) (fun A outer s H vs Q E hr h => ?_)
  obtain ⟨a, f, n, x, rfl, hS, hx, h6, k⟩ := h
  refine ⟨_, (pss_cons (ps_set (i := 3) sc_read_depth.nd rfl (by first | exact Or.inl rfl | exact Or.inr rfl) pe_int)
      (pss_cons (ps_while PassesOwn.never (PW.pt (pw_and (pt_cmpR u_lt (pv 3) (pe_callB (k_len (K := K) rfl) rfl T.b_len (by decide +kernel) (pa_cons (pv 2) pa_nil)) (nomark _)) (pw_and1 (pt_cmpR (u_eq (K := K) rfl hr.units) (pe_ix (u_ix (K := K) rfl) (pv 2) (pv 3) (fun _ _ => rfl)) (pe_ix (u_ix (K := K) rfl) (pv 0) (pe_gl T.c_LEVEL rfl) (fun _ _ => rfl)) (nomark _)))))
      (pss_cons (ps_aug (i := 3) sc_read_depth.nd rfl (.inl rfl) pe_int ip_add)
      (pss_one (ps_if (pt_cmpR u_gt (pv 3) (pe_gl T.c_MOST_DEPTH rfl) (nomark _))
      (pss_one ps_never)
      pss_nil))))
      (pss_one (ps_ret (pv 3))))), ?_⟩
  have xl : (cps x).length = x.length := cps_len x
  refine while_by (fun σ H' => ∃ i : Nat, σ = [some (.ref a), some n, some (.str x), some (.int (i : Nat))] ∧ H' = H ∧ i ≤ dep f.le (cps x))
    (fun σ _ => match σ with | [_, _, _, some (.int l)] => 7 - l.toNat | _ => 0) ⟨0, rfl, rfl, Nat.zero_le _⟩ ?_ ?_
  · rintro σ H' ⟨i, rfl, rfl, hi⟩
    obtain ⟨d1, d2⟩ := dep_at (o := f.le) (cps x) i hi
    have dl := dep_le (o := f.le) (cps x)
    refine ⟨_, rfl, _, rfl, _, x.length, rfl, ⟨by rw [sizeLine_eq]; omega, rfl⟩, l_ii ⟨_, rfl, ite2 (fun h1 => ?_) (fun h1 => ?_)⟩⟩
    · have h1 : (i : Int) < (x.length : Nat) := of_decide_eq_true h1
      have il : i < (cps x).length := by omega
      have hc := List.getElem?_eq_getElem il
      generalize (cps x)[i] = c at hc
      refine ⟨_, rfl, _, rfl, x_s (by rw [sizeLine_eq]; omega) (atI_nat hc) ⟨_, rfl, x_t hS rfl (e_flat rfl ⟨_, rfl, ?_⟩)⟩⟩
      have e := d1 c hc
      show if decide (V.str (chS c) = V.str (sg f.le)) = true then _ else _
      rw [eq_sg]
      refine ite2 (fun h2 => ?_) (fun h2 => ?_)
      · have lt := e.mpr (of_decide_eq_true h2)
        refine ⟨_, rfl, _, _, rfl, rfl, _, rfl, gt_ii ⟨_, rfl, ?_⟩⟩
        rw [show decide ((6 : Int) < (fun i j : Int => i + j) (i : Int) 1) = false from decide_eq_false (by show ¬ (6 : Int) < (i : Int) + 1; omega)]
        refine iteF ⟨⟨i + 1, rfl, rfl, lt⟩, ?_⟩
        show 7 - ((i : Int) + 1).toNat < 7 - (i : Int).toNat
        omega
      · have ne : ¬ i < dep f.le (cps x) := fun z => h2 (decide_eq_true (e.mp z))
        have ei : i = dep f.le (cps x) := by omega
        subst ei
        exact ⟨_, rfl, k⟩
    · have h1 : ¬ (i : Int) < (x.length : Nat) := fun z => h1 (decide_eq_true z)
      have ei := d2 (List.getElem?_eq_none (by omega))
      subst ei
      exact ⟨_, rfl, k⟩
  · exact mo_and (mo_test (mo_op mo_lt (mo_var _) (mo_len (mo_cons (mo_var _) mo_nil)))) (mo_test (mo_op mo_eq (mo_op mo_ix (mo_var _) (mo_var _)) (mo_op mo_ix (mo_var _) (mo_c _))))
end
end Vf
end
section
set_option Elab.async false
set_option linter.all false
set_option maxRecDepth 100000
set_option maxHeartbeats 4000000
namespace Vf
open PySem PySem.Spec PyProof.Rows L2 GxR GenW RZ
abbrev s_read_line : Stmt := top 40
abbrev n_read_line : List Str := ["form", "number", "text", "depth", "reader", "character"]
abbrev p_read_line : List Str := ["form", "number", "text"]
theorem sc_read_line : FnScope n_read_line p_read_line (defScope s_read_line) := ⟨rfl, rfl, rfl, by decide +kernel, rfl, by decide +kernel, by decide +kernel⟩

abbrev s_read : Stmt := top 39
abbrev n_read : List Str := ["form", "text", "lines", "line_text"]
abbrev p_read : List Str := ["form", "text"]
theorem sc_read : FnScope n_read p_read (defScope s_read) := ⟨rfl, rfl, rfl, by decide +kernel, rfl, by decide +kernel, by decide +kernel⟩

/-! ### the characters of texts -/
abbrev prc (c : Nat) : Prop := 32 ≤ c ∧ c ≤ 126
theorem wordsR : ∀ d ∈ wordsC, prc d := by decide +kernel
section
variable {f : Fo} (hf : FoOk f)
include hf
theorem olR {i c : Nat} {o : Option Nat} (hi : f.os[i]? = some o) (h : c ∈ ol o) : prc c := by
  cases o with
  | none => cases h
  | some d =>
    have e : c = d := List.mem_singleton.mp h
    rw [e]
    obtain ⟨a, b, _⟩ := hf.ok d (in_sgs hf hi rfl)
    exact ⟨by omega, b⟩
theorem chgR {b m : Mk3} (hm : m.1 ∈ LK4) {c : Nat} (h : c ∈ chg f b m) : prc c := by
  unfold chg at h
  rcases List.mem_append.mp h with h | h
  · unfold chE at h
    split at h
    · exact olR hf (i := 6) rfl h
    · cases h
  rcases List.mem_append.mp h with h | h
  · unfold chB at h
    split at h
    · exact olR hf (i := 2) rfl h
    · cases h
  rcases List.mem_append.mp h with h | h
  · unfold chS' at h
    split at h
    · exact olR hf (i := 3) rfl h
    · cases h
  · unfold chO at h
    split at h
    · rcases List.mem_append.mp h with h | h
      · exact olR hf (i := 4) rfl h
      rcases List.mem_append.mp h with h | h
      · rcases LK4_word m.1 hm with z | z
        · rw [z] at h
          have e : cps "" = [] := by decide +kernel
          rw [e] at h
          cases h
        · exact wordsR c (z.1 c h)
      · exact olR hf (i := 5) rfl h
    · cases h
theorem wrR : ∀ {xs : Fc} {b : Mk3}, FitC f xs → ∀ c ∈ wr f b xs, prc c
  | [], b, _, c, h => chgR hf (by simp [NO, LK4]) h
  | (d, m) :: xs, b, hx, c, h => by
    obtain ⟨fm, c32, c126⟩ := hx (d, m) List.mem_cons_self
    have h' : c ∈ chg f b m ++ (esc f d ++ wr f m xs) := h
    rcases List.mem_append.mp h' with h | h
    · exact chgR hf fm.k h
    rcases List.mem_append.mp h with h | h
    · unfold esc at h
      have d10 : c ∈ [d] → prc c := fun z => by
        rw [List.mem_singleton.mp z]
        exact ⟨c32, c126⟩
      split at h
      · rcases List.mem_append.mp h with h | h
        · exact olR hf (i := 7) rfl h
        · exact d10 h
      · exact d10 h
    · exact wrR (fun x hx' => hx x (List.mem_cons_of_mem _ hx')) c h
theorem joinR {sep : List Nat} {R : Nat → Prop} (hs : ∀ c ∈ sep, R c) : ∀ {ps : List (List Nat)}, (∀ p ∈ ps, ∀ c ∈ p, R c) → ∀ c ∈ joinL sep ps, R c
  | [], _, c, h => by cases h
  | [p], hp, c, h => hp p (by simp) c h
  | p :: q :: r, hp, c, h => by
    have h' : c ∈ p ++ (sep ++ joinL sep (q :: r)) := h
    rcases List.mem_append.mp h' with h | h
    · exact hp p (by simp) c h
    rcases List.mem_append.mp h with h | h
    · exact hs c h
    · exact joinR hs (fun p hp' => hp p (List.mem_cons_of_mem _ hp')) c h
theorem lnTR {l : Fln} (fl : FitL f l) : ∀ c ∈ lnT f l, prc c := fun c h => by
  rcases List.mem_append.mp h with h | h
  · obtain ⟨p, hp, h⟩ := List.mem_flatten.mp h
    rw [(List.mem_replicate.mp hp).2] at h
    exact olR hf (i := 1) rfl h
  · refine joinR hf (fun c h => olR hf (i := 0) rfl h) (fun p hp => ?_) c h
    obtain ⟨xs, hx, rfl⟩ := List.mem_map.mp hp
    exact wrR hf (fl.c xs hx)
abbrev trc (c : Nat) : Prop := c = 10 ∨ prc c
theorem txTR {m : Fm} (fm : ∀ l ∈ m, FitL f l) : ∀ c ∈ txT f m, trc c := by
  refine joinR hf (fun c h => .inl (List.mem_singleton.mp h)) fun p hp c hc => ?_
  obtain ⟨l, hl, rfl⟩ := List.mem_map.mp hp
  exact .inr (lnTR hf (fm l hl) c hc)
theorem swR {e w : Bool} {l r : List Nat} (h : SwT f e w l r) : (∀ c ∈ l, trc c) → ∀ c ∈ r, trc c := by
  induction h with
  | nil => intro _ c h; cases h
  | cons c _ ih =>
    intro hl d hd
    rcases List.mem_cons.mp hd with rfl | hd
    · exact hl d List.mem_cons_self
    · exact ih (fun x hx => hl x (List.mem_cons_of_mem _ hx)) d hd
  | pair x c hx _ _ ih =>
    intro hl d hd
    have xr : trc x := by
      have q : x ∈ f.sgs := by
        rcases hx with hx | hx
        · exact in_sgs hf (i := 2) rfl hx
        · exact in_sgs hf (i := 3) rfl hx
      obtain ⟨a, b, _⟩ := hf.ok x q
      exact .inr ⟨by omega, b⟩
    rcases List.mem_cons.mp hd with rfl | hd
    · exact xr
    rcases List.mem_cons.mp hd with rfl | hd
    · exact xr
    rcases List.mem_cons.mp hd with rfl | hd
    · exact hl d List.mem_cons_self
    · exact ih (fun x hx => hl x (List.mem_cons_of_mem _ hx)) d hd
end
theorem sp_mem {c : Nat} : ∀ (l : List Nat), ∀ p ∈ sp c l, ∀ d ∈ p, d ∈ l ∧ d ≠ c
  | [], p, hp, d, hd => by
    rw [List.mem_singleton.mp hp] at hd
    cases hd
  | x :: l, p, hp, d, hd => by
    have ih := sp_mem (c := c) l
    unfold sp at hp
    by_cases e : x = c
    · rw [if_pos e] at hp
      rcases List.mem_cons.mp hp with rfl | hp
      · cases hd
      · obtain ⟨a, b⟩ := ih p hp d hd
        exact ⟨List.mem_cons_of_mem _ a, b⟩
    · rw [if_neg e] at hp
      cases q : sp c l with
      | nil => exact absurd q (sp_ne c l)
      | cons y r =>
        rw [q] at hp ih
        rcases List.mem_cons.mp hp with rfl | hp
        · rcases List.mem_cons.mp hd with rfl | hd
          · exact ⟨List.mem_cons_self, e⟩
          · obtain ⟨a, b⟩ := ih y List.mem_cons_self d hd
            exact ⟨List.mem_cons_of_mem _ a, b⟩
        · obtain ⟨a, b⟩ := ih p (List.mem_cons_of_mem _ hp) d hd
          exact ⟨List.mem_cons_of_mem _ a, b⟩
theorem sp_len (c : Nat) : ∀ l : List Nat, (sp c l).length ≤ l.length + 1
  | [] => Nat.le_refl _
  | x :: l => by
    have ih := sp_len c l
    unfold sp
    split
    · rw [List.length_cons, List.length_cons]; omega
    · cases q : sp c l with
      | nil => exact absurd q (sp_ne c l)
      | cons y r =>
        rw [q] at ih
        rw [List.length_cons] at ih ⊢
        rw [List.length_cons]
        omega
theorem sp_part (c : Nat) : ∀ l : List Nat, ∀ p ∈ sp c l, p.length ≤ l.length
  | [], p, hp => by
    rw [List.mem_singleton.mp hp]
    exact Nat.le_refl _
  | x :: l, p, hp => by
    have ih := sp_part c l
    unfold sp at hp
    split at hp
    · rcases List.mem_cons.mp hp with rfl | hp
      · exact Nat.zero_le _
      · exact Nat.le_trans (ih p hp) (by rw [List.length_cons]; omega)
    · cases q : sp c l with
      | nil => exact absurd q (sp_ne c l)
      | cons y r =>
        rw [q] at hp ih
        rcases List.mem_cons.mp hp with rfl | hp
        · have := ih y List.mem_cons_self
          rw [List.length_cons, List.length_cons]
          omega
        · exact Nat.le_trans (ih p (List.mem_cons_of_mem _ hp)) (by rw [List.length_cons]; omega)
theorem cut_tail {x : Str} {d : Nat} (h : d ≤ x.length) : cps (cutS x (some (d : Int)) none) = (cps x).drop d := by
  show ((x.cps.toList.drop (HT.sIx x.length 0 (some (d : Int)))).take (x.length - HT.sIx x.length 0 (some (d : Int)))) = _
  rw [HT.sIx_nat, Nat.min_eq_left h, List.take_of_length_le (by rw [List.length_drop, Array.length_toList]; exact Nat.le_refl _)]
theorem sl_sK {K : PySem.W.Frag} {H : Hp} {Q : VK} {z : Str} {lo hi : Option Int} (h : z.length ≤ sizeLine) (q : Q (.str (cutS z lo hi)) H) : rSlU K (.str z) lo hi H Q := ⟨.inr (.inr ⟨z, rfl, h, q⟩)⟩
def spRLine (K : PySem.W.Frag) : Sp := fun vs H Q _ => ∃ (a : Addr) (f : Fo) (n : Int) (x : Str) (l : Fln), vs = [.ref a, .int n, .str x] ∧ SqT K H a (strV f.strs) ∧ FoOk f ∧ x.length ≤ 1500000 ∧ RL f (cps x) l ∧ (∀ c ∈ cps x, prc c) ∧ l.2.length ≤ 12 ∧ ∀ p H', Gr H H' → Dd K H' (.ref p) (liD l) → Q (.ref p) H'
def spRead (K : PySem.W.Frag) : Sp := fun vs H Q _ => ∃ (a : Addr) (f : Fo) (x : Str) (m : Fm), vs = [.ref a, .str x] ∧ SqT K H a (strV f.strs) ∧ FoOk f ∧ x.length ≤ 1500000 ∧ All2 (RL f) (sp 10 (cps x)) m ∧ (∀ c ∈ cps x, trc c) ∧ m.length ≤ 200 ∧ (∀ l ∈ m, l.2.length ≤ 12) ∧ ∀ p H', Gr H H' → Dd K H' (.ref p) (coD m) → Q (.ref p) H'
section
variable {P : Program} {w : World} {K : PySem.W.Frag} {mg : Str → Option Value} {base : Heap}
theorem ok_rline {fd : FuncData} (F : FnP K "read_line" s_read_line fd) (T : TD K mg) (D_read_depth : Df P w K mg base "read_depth" 1 p_read_depth (spDepth K)) (D_CellsReader : Cf P w K mg base (CR K) "CellsReader" 2 p_CellsReader____init__ (spInit K))
    (D_CellsReader__take : Mf P w K mg base (CR K) "take" 5 p_CellsReader__take (spMc K step)) (D_CellsReader__finished : Mf P w K mg base (CR K) "finished" 3 p_CellsReader__finished (spFin K)) : FnOk P w K mg base CX0 6 (He.fAd K ("read_line", none)) fd p_read_line (spRLine K) := by
  refine okP F sc_read_line (fun vs H Q E h => by obtain ⟨a, f, n, x, l, rfl, _⟩ := h; rfl) (fun A outer s H vs Q E hr h => ?_)
  obtain ⟨a, f, n, x, l, rfl, hS, hf, hx, rl, hc, l12, k⟩ := h
  have xl : (cps x).length = x.length := cps_len x
  have dl := dep_le (o := f.le) (cps x)
  have d6 := rl.d6
  have ed := rl.d
  obtain ⟨t, ht, et⟩ := rl.r
  refine ⟨_, (pss_cons (ps_set (i := 3) sc_read_line.nd rfl (by first | exact Or.inl rfl | exact Or.inr rfl) (pe_fn D_read_depth hr (by decide) rfl (pa_cons (pv 0) (pa_cons (pv 1) (pa_cons (pv 2) pa_nil)))))
      (pss_cons (ps_set (i := 4) sc_read_line.nd rfl (by first | exact Or.inl rfl | exact Or.inr rfl) (pe_mk D_CellsReader hr (by decide) rfl (pa_cons (pv 0) (pa_cons (pv 1) (pa_cons (pv 3) pa_nil)))))
      (pss_cons (ps_for PassesOwn.never rfl (pi_str (pe_slice (u_sl (K := K) rfl) (pv 2) (po_some (pv 3)) po_none)) (pg_name (i := 5) sc_read_line.nd rfl (by first | exact Or.inl rfl | exact Or.inr rfl))
      (pss_one (ps_expr (pe_mt T.cl D_CellsReader__take hr (by decide) (pv 4) (pa_cons (pv 5) pa_nil)))))
      (pss_one (ps_ret (pe_tup (pa_cons (pv 3) (pa_cons (pe_mt0 T.cl D_CellsReader__finished hr (by decide) (pv 4)) pa_nil)))))))), ?_⟩
  refine ⟨_, rfl, _, rfl, _, rfl, a, f, _, x, rfl, hS, hx, by omega, ?_⟩
  rw [ed]
  refine ⟨_, rfl, _, rfl, _, rfl, fun r dx hr0 hdx hne => ?_⟩
  have gu : Gr H (upd (upd H dx (.own r)) r (.ins (CR K) dx [])) := (Gr.new hdx).upd' hr0
  refine ⟨r, dx, a, f, n, _, rfl, upd_same, gu.seqT hS, fun v H2 g2 c2 p2 hd2 => ⟨rfl, ?_⟩⟩
  have G2 : Gr H H2 := ((gu.m (S := [r])).trans g2).gr (by simpa using hr0)
  refine ⟨_, rfl, _, rfl, _, rfl, sl_sK (by rw [sizeLine_eq]; omega) ⟨_, rfl, ?_⟩⟩
  have ec : cps (cutS x (some ((l.1 : Nat) : Int)) none) = (cps x).drop l.1 := cut_tail (by omega)
  refine for_S (x := cutS x (some ((l.1 : Nat) : Int)) none) (fun i σ H' => ∃ (o5 : Option V) (s : Rs) (v : Fv), σ = [some (.ref a), some (.int n), some (.str x), some (.int (l.1 : Nat)), some (.ref r), o5] ∧ Gr H H' ∧ H v.cl = none ∧ H v.pl = none ∧ Rd K H' r f s v ∧ run f s (((cps x).drop l.1).drop i) = some t)
    ⟨none, Rs0, v, rfl, G2, gu.free c2, gu.free p2, hd2, ht⟩ ?_ ?_
  · rintro i c σ H' hci ⟨o5, s, v, rfl, g, vc, vp, hd, hrun⟩
    rw [ec] at hci
    have cm : c ∈ cps x := List.mem_of_mem_drop (List.mem_of_getElem? hci)
    have edr : ((cps x).drop l.1).drop i = c :: ((cps x).drop l.1).drop (i + 1) := by
      obtain ⟨hi, e⟩ := List.getElem?_eq_some_iff.mp hci
      rw [← e]
      exact List.drop_eq_getElem_cons hi
    rw [edr] at hrun
    have hrun : (step f s c).bind (fun t => run f t (((cps x).drop l.1).drop (i + 1))) = some t := hrun
    cases e1 : step f s c with
    | none => rw [e1] at hrun; cases hrun
    | some s1 =>
      rw [e1] at hrun
      obtain ⟨dx2, h2⟩ := hd.ex
      refine ⟨_, rfl, r, dx2, _, rfl, h2, (lu_meth _).1, _, rfl, r, f, s, s1, v, c, rfl, hd, hf, (hc c cm).1, (hc c cm).2, e1, fun H3 v3 g3 f1 f2 hd3 => ?_⟩
      have g03 : Gr H H3 := ((g.m (S := [r, v.cl, v.pl])).trans g3).gr (by simp [hr0, vc, vp])
      refine ⟨_, s1, v3, rfl, g03, by rw [f1]; exact vc, ?_, hd3, hrun⟩
      rcases f2 with f2 | f2
      · rw [f2]; exact vp
      · exact g.free f2
  · rintro σ H' ⟨o5, s, v, rfl, g, vc, vp, hd, hrun⟩
    rw [ec, List.drop_length] at hrun
    have est : s = t := Option.some.inj hrun
    subst est
    obtain ⟨dx2, h2⟩ := hd.ex
    refine ⟨_, rfl, _, rfl, r, dx2, _, rfl, h2, (lu_meth _).2.2.2.2.2.2.2.2, r, f, s, v, l.2, rfl, hd, et, l12, fun p H3 g3 d3 => ?_⟩
    have g03 : Gr H H3 := ((g.m (S := [r, v.cl, v.pl])).trans g3).gr (by simp [hr0, vc, vp])
    refine ⟨by show 2 ≤ sizeLine; rw [sizeLine_eq]; decide, fun q hq => ?_⟩
    refine newH hq fun H4 g4 s4 => ?_
    exact k q H4 (g03.trans g4) (dd_line (a := p) s4 (g4.dd _ _ d3))
theorem ok_read {fd : FuncData} (F : FnP K "read" s_read fd) (T : TD K mg) (D_read_line : Df P w K mg base "read_line" 6 p_read_line (spRLine K)) : FnOk P w K mg base CX0 7 (He.fAd K ("read", none)) fd p_read (spRead K) := by
  refine okP F sc_read (fun vs H Q E h => by obtain ⟨a, f, x, m, rfl, _⟩ := h; rfl) (fun A outer s H vs Q E hr h => ?_)
  obtain ⟨a, f, x, m, rfl, hS, hf, hx, ha, hc, l200, lc, k⟩ := h
  have xl : (cps x).length = x.length := cps_len x
  refine ⟨_, (pss_cons (ps_set (i := 2) sc_read.nd rfl (by first | exact Or.inl rfl | exact Or.inr rfl) (pe_lst pa_nil))
      (pss_cons (ps_for PassesOwn.never rfl (k_list (K := K) rfl (pe_split (pv 1) pe_str)) (pg_name (i := 3) sc_read.nd rfl (by first | exact Or.inl rfl | exact Or.inr rfl))
      (pss_cons (ps_if (pt_cmpR (u_eq (K := K) rfl hr.units) (pe_callB (k_len (K := K) rfl) rfl T.b_len (by decide +kernel) (pa_cons (pv 2) pa_nil)) (pe_gl T.c_MOST_LINES rfl) (nomark _))
      (pss_one ps_never)
      pss_nil)
      (pss_one (ps_expr (k_bm (K := K) rfl PySem.F.plainAttrs_list PySem.F.slot_list_append PySem.F.type_list_append mt_append (pv 2) (pa_cons (pe_fn D_read_line hr (by decide) rfl (pa_cons (pv 0) (pa_cons (pe_op (u_add (K := K) rfl) (pe_callB (k_len (K := K) rfl) rfl T.b_len (by decide +kernel) (pa_cons (pv 2) pa_nil)) pe_int) (pa_cons (pv 3) pa_nil)))) pa_nil))))))
      (pss_one (ps_ret (k_tuple (K := K) rfl rfl T.b_tuple (pv 2)))))), ?_⟩
  refine ⟨Nat.zero_le _, fun D hD => ?_⟩
  refine newH hD fun H1 g1 s1 => ?_
  have es : (Txt.split x "\n").map cps = sp 10 (cps x) := split_sp x 10
  have al := ha.len
  refine ⟨_, rfl, ⟨_, rfl⟩, x, "\n", rfl, rfl, by decide +kernel, by rw [sizeLine_eq]; omega, fun L hL => ?_⟩
  generalize Txt.split x "\n" = rows at *
  refine newH hL fun H2 g2 s2 => ?_
  have rl : rows.length = m.length := by
    have q := congrArg List.length es
    rw [List.length_map] at q
    omega
  have nLD : L ≠ D := Ne.symm (ne_of_none s1 hL)
  refine ⟨L, rfl, ⟨_, SqL.of s2⟩, ?_⟩
  refine for_list (K := K) (a := L) (xs := strV rows) (fun i σ H' => ∃ (o3 : Option V) (ys : List V), σ = [some (.ref a), some (.str x), some (.ref D), o3] ∧ Gr H H' ∧ H' L = some (.lst (strV rows)) ∧ H' D = some (.lst ys) ∧ DdAll K H' ys ((m.take i).map liD)) ⟨none, [], rfl, g1.trans g2, s2, g2.lst s1, .nil⟩ ?_ ?_ ?_
  · rintro i σ H' _ ⟨o3, ys, rfl, g, hL', hD', dA⟩
    exact SqL.of hL'
  · rintro i y σ H' hy ⟨o3, ys, rfl, g, hL', hD', dA⟩
    obtain ⟨row, hrow, rfl⟩ := str_at hy
    have il := (List.getElem?_eq_some_iff.mp hrow).1
    have ilm : i < m.length := by omega
    have hl := List.getElem?_eq_getElem ilm
    generalize m[i] = l at hl
    have hp : (sp 10 (cps x))[i]? = some (cps row) := by rw [← es, List.getElem?_map, hrow]; rfl
    have pm := List.mem_of_getElem? hp
    have RLi := ha.get hp hl
    have yl : ys.length = i := by
      rw [ddA_len dA, List.length_map, List.length_take]
      omega
    have rowl : row.length ≤ 1500000 := by
      rw [← cps_len]
      exact Nat.le_trans (sp_part 10 _ _ pm) (by omega)
    have rowc : ∀ c ∈ cps row, prc c := fun c hcc => by
      obtain ⟨h1, h2⟩ := sp_mem _ _ pm c hcc
      rcases hc c h1 with z | z
      · exact absurd z h2
      · exact z
    refine ⟨_, rfl, _, ys.length, rfl, .inl ⟨ys, SqL.of hD', rfl⟩, e_flat rfl ⟨_, rfl, ?_⟩⟩
    have ne : ¬ V.int ((ys.length : Nat) : Int) = V.int 200 := fun z => by
      have := V.int.inj z
      omega
    rw [decide_eq_false ne]
    refine iteF ?_
    refine ⟨_, rfl, .inl ⟨rfl, _, SqL.of hD'⟩, _, rfl, _, rfl, _, ys.length, rfl, .inl ⟨ys, SqL.of hD', rfl⟩, a_ii ⟨_, rfl, a, f, _, row, l, rfl, g.seqT hS, hf, rowl, RLi, rowc, lc l (List.mem_of_getElem? hl), fun p H3 g3 d3 => ?_⟩⟩
    have gN := GrN.upd (ys := ys ++ [.ref p]) (g3.lst hD')
    refine ⟨D, ys, .ref p, rfl, rfl, g3.lst hD', by rw [yl, sizeLine_eq]; omega, ?_⟩
    refine ⟨_, ys ++ [.ref p], rfl, ((g.trans g3).upd' hD), ?_, upd_same, ?_⟩
    · rw [upd_ne nLD]
      exact g3.lst hL'
    · rw [take_snoc hl]
      exact ddA_lines (gN.ddA _ _ (nl_lis _) (g3.ddA _ _ dA)) (gN.dd _ _ (nl_li _) d3)
  · rintro σ H' ⟨o3, ys, rfl, g, hL', hD', dA⟩
    have sl : (strV rows).length = m.length := by unfold strV; rw [List.length_map]; exact rl
    rw [sl, List.take_length] at dA
    refine ⟨_, rfl, ⟨.inl ⟨D, _, rfl, SqL.of hD', fun t ht => ?_⟩⟩⟩
    refine newH ht fun H2 g2 s2 => ?_
    exact k t H2 (g.trans g2) (.tup (SqT.of s2) (g2.ddA _ _ dA))
end
end Vf
end
section
set_option Elab.async false
set_option linter.all false
set_option maxRecDepth 100000
set_option maxHeartbeats 4000000
namespace Vf
open PySem PySem.Spec PyProof.Rows L2 GxR GenW RZ
abbrev s_is_word : Stmt := top 10
abbrev n_is_word : List Str := ["thing", "character"]
abbrev p_is_word : List Str := ["thing"]
theorem sc_is_word : FnScope n_is_word p_is_word (defScope s_is_word) := ⟨rfl, rfl, rfl, by decide +kernel, rfl, by decide +kernel, by decide +kernel⟩

abbrev s_is_integer : Stmt := top 11
abbrev n_is_integer : List Str := ["thing"]
abbrev p_is_integer : List Str := ["thing"]
theorem sc_is_integer : FnScope n_is_integer p_is_integer (defScope s_is_integer) := ⟨rfl, rfl, rfl, by decide +kernel, rfl, by decide +kernel, by decide +kernel⟩

abbrev s_is_name : Stmt := top 47
abbrev n_is_name : List Str := ["named", "thing"]
abbrev p_is_name : List Str := ["named", "thing"]
theorem sc_is_name : FnScope n_is_name p_is_name (defScope s_is_name) := ⟨rfl, rfl, rfl, by decide +kernel, rfl, by decide +kernel, by decide +kernel⟩

abbrev s_is_maker : Stmt := top 50
abbrev n_is_maker : List Str := ["forms", "thing", "name", "source", "target", "cost"]
abbrev p_is_maker : List Str := ["forms", "thing"]
theorem sc_is_maker : FnScope n_is_maker p_is_maker (defScope s_is_maker) := ⟨rfl, rfl, rfl, by decide +kernel, rfl, by decide +kernel, by decide +kernel⟩

def words : List Nat := ("abcdefghijklmnopqrstuvwxyz0123456789" : Str).cps.toList
def isWs (x : Str) : Bool := decide (1 ≤ x.length ∧ x.length ≤ 12) && x.cps.toList.all fun c => decide (c ∈ words)
def isWd : PyData → Bool
  | .str x => isWs x
  | _ => false
def isIn : PyData → Bool
  | .int _ => true
  | _ => false
def spWord (K : PySem.W.Frag) : Sp := fun vs H Q _ => ∃ (v : V) (d : PyData), vs = [v] ∧ Dd K H v d ∧ (∀ x, d = .str x → x.length ≤ sizeLine) ∧ TabG H (tb K "is_word") ∧ ∀ H', Gr H H' → Q (.bl (isWd d)) H'
def spInt (K : PySem.W.Frag) : Sp := fun vs H Q _ => ∃ (v : V) (d : PyData), vs = [v] ∧ Dd K H v d ∧ Q (.bl (isIn d)) H
/-! ### names of a dict; makers -/
def isNm (ns : List Str) : PyData → Bool
  | .str x => decide (x ∈ ns)
  | _ => false
def isMkr (ns : List Str) : PyData → Bool
  | .tuple [n, .str x, .str y, .int c] => isWd n && (decide (x ∈ ns) && (decide (y ∈ ns) && (!decide (V.str x = V.str y) && (decide ((0 : Int) ≤ c) && decide (c ≤ 1000)))))
  | _ => false
abbrev KeyN (kvs : List (Key × V)) (ns : List Str) : Prop := kvs.map (·.1) = ns.map (fun x => (Sum.inr x : Key))
theorem valV_mem {x : Str} : ∀ {kvs : List (Key × V)} {ns : List Str}, KeyN kvs ns → (valV kvs (Sum.inr x : Key)).isSome = decide (x ∈ ns)
  | [], [], _ => by rw [valV_nil]; rfl
  | [], n :: ns, h => by cases h
  | p :: kvs, [], h => by cases h
  | p :: kvs, n :: ns, h => by
    have h1 : p.1 = Sum.inr n := (List.cons.inj h).1
    have h2 : KeyN kvs ns := (List.cons.inj h).2
    by_cases e : n = x
    · rw [valV_pos (by rw [h1, e]), e]
      exact (decide_eq_true List.mem_cons_self).symm
    · have e1 : ¬ p.1 = (Sum.inr x : Key) := fun z => e (Sum.inr.inj (h1.symm.trans z))
      rw [valV_neg e1, valV_mem h2]
      rw [decide_eq_decide, List.mem_cons]
      exact ⟨.inr, fun z => z.resolve_left (fun q => e q.symm)⟩
def spIsName (K : PySem.W.Frag) : Sp := fun vs H Q _ => ∃ (d : Addr) (kvs : List (Key × V)) (ns : List Str) (v : V) (e : PyData), vs = [.ref d, v] ∧ H d = some (.dK kvs) ∧ KeyN kvs ns ∧ Dd K H v e ∧ Q (.bl (isNm ns e)) H
def spIsMaker (K : PySem.W.Frag) : Sp := fun vs H Q _ => ∃ (d : Addr) (kvs : List (Key × V)) (ns : List Str) (v : V) (e : PyData), vs = [.ref d, v] ∧ H d = some (.dK kvs) ∧ KeyN kvs ns ∧ Dd K H v e ∧ tx e = true ∧ TabG H (tb K "is_word") ∧ ∀ H', Gr H H' → Q (.bl (isMkr ns e)) H'
theorem txA_mem : ∀ {ds : List PyData}, txA ds = true → ∀ d ∈ ds, tx d = true
  | [], _, d, h => by cases h
  | e :: ds, h, d, hd => by
    have h' : (tx e && txA ds) = true := h
    rw [Bool.and_eq_true] at h'
    rcases List.mem_cons.mp hd with rfl | hd
    · exact h'.1
    · exact txA_mem h'.2 d hd
theorem isTup_iff {d : PyData} : isaD "tuple" d = true ↔ ∃ ds, d = .tuple ds := by
  cases d <;> simp [isaD]
theorem isMkr_of {ns : List Str} {n s t c : PyData} (h : isMkr ns (.tuple [n, s, t, c]) = true) : isWd n = true ∧ isNm ns s = true ∧ isNm ns t = true ∧ isIn c = true := by
  unfold isMkr at h
  split at h
  · rename_i a x y i e
    cases e
    simp only [Bool.and_eq_true] at h
    exact ⟨h.1, h.2.1, h.2.2.1, rfl⟩
  · cases h
theorem isMkr_no {ns : List Str} {n s t c : PyData} (h : isWd n = false ∨ isNm ns s = false ∨ isNm ns t = false ∨ isIn c = false) : isMkr ns (.tuple [n, s, t, c]) = false := by
  cases q : isMkr ns (.tuple [n, s, t, c]) with
  | false => rfl
  | true =>
    obtain ⟨h1, h2, h3, h4⟩ := isMkr_of q
    rcases h with h | h | h | h
    · rw [h] at h1; cases h1
    · rw [h] at h2; cases h2
    · rw [h] at h3; cases h3
    · rw [h] at h4; cases h4
theorem isNm_str {ns : List Str} {d : PyData} (h : isNm ns d = true) : ∃ x, d = .str x ∧ x ∈ ns := by
  cases d <;> first | exact ⟨_, rfl, of_decide_eq_true h⟩ | cases h
theorem isIn_int {d : PyData} (h : isIn d = true) : ∃ i, d = .int i := by
  cases d <;> first | exact ⟨_, rfl⟩ | cases h
section
variable {P : Program} {w : World} {K : PySem.W.Frag} {mg : Str → Option Value} {base : Heap}
theorem ok_integer {fd : FuncData} (F : FnP K "is_integer" s_is_integer fd) (T : TD K mg) : FnOk P w K mg base CX0 1 (He.fAd K ("is_integer", none)) fd p_is_integer (spInt K) := by
  refine okP F sc_is_integer (fun vs H Q E h => by obtain ⟨v, d, rfl, _⟩ := h; rfl) (fun A outer s H vs Q E hr h => ?_)
  obtain ⟨v, d, rfl, hd, k⟩ := h
  refine ⟨_, (pss_one (ps_ret (pe_and (pe_callB (call_isD (K := K) rfl) rfl T.b_isinstance (by decide +kernel) (pa_cons (pv 0) (pa_cons (pe_ty (T := "int") rfl T.b_int (by decide +kernel)) pa_nil))) (pe_one (pe_not (pe_callB (call_isD (K := K) rfl) rfl T.b_isinstance (by decide +kernel) (pa_cons (pv 0) (pa_cons (pe_ty (T := "bool") rfl T.b_bool (by decide +kernel)) pa_nil)))))))), ?_⟩
  refine ⟨_, rfl, v, d, "int", rfl, hd, .inr (.inr (.inl rfl)), _, rfl, ite2 (fun h1 => ?_) (fun h1 => ?_)⟩
  · refine ⟨_, rfl, v, d, "bool", rfl, hd, .inr (.inr (.inr (.inl rfl))), _, rfl, ?_⟩
    have e : isIn d = !isaD "bool" d := by
      cases d <;> first | rfl | simp [isaD] at h1
    exact e ▸ k
  · have e : isIn d = false := by
      cases d <;> first | rfl | simp [isaD] at h1
    exact e ▸ k
theorem ok_word {fd : FuncData} (F : FnP K "is_word" s_is_word fd) (T : TD K mg) (TB : TBx K mg base "is_word") : FnOk P w K mg base CX0 2 (He.fAd K ("is_word", none)) fd p_is_word (spWord K) := by
  refine okP F sc_is_word (fun vs H Q E h => by obtain ⟨v, d, rfl, _⟩ := h; rfl) (fun A outer s H vs Q E hr h => ?_)
  obtain ⟨v, d, rfl, hd, hz, hT, k⟩ := h
  refine ⟨_, (pss_cons (ps_if (PW.pt (pw_or (pt_not (pt_val (pe_callB (call_isD (K := K) rfl) rfl T.b_isinstance (by decide +kernel) (pa_cons (pv 0) (pa_cons (pe_ty (T := "str") rfl T.b_str (by decide +kernel)) pa_nil))))) (pw_or1 (pt_not (pt_chain u_le u_le pe_int (pe_callB (k_len (K := K) rfl) rfl T.b_len (by decide +kernel) (pa_cons (pv 0) pa_nil)) (pe_gl T.c_MOST_WORD_CHARACTERS rfl))))))
      (pss_one (ps_ret pe_bl))
      pss_nil)
      (pss_one (ps_ret (pe_allL (own := [1]) (j := 1) hr rfl T.b_all (by decide +kernel) TB rfl (gok_by (N := n_is_word) (sc := defScope s_is_word) (by decide +kernel)) sc_is_word.nd rfl (by simp) (pi_str (pv 0)) (fun _ _ _ _ _ _ hr' => pts_nil) (fun _ _ _ _ _ _ hr' => (pe_cmpR (u_in (K := K) rfl) (pv 1) (pe_gl T.c_WORD_CHARACTERS rfl) (by first | exact nomark _ | rfl))))))), ?_⟩
  refine ⟨_, rfl, v, d, "str", rfl, hd, .inr (.inl rfl), _, rfl, ite2 (fun h1 => ?_) (fun h1 => ?_)⟩
  · have e : isWd d = false := by
      cases d <;> first | rfl | simp [isaD] at h1
    exact e ▸ k _ (Gr.refl H)
  obtain ⟨x, rfl⟩ := isStr_iff.mp (show isaD "str" d = true by simpa using h1)
  cases hd
  have hx := hz x rfl
  have no : isWs x = false → Q (.bl false) H := fun e => by
    have q := k H (Gr.refl H)
    rw [show isWd (.str x) = isWs x from rfl, e] at q
    exact q
  have fin : ∀ H', Gr H H' → ∀ b, isWs x = b → Q (.bl b) H' := fun H' g b e => by
    have q := k H' g
    rw [show isWd (.str x) = isWs x from rfl, e] at q
    exact q
  refine ⟨_, rfl, _, _, rfl, ⟨hx, rfl⟩, le_ii ⟨_, rfl, ite2 (fun h1 => le_ii ⟨_, rfl, ?_⟩) (fun h1 => ⟨_, rfl, iteT (no ?_)⟩)⟩⟩
  rotate_left
  · have h1 : ¬ 1 ≤ x.length := fun z => h1 (decide_eq_true (by omega))
    unfold isWs
    rw [decide_eq_false (by omega), Bool.false_and]
  have h1 : 1 ≤ x.length := by have := of_decide_eq_true h1; omega
  by_cases h2 : x.length ≤ 12
  rotate_left
  · have e1 : (decide ((x.length : Int) ≤ 12)) = false := by simp; omega
    rw [e1]
    refine iteT (no ?_)
    unfold isWs
    rw [decide_eq_false (by omega), Bool.false_and]
  have e1 : (decide ((x.length : Int) ≤ 12)) = true := by simp; omega
  rw [e1]
  have eN : isWs x = x.cps.toList.all fun c => decide (c ∈ words) := by
    unfold isWs
    rw [decide_eq_true ⟨h1, h2⟩, Bool.true_and]
  refine iteF ⟨_, rfl, _, rfl, hT, fun H2 hTb => ?_⟩
  have g := Gr.tabb hTb
  refine turns_S (fun i H' => H' = H2 ∧ ∀ c ∈ x.cps.toList.take i, c ∈ words) ⟨rfl, by simp⟩ ?_ ?_
  · rintro i c H' hc ⟨rfl, ha⟩
    refine ⟨_, rfl, in_sign ⟨_, rfl, ite2 (fun h4 => ⟨rfl, ?_⟩) (fun h4 => ?_)⟩⟩
    · intro d hd
      rw [List.take_succ, hc] at hd
      rcases List.mem_append.mp hd with hd | hd
      · exact ha d hd
      · simp only [Option.toList_some, List.mem_singleton] at hd
        subst hd
        exact of_decide_eq_true h4
    · have h4 : c ∉ words := fun z => h4 (decide_eq_true z)
      have e : isWs x = false := by
        rw [eN, List.all_eq_false]
        exact ⟨c, List.mem_of_getElem? hc, by simp [h4]⟩
      exact fin _ g false e
  · rintro H' ⟨rfl, ha⟩
    rw [List.take_length] at ha
    have e : isWs x = true := by
      rw [eN, List.all_eq_true]
      exact fun c hc => by simp [ha c hc]
    exact fin _ g true e
theorem ok_is_name {fd : FuncData} (F : FnP K "is_name" s_is_name fd) (T : TD K mg) : FnOk P w K mg base CX0 1 (He.fAd K ("is_name", none)) fd p_is_name (spIsName K) := by
  refine okP F sc_is_name (fun vs H Q E h => by obtain ⟨d, kvs, ns, v, e, rfl, _⟩ := h; rfl) (fun A outer s H vs Q E hr h => ?_)
  obtain ⟨d, kvs, ns, v, e, rfl, hk, hn, hd, k⟩ := h
  refine ⟨_, (pss_one (ps_ret (pe_and (pe_callB (call_isD (K := K) rfl) rfl T.b_isinstance (by decide +kernel) (pa_cons (pv 1) (pa_cons (pe_ty (T := "str") rfl T.b_str (by decide +kernel)) pa_nil))) (pe_one (pe_cmp (pc_din (hu_of hr) (pv 1) (pv 0)) rfl))))), ?_⟩
  refine ⟨_, rfl, v, e, "str", rfl, hd, .inr (.inl rfl), _, rfl, ite2 (fun h1 => ?_) (fun h1 => ?_)⟩
  · obtain ⟨x, rfl⟩ := isStr_iff.mp h1
    cases hd
    refine ⟨_, rfl, _, rfl, d, _, rfl, DGet.k (k := Sum.inr x) hk, ?_⟩
    rw [valV_mem hn]
    exact k
  · have q : isNm ns e = false := by
      cases e <;> first | rfl | simp [isaD] at h1
    exact q ▸ k
theorem ok_is_maker {fd : FuncData} (F : FnP K "is_maker" s_is_maker fd) (T : TD K mg) (D_is_word : Df P w K mg base "is_word" 2 p_is_word (spWord K)) (D_is_name : Df P w K mg base "is_name" 1 p_is_name (spIsName K)) (D_is_integer : Df P w K mg base "is_integer" 1 p_is_integer (spInt K)) : FnOk P w K mg base CX0 3 (He.fAd K ("is_maker", none)) fd p_is_maker (spIsMaker K) := by
  refine okP F sc_is_maker (fun vs H Q E h => by obtain ⟨d, kvs, ns, v, e, rfl, _⟩ := h; rfl) (fun A outer s H vs Q E hr h => ?_)
  obtain ⟨d, kvs, ns, v, e, rfl, hk, hn, hd, ht, tb, k⟩ := h
  refine ⟨_, (pss_cons (ps_if (PW.pt (pw_or (pt_not (pt_val (pe_callB (call_isD (K := K) rfl) rfl T.b_isinstance (by decide +kernel) (pa_cons (pv 1) (pa_cons (pe_ty (T := "tuple") rfl T.b_tuple (by decide +kernel)) pa_nil))))) (pw_or1 (pt_cmpR (u_ne (K := K) rfl hr.units) (pe_callB (k_len (K := K) rfl) rfl T.b_len (by decide +kernel) (pa_cons (pv 1) pa_nil)) pe_int (nomark _)))))
      (pss_one (ps_ret pe_bl))
      pss_nil)
      (pss_cons (ps_asg (pv 1) (kg_tup 4 (K := K) rfl rfl (pgs_cons (pg_name (i := 2) sc_is_maker.nd rfl (by first | exact Or.inl rfl | exact Or.inr rfl)) (pgs_cons (pg_name (i := 3) sc_is_maker.nd rfl (by first | exact Or.inl rfl | exact Or.inr rfl)) (pgs_cons (pg_name (i := 4) sc_is_maker.nd rfl (by first | exact Or.inl rfl | exact Or.inr rfl)) (pgs_cons (pg_name (i := 5) sc_is_maker.nd rfl (by first | exact Or.inl rfl | exact Or.inr rfl)) pgs_nil))))))
      (pss_cons (ps_if (PW.pt (pw_or (pt_not (pt_val (pe_fn D_is_word hr (by decide) rfl (pa_cons (pv 2) pa_nil)))) (pw_or (pt_not (pt_val (pe_fn D_is_name hr (by decide) rfl (pa_cons (pv 0) (pa_cons (pv 3) pa_nil))))) (pw_or1 (pt_not (pt_val (pe_fn D_is_name hr (by decide) rfl (pa_cons (pv 0) (pa_cons (pv 4) pa_nil)))))))))
      (pss_one (ps_ret pe_bl))
      pss_nil)
      (pss_one (ps_ret (pe_and (pe_cmpR (u_ne (K := K) rfl hr.units) (pv 3) (pv 4) (nomark _)) (pe_and (pe_fn D_is_integer hr (by decide) rfl (pa_cons (pv 5) pa_nil)) (pe_one (pe_chain u_le u_le pe_int (pv 5) (pe_gl T.c_MOST_COST rfl)))))))))), ?_⟩
  refine ⟨_, rfl, v, e, "tuple", rfl, hd, .inl rfl, _, rfl, ite2 (fun h1 => ?_) (fun h1 => ?_)⟩
  · have q : isMkr ns e = false := by
      cases e <;> first | rfl | simp [isaD] at h1
    exact q ▸ k H (Gr.refl H)
  obtain ⟨ds, rfl⟩ := isTup_iff.mp (show isaD "tuple" e = true by simpa using h1)
  obtain ⟨p, xs, rfl, sq, dA⟩ := dd_tup hd
  have xl := ddA_len dA
  refine ⟨_, rfl, _, xs.length, rfl, .inr ⟨_, sq, rfl⟩, n_flat rfl ⟨_, rfl, ite2 (fun h2 => ?_) (fun h2 => ?_)⟩⟩
  · have n4 : ds.length ≠ 4 := fun z => by
      rw [xl, z] at h2
      exact absurd h2 (by decide)
    have q : isMkr ns (.tuple ds) = false := by
      unfold isMkr
      split
      · rename_i e
        cases e
        exact absurd rfl n4
      · rfl
    exact q ▸ k H (Gr.refl H)
  have n4 : ds.length = 4 := by
    rw [← xl]
    have q : decide (V.int ((xs.length : Nat) : Int) = V.int 4) = true := by simpa using h2
    have := V.int.inj (of_decide_eq_true q)
    omega
  obtain ⟨n, s', t, c, rfl⟩ : ∃ a b c d, ds = [a, b, c, d] := by
    match ds, n4 with
    | [a, b, c, d], _ => exact ⟨a, b, c, d, rfl⟩
  have htA : txA [n, s', t, c] = true := by
    have q : (decide (([n, s', t, c] : List PyData).length ≤ 16000000) && txA [n, s', t, c]) = true := ht
    rw [Bool.and_eq_true] at q
    exact q.2
  cases dA with
  | cons dn dA =>
  cases dA with
  | cons dS dA =>
  cases dA with
  | cons dt dA =>
  cases dA with
  | cons dc dA =>
  cases dA
  rename_i vn vs vt vc
  refine ⟨_, rfl, p, _, rfl, sq, rfl, _, _, rfl, _, _, rfl, _, _, rfl, _, _, rfl, rfl, ?_⟩
  have hnx : ∀ x, n = .str x → x.length ≤ sizeLine := fun x e => by
    have q := txA_mem htA n (by simp)
    rw [e] at q
    have q2 : (decide (x.length ≤ 16000000) && PyData.canLay0 (.str x)) = true := q
    rw [Bool.and_eq_true] at q2
    have := of_decide_eq_true q2.1
    rw [sizeLine_eq]
    omega
  refine ⟨_, rfl, vn, n, rfl, dn, hnx, tb, fun H1 g1 => ⟨_, rfl, ite2 (fun h3 => ?_) (fun h3 => ?_)⟩⟩
  · have q : isWd n = false := by simpa using h3
    exact isMkr_no (.inl q) ▸ k H1 g1
  have e1 : isWd n = true := by simpa using h3
  have hk1 : H1 d = some (.dK kvs) := g1.keep hk (fun _ z => by cases z)
  refine ⟨_, rfl, _, rfl, d, kvs, ns, vs, s', rfl, hk1, hn, g1.dd _ _ dS, ⟨_, rfl, ite2 (fun h4 => ?_) (fun h4 => ?_)⟩⟩
  · have q : isNm ns s' = false := by simpa using h4
    exact isMkr_no (.inr (.inl q)) ▸ k H1 g1
  refine ⟨_, rfl, _, rfl, d, kvs, ns, vt, t, rfl, hk1, hn, g1.dd _ _ dt, ⟨_, rfl, ite2 (fun h5 => ?_) (fun h5 => ?_)⟩⟩
  · have q : isNm ns t = false := by simpa using h5
    exact isMkr_no (.inr (.inr (.inl q))) ▸ k H1 g1
  obtain ⟨x, rfl, hx⟩ := isNm_str (show isNm ns s' = true by simpa using h4)
  obtain ⟨y, rfl, hy⟩ := isNm_str (show isNm ns t = true by simpa using h5)
  cases dS
  cases dt
  refine ⟨_, rfl, _, rfl, n_flat rfl ⟨_, rfl, ite2 (fun h6 => ?_) (fun h6 => ?_)⟩⟩
  · refine ⟨_, rfl, vc, c, rfl, g1.dd _ _ dc, ⟨_, rfl, ite2 (fun h7 => ?_) (fun h7 => ?_)⟩⟩
    · obtain ⟨i, rfl⟩ := isIn_int h7
      cases dc
      have fin : isMkr ns (.tuple [n, .str x, .str y, .int i]) = (decide ((0 : Int) ≤ i) && decide (i ≤ 1000)) := by
        show (isWd n && (decide (x ∈ ns) && (decide (y ∈ ns) && (!decide (V.str x = V.str y) && _)))) = _
        rw [e1, decide_eq_true hx, decide_eq_true hy, h6]
        rfl
      rw [fin] at k
      refine ⟨_, rfl, le_ii ⟨_, rfl, ite2 (fun h8 => le_ii ?_) (fun h8 => ?_)⟩⟩
      · rw [h8, Bool.true_and] at k
        exact k H1 g1
      · rw [show decide ((0 : Int) ≤ i) = false by simpa using h8, Bool.false_and] at k
        exact k H1 g1
    · have q : isIn c = false := by simpa using h7
      exact isMkr_no (.inr (.inr (.inr q))) ▸ k H1 g1
  · have q : isMkr ns (.tuple [n, .str x, .str y, c]) = false := by
      have h6 : (!decide (V.str x = V.str y)) = false := by simpa using h6
      cases c <;> first | rfl | skip
      show (isWd n && (decide (x ∈ ns) && (decide (y ∈ ns) && (!decide (V.str x = V.str y) && _)))) = _
      rw [h6, Bool.false_and, Bool.and_false, Bool.and_false, Bool.and_false]
    exact q ▸ k H1 g1
end
end Vf
end
section
set_option Elab.async false
set_option linter.all false
set_option maxRecDepth 100000
set_option maxHeartbeats 4000000
/-! Own layer: dict comprehensions; dicts and sequences of tuples. -/
namespace Vf
open PySem PySem.Spec PyProof.Rows L2 GxR GenW RZ
section
variable {K : PySem.W.Frag} {g : TG} {tt : TT} {tk tv : TE} {vs : List Nat} {σ : L2.St} {H1 : Hp} {D a : Addr} {Qd : Hp → Prop} {xs : List V}
theorem dc_tup (Pv : Nat → Hp → Prop) (h0 : Pv 0 (upd H1 D (.dK []))) (hl : ∀ i H, i ≤ xs.length → Pv i H → SqT K H a xs)
    (hs : ∀ i x H, xs[i]? = some x → Pv i H → g x (wipe σ vs) H fun σ2 H2 => wipe σ2 vs = wipe σ vs ∧ tt σ2 H2 fun b H3 =>
      if b = true then tk σ2 H3 fun y H4 => tv σ2 H4 fun z H5 => ∃ kvs k, y = kV k ∧ H5 D = some (.dK kvs) ∧ kvs.length < sizeLine ∧ Pv (i + 1) (upd H5 D (.dK (putK kvs k z))) else Pv (i + 1) H3) (hd : ∀ H, Pv xs.length H → Qd H) :
    ∃ W : Nat → Nat → Hp → Prop, (∃ m, W 0 m (upd H1 D (.dK []))) ∧ ∀ i m H, W i m H →
      ((Itt K a).stop i H ∧ Qd H) ∨ ((Itt K a).go i H ∧ ∃ Nx : Hp → Prop, (∀ H', Nx H' → ∃ m', m' < m ∧ W (i + 1) m' H') ∧ ∀ x H', (Itt K a).yld i H x H' → g x (wipe σ vs) H' fun σ2 H2 => wipe σ2 vs = wipe σ vs ∧ tt σ2 H2 fun b H3 =>
        if b = true then tk σ2 H3 fun y H4 => tv σ2 H4 fun z H5 => ∃ kvs k, y = kV k ∧ H5 D = some (.dK kvs) ∧ kvs.length < sizeLine ∧ Nx (upd H5 D (.dK (putK kvs k z))) else Nx H3) := by
  refine ⟨fun i m H => m = xs.length - i ∧ i ≤ xs.length ∧ Pv i H, ⟨xs.length, by simp, Nat.zero_le _, h0⟩, ?_⟩
  rintro i m H ⟨rfl, hi, p⟩
  have q := hl i H hi p
  by_cases hlt : i < xs.length
  · refine .inr ⟨⟨xs, xs[i], q, by simp [hlt]⟩, Pv (i + 1), fun H' p' => ⟨xs.length - (i + 1), by omega, rfl, hlt, p'⟩, fun x H' y => ?_⟩
    obtain ⟨e, y⟩ := y
    subst e
    exact hs i x _ (y xs q) p
  · have e : i = xs.length := by omega
    subst e
    exact .inl ⟨⟨xs, q, Nat.le_refl _⟩, hd H p⟩
end
/-! ### dicts of tuples, sequences of tuples -/
section
variable {α : Type}
/-- the dict's items are the things F, by their keys -/
def KB (K : PySem.W.Frag) (key : α → Str) (val : α → List V) (H : Hp) (kvs : List (Key × V)) (F : List α) : Prop := kvs.length = F.length ∧ ∀ (j : Nat) (a : α), F[j]? = some a → ∃ t : Addr, kvs[j]? = some ((Sum.inr (key a) : Key), V.ref t) ∧ SqT K H t (val a)
/-- the sequence's items are the things F -/
def RB (K : PySem.W.Frag) (val : α → List V) (H : Hp) (xs : List V) (F : List α) : Prop := xs.length = F.length ∧ ∀ (j : Nat) (a : α), F[j]? = some a → ∃ t : Addr, xs[j]? = some (V.ref t) ∧ SqT K H t (val a)
variable {K : PySem.W.Frag} {key : α → Str} {val : α → List V} {H H' : Hp} {kvs : List (Key × V)} {F : List α} {xs : List V}
theorem KB.nil : KB K key val H [] [] := ⟨rfl, fun j a e => by simp at e⟩
theorem KB.mono (h : KB K key val H kvs F) (g : ∀ t ys, SqT K H t ys → SqT K H' t ys) : KB K key val H' kvs F := ⟨h.1, fun j a e => by
  obtain ⟨t, e1, e2⟩ := h.2 j a e
  exact ⟨t, e1, g _ _ e2⟩⟩
theorem KB.gr (h : KB K key val H kvs F) (g : Gr H H') : KB K key val H' kvs F := h.mono fun _ _ q => g.seqT q
theorem KB.snoc {t : Addr} {a : α} (h : KB K key val H kvs F) (ht : SqT K H t (val a)) : KB K key val H (kvs ++ [((Sum.inr (key a) : Key), V.ref t)]) (F ++ [a]) := by
  refine ⟨by rw [List.length_append, List.length_append, h.1]; rfl, fun j b e => ?_⟩
  by_cases hj : j < F.length
  · rw [List.getElem?_append_left hj] at e
    obtain ⟨t, e1, e2⟩ := h.2 j b e
    exact ⟨t, by rw [List.getElem?_append_left (by rw [h.1]; exact hj)]; exact e1, e2⟩
  · have je : j = F.length := by
      have := (List.getElem?_eq_some_iff.mp e).1
      rw [List.length_append, List.length_singleton] at this
      omega
    subst je
    rw [List.getElem?_append_right (Nat.le_refl _), Nat.sub_self] at e
    cases e
    exact ⟨t, by rw [List.getElem?_append_right (by rw [h.1]; exact Nat.le_refl _), h.1, Nat.sub_self]; rfl, ht⟩
theorem KB.keys (h : KB K key val H kvs F) : kvs.map (·.1) = (F.map key).map (fun x => (Sum.inr x : Key)) := by
  refine List.ext_getElem? fun j => ?_
  rw [List.getElem?_map, List.getElem?_map, List.getElem?_map]
  cases e : F[j]? with
  | none =>
    have hn : kvs[j]? = none := by
      rw [List.getElem?_eq_none_iff, h.1]
      exact List.getElem?_eq_none_iff.mp e
    rw [hn]; rfl
  | some a =>
    obtain ⟨t, e1, _⟩ := h.2 j a e
    rw [e1]; rfl
theorem valV_at {kvs : List (Key × V)} {k : Key} {v : V} : ∀ {j : Nat}, kvs[j]? = some (k, v) → (∀ i, i < j → ∀ p, kvs[i]? = some p → p.1 ≠ k) → valV kvs k = some v := by
  induction kvs with
  | nil => intro j h; simp at h
  | cons p kvs ih =>
    intro j h hn
    cases j with
    | zero =>
      cases h
      exact valV_pos rfl
    | succ j =>
      rw [valV_neg (hn 0 (Nat.succ_pos j) p rfl)]
      exact ih h fun i hi q hq => hn (i + 1) (by omega) q hq
theorem nodup_at {β : Type} : ∀ {l : List β}, l.Nodup → ∀ {i j : Nat} {x : β}, l[i]? = some x → l[j]? = some x → i = j
  | [], _, i, j, x, h, _ => by simp at h
  | a :: l, nd, i, j, x, h1, h2 => by
    have nd2 := List.nodup_cons.mp nd
    cases i with
    | zero =>
      cases h1
      cases j with
      | zero => rfl
      | succ j => exact absurd (List.mem_of_getElem? (show l[j]? = some a from h2)) nd2.1
    | succ i =>
      cases j with
      | zero =>
        cases h2
        exact absurd (List.mem_of_getElem? (show l[i]? = some a from h1)) nd2.1
      | succ j => rw [nodup_at nd2.2 (show l[i]? = some x from h1) (show l[j]? = some x from h2)]
theorem KB.get (h : KB K key val H kvs F) (nd : (F.map key).Nodup) {a : α} (ha : a ∈ F) : ∃ t : Addr, valV kvs (Sum.inr (key a) : Key) = some (V.ref t) ∧ SqT K H t (val a) := by
  obtain ⟨j, hj⟩ := List.getElem?_of_mem ha
  obtain ⟨t, e1, e2⟩ := h.2 j a hj
  refine ⟨t, valV_at e1 fun i hi p hp => ?_, e2⟩
  have il : i < F.length := by
    have := (List.getElem?_eq_some_iff.mp hj).1
    omega
  obtain ⟨t2, e3, _⟩ := h.2 i F[i] (List.getElem?_eq_getElem il)
  rw [e3] at hp
  cases hp
  intro z
  have q := Sum.inr.inj z
  have q1 : (F.map key)[i]? = some (key a) := by rw [List.getElem?_map, List.getElem?_eq_getElem il]; exact congrArg some q
  have q2 : (F.map key)[j]? = some (key a) := by rw [List.getElem?_map, hj]; rfl
  have := nodup_at nd q1 q2
  omega
theorem putK_new {kvs : List (Key × V)} {k : Key} {v : V} (h : valV kvs k = none) : putK kvs k v = kvs ++ [(k, v)] := by
  unfold putK
  rw [valV_any, h]
  rfl
theorem KB.none (h : KB K key val H kvs F) {x : Str} (hx : ∀ a ∈ F, key a ≠ x) : valV kvs (Sum.inr x : Key) = Option.none := by
  unfold valV
  rw [List.find?_eq_none.mpr ?_]
  · rfl
  · intro p hp
    obtain ⟨j, hj⟩ := List.getElem?_of_mem hp
    have jl : j < F.length := by rw [← h.1]; exact (List.getElem?_eq_some_iff.mp hj).1
    obtain ⟨t, e1, _⟩ := h.2 j F[j] (List.getElem?_eq_getElem jl)
    rw [hj] at e1
    cases e1
    have n := hx F[j] (List.getElem_mem jl)
    simp only [decide_eq_true_eq]
    exact fun z => n (Sum.inr.inj z)
theorem RB.nil : RB K val H [] [] := ⟨rfl, fun j a e => by simp at e⟩
theorem RB.mono (h : RB K val H xs F) (g : ∀ t ys, SqT K H t ys → SqT K H' t ys) : RB K val H' xs F := ⟨h.1, fun j a e => by
  obtain ⟨t, e1, e2⟩ := h.2 j a e
  exact ⟨t, e1, g _ _ e2⟩⟩
theorem RB.gr (h : RB K val H xs F) (g : Gr H H') : RB K val H' xs F := h.mono fun _ _ q => g.seqT q
theorem RB.snoc {t : Addr} {a : α} (h : RB K val H xs F) (ht : SqT K H t (val a)) : RB K val H (xs ++ [V.ref t]) (F ++ [a]) := by
  refine ⟨by rw [List.length_append, List.length_append, h.1]; rfl, fun j b e => ?_⟩
  by_cases hj : j < F.length
  · rw [List.getElem?_append_left hj] at e
    obtain ⟨t, e1, e2⟩ := h.2 j b e
    exact ⟨t, by rw [List.getElem?_append_left (by rw [h.1]; exact hj)]; exact e1, e2⟩
  · have je : j = F.length := by
      have := (List.getElem?_eq_some_iff.mp e).1
      rw [List.length_append, List.length_singleton] at this
      omega
    subst je
    rw [List.getElem?_append_right (Nat.le_refl _), Nat.sub_self] at e
    cases e
    exact ⟨t, by rw [List.getElem?_append_right (by rw [h.1]; exact Nat.le_refl _), h.1, Nat.sub_self]; rfl, ht⟩
theorem RB.at_ (h : RB K val H xs F) {i : Nat} {x : V} (hx : xs[i]? = some x) : ∃ (a : α) (t : Addr), F[i]? = some a ∧ x = .ref t ∧ SqT K H t (val a) := by
  have il : i < F.length := by rw [← h.1]; exact (List.getElem?_eq_some_iff.mp hx).1
  obtain ⟨t, e1, e2⟩ := h.2 i F[i] (List.getElem?_eq_getElem il)
  rw [hx] at e1
  exact ⟨F[i], t, List.getElem?_eq_getElem il, Option.some.inj e1, e2⟩
theorem RB.mem (h : RB K val H xs F) {x : V} (hx : x ∈ xs) : ∃ (a : α) (t : Addr), a ∈ F ∧ x = .ref t ∧ SqT K H t (val a) := by
  obtain ⟨i, hi⟩ := List.getElem?_of_mem hx
  obtain ⟨a, t, e, r⟩ := h.at_ hi
  exact ⟨a, t, List.mem_of_getElem? e, r⟩
end
end Vf
end
section
set_option Elab.async false
set_option linter.all false
set_option maxRecDepth 100000
set_option maxHeartbeats 4000000
namespace Vf
open PySem PySem.Spec PyProof.Rows L2 GxR GenW RZ
abbrev s_named : Stmt := top 52
abbrev n_named : List Str := ["makers", "maker"]
abbrev p_named : List Str := ["makers"]
theorem sc_named : FnScope n_named p_named (defScope s_named) := ⟨rfl, rfl, rfl, by decide +kernel, rfl, by decide +kernel, by decide +kernel⟩

abbrev s_chain_of : Stmt := top 53
abbrev n_chain_of : List Str := ["makers", "names", "by_name", "name"]
abbrev p_chain_of : List Str := ["makers", "names"]
theorem sc_chain_of : FnScope n_chain_of p_chain_of (defScope s_chain_of) := ⟨rfl, rfl, rfl, by decide +kernel, rfl, by decide +kernel, by decide +kernel⟩

abbrev s_made : Stmt := top 51
abbrev n_made : List Str := ["forms", "makers", "names", "content", "chain", "text", "maker"]
abbrev p_made : List Str := ["forms", "makers", "names", "content"]
theorem sc_made : FnScope n_made p_made (defScope s_made) := ⟨rfl, rfl, rfl, by decide +kernel, rfl, by decide +kernel, by decide +kernel⟩

structure Mak where
  n : Str
  s : Str
  t : Str
  c : Int
def makV (m : Mak) : List V := [.str m.n, .str m.s, .str m.t, .int m.c]
def foV (f : Fo) : List V := strV f.strs
theorem keep_keep (fs : List Str) (m : Fm) : keepM fs (keepM fs m) = keepM fs m := by
  unfold keepM
  rw [op_op]
  exact op_congr (fun g _ => Bool.or_self _) m
theorem txT_len {f : Fo} {m : Fm} (fm : ∀ l ∈ m, FitL f l) (h : m.length ≤ 4) : (txT f m).length ≤ 4 * (112170 + 1) := by
  have q := joinL_len (sep := [10]) (b := 112170) (Nat.le_refl 1) (ps := m.map (lnT f)) (fun p hp => by
    obtain ⟨l, hl, rfl⟩ := List.mem_map.mp hp
    exact lnT_len (fm l hl))
  rw [List.length_map] at q
  exact Nat.le_trans q (Nat.mul_le_mul_right _ h)
/-! ### a chain of makers over forms -/
/-- the contents behind each form of the way -/
def wayM (fs : List Fo) (m : Fm) (i : Nat) : Fm := (fs.take (i + 1)).foldl (fun m g => keepM (carF g) m) m
structure Way (F : List Fo) (ch : List Mak) (fs : List Fo) : Prop where
  l : fs.length = ch.length + 1
  m : ∀ f ∈ fs, f ∈ F
  e : ∀ i mk f g, ch[i]? = some mk → fs[i]? = some f → fs[i + 1]? = some g → mk.s = f.name ∧ mk.t = g.name
theorem wayM_zero {f : Fo} {fs : List Fo} {m : Fm} (h : fs[0]? = some f) : wayM fs m 0 = keepM (carF f) m := by
  cases fs with
  | nil => simp at h
  | cons a l => cases h; rfl
theorem wayM_succ {g : Fo} {fs : List Fo} {m : Fm} {i : Nat} (h : fs[i + 1]? = some g) : wayM fs m (i + 1) = keepM (carF g) (wayM fs m i) := by
  unfold wayM
  rw [take_snoc h, List.foldl_append]
  rfl
theorem wayM_len {fs : List Fo} {m : Fm} (i : Nat) : (wayM fs m i).length = m.length := by
  unfold wayM
  generalize fs.take (i + 1) = l
  induction l generalizing m with
  | nil => rfl
  | cons a l ih =>
    rw [List.foldl_cons, ih, keepM_len]
theorem wayM_ok {fs : List Fo} {m : Fm} (h : OkF m) (i : Nat) : OkF (wayM fs m i) := by
  unfold wayM
  generalize fs.take (i + 1) = l
  induction l generalizing m with
  | nil => exact h
  | cons a l ih =>
    rw [List.foldl_cons]
    exact ih (h.op _)
theorem wayM_fit {fs : List Fo} {m : Fm} (h : OkF m) {i : Nat} {g : Fo} (hg : fs[i]? = some g) : ∀ l ∈ wayM fs m i, FitL g l := by
  cases i with
  | zero =>
    rw [wayM_zero hg]
    exact fit_keep h
  | succ i =>
    rw [wayM_succ hg]
    exact fit_keep (wayM_ok h i)
theorem wayM_keep {fs : List Fo} {m : Fm} {i : Nat} {g : Fo} (hg : fs[i]? = some g) : keepM (carF g) (wayM fs m i) = wayM fs m i := by
  cases i with
  | zero => rw [wayM_zero hg, keep_keep]
  | succ i => rw [wayM_succ hg, keep_keep]
def spNamed (K : PySem.W.Frag) : Sp := fun vs H Q _ => ∃ (a : Addr) (xs : List V) (ms : List Mak), vs = [.ref a] ∧ SqT K H a xs ∧ RB K makV H xs ms ∧ (ms.map Mak.n).Nodup ∧ ms.length ≤ 1000 ∧ ∀ d kvs H', Gr H H' → H' d = some (.dK kvs) → KB K Mak.n makV H' kvs ms → Q (.ref d) H'
def spChain (K : PySem.W.Frag) : Sp := fun vs H Q _ => ∃ (a b : Addr) (xs : List V) (ms ch : List Mak), vs = [.ref a, .ref b] ∧ SqT K H a xs ∧ RB K makV H xs ms ∧ (ms.map Mak.n).Nodup ∧ ms.length ≤ 1000 ∧ SqT K H b (strV (ch.map Mak.n)) ∧ (∀ m ∈ ch, m ∈ ms) ∧ ch.length ≤ 1000 ∧ ∀ l ys H', Gr H H' → H' l = some (.lst ys) → RB K makV H' ys ch → Q (.ref l) H'
def spMade (K : PySem.W.Frag) : Sp := fun vs H Q _ => ∃ (d a b : Addr) (v : V) (kvs : List (Key × V)) (F : List Fo) (xs : List V) (ms ch : List Mak) (fs : List Fo) (m : Fm) (g : Fo), vs = [.ref d, .ref a, .ref b, v] ∧ H d = some (.dK kvs) ∧ KB K Fo.name foV H kvs F ∧ (F.map Fo.name).Nodup ∧ (∀ f ∈ F, FoOk f) ∧
  SqT K H a xs ∧ RB K makV H xs ms ∧ (ms.map Mak.n).Nodup ∧ ms.length ≤ 1000 ∧ SqT K H b (strV (ch.map Mak.n)) ∧ (∀ m ∈ ch, m ∈ ms) ∧ ch.length ≤ 1000 ∧ ch ≠ [] ∧ Way F ch fs ∧ fs[ch.length]? = some g ∧ Dd K H v (coD m) ∧ OkF m ∧ m.length ≤ 4 ∧
  ∀ (t : Str) H', cps t = txT g (wayM fs m ch.length) → Gr H H' → Q (.str t) H'
section
variable {P : Program} {w : World} {K : PySem.W.Frag} {mg : Str → Option Value} {base : Heap}
theorem ok_named {fd : FuncData} (F : FnP K "named" s_named fd) (T : TD K mg) : FnOk P w K mg base CX0 1 (He.fAd K ("named", none)) fd p_named (spNamed K) := by
  refine okP F sc_named (fun vs H Q E h => by obtain ⟨a, xs, ms, rfl, _⟩ := h; rfl) (fun A outer s H vs Q E hr h => ?_)
  obtain ⟨a, xs, ms, rfl, hS, hR, nd, hl, k⟩ := h
  refine ⟨_, (pss_one (ps_ret (pe_dc (own := [("maker", 1)]) (g := gName 1) (tt := tYes) rfl sc_named.nd (k_tup (K := K) rfl (pv 0)) (blkOk_by (own := [("maker", 1)]) (N := n_named) (sc := defScope s_named) (by decide +kernel)) (fun _ _ _ _ _ => (pg_name (i := 1) sc_named.nd rfl (by first | exact Or.inl rfl | exact Or.inr rfl))) (fun _ _ _ _ _ => pts_nil) (fun _ _ _ _ _ => (pe_ix (u_ix (K := K) rfl) (pv 1) (pe_gl T.c_NAME rfl) (fun _ _ => rfl))) (fun _ _ _ _ _ => (pv 1))))), ?_⟩
  refine ⟨_, rfl, a, rfl, ⟨_, hS⟩, fun D hD => ?_⟩
  refine dc_tup (K := K) (a := a) (xs := xs) (fun i H' => ∃ kvs, Gr H H' ∧ H' D = some (.dK kvs) ∧ KB K Mak.n makV H' kvs (ms.take i)) ⟨[], Gr.new hD, upd_same, KB.nil⟩ ?_ ?_ ?_
  · rintro i H' _ ⟨kvs, g, _⟩
    exact g.seqT hS
  · rintro i x H' hx ⟨kvs, g, hk, hK⟩
    obtain ⟨m, t, hm, rfl, st⟩ := hR.at_ hx
    have il := (List.getElem?_eq_some_iff.mp hm).1
    have kl : kvs.length = i := by
      rw [hK.1, List.length_take]
      omega
    have st' := g.seqT st
    refine ⟨rfl, ?_⟩
    refine ⟨_, rfl, x_t st' rfl ⟨_, rfl, kvs, Sum.inr m.n, rfl, hk, by rw [kl, sizeLine_eq]; omega, ?_⟩⟩
    have hn : valV kvs (Sum.inr m.n : Key) = none := hK.none fun b hb z => by
      obtain ⟨j, hj⟩ := List.getElem?_of_mem hb
      rw [List.getElem?_take] at hj
      split at hj
      · rename_i hji
        have q1 : (ms.map Mak.n)[j]? = some m.n := by rw [List.getElem?_map, hj]; exact congrArg some z
        have q2 : (ms.map Mak.n)[i]? = some m.n := by rw [List.getElem?_map, hm]; rfl
        have := nodup_at nd q1 q2
        omega
      · cases hj
    rw [putK_new hn]
    have gu : ∀ t ys, SqT K H' t ys → SqT K (upd H' D (.dK (kvs ++ [(Sum.inr m.n, .ref t)]))) t ys → True := fun _ _ _ _ => trivial
    have keepT : ∀ {o : HO} (t : Addr) (ys : List V), SqT K H' t ys → SqT K (upd H' D o) t ys := fun t ys q => by
      rcases q with (q | ⟨o, q⟩) | q
      · have n : t ≠ D := fun z => by rw [z, hk] at q; cases q
        exact .inl (.inl (by rw [upd_ne n]; exact q))
      · have n : t ≠ D := fun z => by rw [z, hk] at q; cases q
        exact .inl (.inr ⟨o, by rw [upd_ne n]; exact q⟩)
      · exact .inr q
    refine ⟨_, g.upd' hD, upd_same, ?_⟩
    rw [take_snoc hm]
    exact (hK.mono keepT).snoc (keepT _ _ st')
  · rintro H' ⟨kvs, g, hk, hK⟩
    rw [hR.1, List.take_length] at hK
    exact k D kvs H' g hk hK
theorem ok_chain {fd : FuncData} (F : FnP K "chain_of" s_chain_of fd) (T : TD K mg) (D_named : Df P w K mg base "named" 1 p_named (spNamed K)) : FnOk P w K mg base CX0 2 (He.fAd K ("chain_of", none)) fd p_chain_of (spChain K) := by
  refine okP F sc_chain_of (fun vs H Q E h => by obtain ⟨a, b, xs, ms, ch, rfl, _⟩ := h; rfl) (fun A outer s H vs Q E hr h => ?_)
  obtain ⟨a, b, xs, ms, ch, rfl, hS, hR, nd, hl, hB, hin, hc, k⟩ := h
  refine ⟨_, (pss_cons (ps_set (i := 2) sc_chain_of.nd rfl (by first | exact Or.inl rfl | exact Or.inr rfl) (pe_fn D_named hr (by decide) rfl (pa_cons (pv 0) pa_nil)))
      (pss_one (ps_ret (pe_lc (own := [("name", 3)]) (g := gName 3) (tt := tYes) rfl sc_chain_of.nd (k_tup (K := K) rfl (pv 1)) (blkOk_by (own := [("name", 3)]) (N := n_chain_of) (sc := defScope s_chain_of) (by decide +kernel)) (fun _ _ _ _ _ => (pg_name (i := 3) sc_chain_of.nd rfl (by first | exact Or.inl rfl | exact Or.inr rfl))) (fun _ _ _ _ _ => pts_nil) (fun _ _ _ _ _ => (pe_dget (hu_of hr) (pv 2) (pv 3) (fun _ _ => rfl))))))), ?_⟩
  refine ⟨_, rfl, a, xs, ms, rfl, hS, hR, nd, hl, fun d kvs H1 g1 hk hK => ?_⟩
  refine ⟨_, rfl, b, rfl, ⟨_, g1.seqT hB⟩, fun D hD => ?_⟩
  refine lc_tup (K := K) (a := b) (xs := strV (ch.map Mak.n)) (fun i H' => ∃ ys, Gr H1 H' ∧ H' D = some (.lst ys) ∧ RB K makV H' ys (ch.take i)) ⟨[], Gr.new hD, upd_same, RB.nil⟩ ?_ ?_ ?_
  · rintro i H' _ ⟨ys, g, _⟩
    exact g.seqT (g1.seqT hB)
  · rintro i x H' hx ⟨ys, g, hL, hY⟩
    obtain ⟨z, hz, rfl⟩ := strV_get hx
    rw [List.getElem?_map] at hz
    obtain ⟨m, hm, rfl⟩ : ∃ m, ch[i]? = some m ∧ z = m.n := by
      cases q : ch[i]? with
      | none => rw [q] at hz; cases hz
      | some m => rw [q] at hz; exact ⟨m, rfl, (Option.some.inj hz).symm⟩
    have il := (List.getElem?_eq_some_iff.mp hm).1
    obtain ⟨t, e1, st⟩ := hK.get nd (hin m (List.mem_of_getElem? hm))
    have hk' : H' d = some (.dK kvs) := g.keep hk (fun _ z => by cases z)
    have yl : ys.length = i := by
      rw [hY.1, List.length_take]
      omega
    refine ⟨rfl, ?_⟩
    refine ⟨_, rfl, _, rfl, d, _, rfl, e1 ▸ DGet.k (k := Sum.inr m.n) hk', ys, hL, by rw [yl, sizeLine_eq]; omega, ys ++ [.ref t], g.upd' hD, upd_same, ?_⟩
    have keepT : ∀ {o : HO} (t : Addr) (zs : List V), SqT K H' t zs → SqT K (upd H' D o) t zs := fun t zs q => by
      rcases q with (q | ⟨o, q⟩) | q
      · have n : t ≠ D := fun z => by rw [z, hL] at q; cases q
        exact .inl (.inl (by rw [upd_ne n]; exact q))
      · have n : t ≠ D := fun z => by rw [z, hL] at q; cases q
        exact .inl (.inr ⟨o, by rw [upd_ne n]; exact q⟩)
      · exact .inr q
    rw [take_snoc hm]
    exact (hY.mono keepT).snoc (keepT _ _ (g.seqT st))
  · rintro H' ⟨ys, g, hL, hY⟩
    have e : (strV (ch.map Mak.n)).length = ch.length := by unfold strV; rw [List.length_map, List.length_map]
    rw [e, List.take_length] at hY
    exact k D ys H' (g1.trans g) hL hY
theorem ok_made {fd : FuncData} (F : FnP K "made" s_made fd) (T : TD K mg) (D_chain_of : Df P w K mg base "chain_of" 2 p_chain_of (spChain K)) (D_write : Df P w K mg base "write" 6 p_write (spWrite K)) (D_read : Df P w K mg base "read" 7 p_read (spRead K)) : FnOk P w K mg base CX0 8 (He.fAd K ("made", none)) fd p_made (spMade K) := by
  refine okP F sc_made (fun vs H Q E h => by obtain ⟨d, a, b, v, kvs, Fs, xs, ms, ch, fs, m, g, rfl, _⟩ := h; rfl) (fun A outer s H vs Q E hr h => ?_)
  obtain ⟨d, a, b, v, kvs, Fs, xs, ms, ch, fs, m, gl, rfl, hk, hK, ndF, okF, hS, hR, nd, hl, hB, hin, hc, hne, way, hgl, hd, ok, l4, k⟩ := h
  have wl := way.l
  have chp : 0 < ch.length := List.length_pos_iff.mpr hne
  have fget : ∀ i, i ≤ ch.length → ∃ f, fs[i]? = some f ∧ f ∈ Fs := fun i hi => ⟨fs[i]'(by omega), List.getElem?_eq_getElem (by omega), way.m _ (List.getElem_mem _)⟩
  refine ⟨_, (pss_cons (ps_set (i := 4) sc_made.nd rfl (by first | exact Or.inl rfl | exact Or.inr rfl) (pe_fn D_chain_of hr (by decide) rfl (pa_cons (pv 1) (pa_cons (pv 2) pa_nil))))
      (pss_cons (ps_set (i := 5) sc_made.nd rfl (by first | exact Or.inl rfl | exact Or.inr rfl) (pe_fn D_write hr (by decide) rfl (pa_cons (pe_dget (hu_of hr) (pv 0) (pe_ix (u_ix (K := K) rfl) (pe_ix (u_ix (K := K) rfl) (pv 4) pe_int (fun _ _ => rfl)) (pe_gl T.c_SOURCE rfl) (fun _ _ => rfl)) (fun _ _ => rfl)) (pa_cons (pv 3) pa_nil))))
      (pss_cons (ps_for PassesOwn.never rfl (k_list (K := K) rfl (pv 4)) (pg_name (i := 6) sc_made.nd rfl (by first | exact Or.inl rfl | exact Or.inr rfl))
      (pss_one (ps_set (i := 5) sc_made.nd rfl (by first | exact Or.inl rfl | exact Or.inr rfl) (pe_fn D_write hr (by decide) rfl (pa_cons (pe_dget (hu_of hr) (pv 0) (pe_ix (u_ix (K := K) rfl) (pv 6) (pe_gl T.c_TARGET rfl) (fun _ _ => rfl)) (fun _ _ => rfl)) (pa_cons (pe_fn D_read hr (by decide) rfl (pa_cons (pe_dget (hu_of hr) (pv 0) (pe_ix (u_ix (K := K) rfl) (pv 6) (pe_gl T.c_SOURCE rfl) (fun _ _ => rfl)) (fun _ _ => rfl)) (pa_cons (pv 5) pa_nil))) pa_nil))))))
      (pss_one (ps_ret (pv 5)))))), ?_⟩
  refine ⟨_, rfl, _, rfl, a, b, xs, ms, ch, rfl, hS, hR, nd, hl, hB, hin, hc, fun L ys H1 g1 hL hY => ?_⟩
  have look : ∀ {H' : Hp} {f : Fo}, Gr H H' → f ∈ Fs → ∃ t : Addr, DGet H' d (.str f.name) (some (.ref t)) ∧ SqT K H' t (strV f.strs) := fun g hf => by
    obtain ⟨t, e1, st⟩ := hK.get ndF hf
    exact ⟨t, e1 ▸ DGet.k (k := Sum.inr _) (g.keep hk (fun _ z => by cases z)), g.seqT st⟩
  obtain ⟨f0, hf0, if0⟩ := fget 0 (Nat.zero_le _)
  obtain ⟨f1, hf1, if1⟩ := fget 1 (by omega)
  have hm0 := List.getElem?_eq_getElem chp
  generalize ch[0] = m0 at hm0
  obtain ⟨e0, _⟩ := way.e 0 m0 f0 f1 hm0 hf0 hf1
  obtain ⟨t0, ht0, st0⟩ := hY.2 0 m0 hm0
  obtain ⟨a0, dg0, sf0⟩ := look g1 if0
  refine ⟨_, rfl, _, rfl, x_l (SqL.of hL) (atI_nat (j := 0) ht0) (x_t st0 rfl ?_)⟩
  refine ⟨d, .ref a0, rfl, by show DGet H1 d (.str m0.s) _; rw [e0]; exact dg0, _, rfl, a0, f0, v, m, rfl, sf0, g1.dd _ _ hd, ok, l4, fun t H2 ct g2 => ?_⟩
  have G2 := g1.trans g2
  refine ⟨_, rfl, L, rfl, ⟨_, SqL.of (g2.lst hL)⟩, ?_⟩
  refine for_list (K := K) (a := L) (xs := ys) (fun i σ H' => ∃ (o6 : Option V) (t : Str) (g : Fo), σ = [some (.ref d), some (.ref a), some (.ref b), some v, some (.ref L), some (.str t), o6] ∧ Gr H2 H' ∧ H' L = some (.lst ys) ∧ fs[i]? = some g ∧ cps t = txT g (wayM fs m i)) ⟨none, t, f0, rfl, Gr.refl _, g2.lst hL, hf0, by rw [ct, wayM_zero hf0]⟩ ?_ ?_ ?_
  · rintro i σ H' _ ⟨o6, t, g, rfl, G, hL', _⟩
    exact SqL.of hL'
  · rintro i y σ H' hy ⟨o6, t, f, rfl, g', hL', hf, ct⟩
    obtain ⟨mk, tk, hmk, rfl, stk⟩ := hY.at_ hy
    have il := (List.getElem?_eq_some_iff.mp hmk).1
    obtain ⟨g, hg, ig⟩ := fget (i + 1) (by omega)
    obtain ⟨es, et⟩ := way.e i mk f g hmk hf hg
    have iff := way.m f (List.mem_of_getElem? hf)
    have stk' : SqT K H' tk (makV mk) := (g2.trans g').seqT stk
    have G : Gr H H' := G2.trans g'
    obtain ⟨ag, dgg, sfg⟩ := look G ig
    obtain ⟨af, dgf, sff⟩ := look G iff
    have fk := wayM_fit ok hf
    have hne' : wayM fs m i ≠ [] := fun z => by
      have q := wayM_len (fs := fs) (m := m) i
      rw [z] at q
      have := ok.l1
      rw [← q] at this
      exact absurd this (by decide)
    have ml := wayM_len (fs := fs) (m := m) i
    have tlen : t.length ≤ 448684 := by
      rw [← cps_len, ct]
      exact txT_len fk (by omega)
    have okf := okF f iff
    refine ⟨_, rfl, _, rfl, x_t stk' rfl ?_⟩
    refine ⟨d, .ref ag, rfl, by show DGet H' d (.str mk.t) _; rw [et]; exact dgg, _, rfl, _, rfl, x_t stk' rfl ?_⟩
    refine ⟨d, .ref af, rfl, by show DGet H' d (.str mk.s) _; rw [es]; exact dgf, _, rfl, af, f, t, wayM fs m i, rfl, sff, okf, by omega, by rw [ct]; exact text_read okf hne' fk, by rw [ct]; exact txTR okf fk, by omega, (fun l hl => (fk l hl).ok.c12), fun p H3 g3 d3 => ?_⟩
    refine ⟨ag, g, .ref p, wayM fs m i, rfl, g3.seqT sfg, d3, wayM_ok ok i, by omega, fun t2 H4 ct2 g4 => ?_⟩
    exact ⟨_, t2, g, rfl, (g'.trans g3).trans g4, (g3.trans g4).lst hL', hg, by rw [ct2, wayM_succ hg]⟩
  · rintro σ H' ⟨o6, t, g, rfl, G, hL', hg, ct⟩
    rw [hY.1] at hg ct
    rw [hgl] at hg
    cases hg
    exact ⟨_, rfl, k t H' ct (G2.trans G)⟩
end
end Vf
end
section
set_option Elab.async false
set_option linter.all false
set_option maxRecDepth 100000
set_option maxHeartbeats 4000000
namespace Vf
open PySem PySem.Spec PyProof.Rows L2 GxR GenW RZ
abbrev s__law_some_forms : Stmt := top 76
abbrev n__law_some_forms : List Str := ["urn", "many", "forms", "names", "name", "features"]
abbrev p__law_some_forms : List Str := ["urn", "many"]
theorem sc__law_some_forms : FnScope n__law_some_forms p__law_some_forms (defScope s__law_some_forms) := ⟨rfl, rfl, rfl, by decide +kernel, rfl, by decide +kernel, by decide +kernel⟩

def NS : List Str := ["star", "a1", "tab", "z", "items", "b2", "grid", "c3", "q", "long1234", "d4", "e5", "note", "x", "y"]
def NSP : List Str := "plain" :: NS
theorem NSP_nd : NSP.Nodup := by decide +kernel
theorem NSP_ok : ∀ x ∈ NSP, x.length ≤ 8 ∧ aS x = true := by decide +kernel
theorem five_ok : ∀ f ∈ five, f.length ≤ 5 ∧ aS f = true := by decide +kernel
def foP : Fo := ⟨"plain", none, none, none, none, none, none, none, none⟩
theorem foP_strs : foP.strs = (["plain", "", "", "", "", "", "", "", ""] : List Str) := rfl
theorem foP_ok : FoOk foP := ⟨by decide +kernel, by decide +kernel, rfl, rfl, fun _ => rfl, by decide +kernel⟩
/-- the forms of the law stand in the dict d -/
structure FsAt (K : PySem.W.Frag) (H : Hp) (d : Addr) (kvs : List (Key × V)) (F : List Fo) : Prop where
  e : H d = some (.dK kvs)
  k : KB K Fo.name foV H kvs F
  n : ∃ i, F.map Fo.name = NSP.take (i + 1)
  o : ∀ f ∈ F, FoOk f
theorem FsAt.nd {K : PySem.W.Frag} {H : Hp} {d : Addr} {kvs : List (Key × V)} {F : List Fo} (h : FsAt K H d kvs F) : (F.map Fo.name).Nodup := by
  obtain ⟨i, e⟩ := h.n
  rw [e]
  exact List.Nodup.sublist (List.take_sublist _ _) NSP_nd
theorem FsAt.ne {K : PySem.W.Frag} {H : Hp} {d : Addr} {kvs : List (Key × V)} {F : List Fo} (h : FsAt K H d kvs F) : F ≠ [] := fun z => by
  obtain ⟨i, e⟩ := h.n
  rw [z] at e
  cases e
theorem FsAt.l {K : PySem.W.Frag} {H : Hp} {d : Addr} {kvs : List (Key × V)} {F : List Fo} (h : FsAt K H d kvs F) : F.length ≤ 16 := by
  obtain ⟨i, e⟩ := h.n
  have q := congrArg List.length e
  rw [List.length_map, List.length_take] at q
  have : NSP.length = 16 := rfl
  omega
theorem FsAt.name {K : PySem.W.Frag} {H : Hp} {d : Addr} {kvs : List (Key × V)} {F : List Fo} (h : FsAt K H d kvs F) : ∀ x ∈ F.map Fo.name, x ∈ NSP := fun x hx => by
  obtain ⟨i, e⟩ := h.n
  rw [e] at hx
  exact List.mem_of_mem_take hx
theorem FsAt.gr {K : PySem.W.Frag} {H H' : Hp} {d : Addr} {kvs : List (Key × V)} {F : List Fo} (h : FsAt K H d kvs F) (g : Gr H H') : FsAt K H' d kvs F := ⟨g.keep h.e (fun _ z => by cases z), h.k.gr g, h.n, h.o⟩
theorem FsAt.gru {K : PySem.W.Frag} {H H' : Hp} {u c d : Addr} {kvs : List (Key × V)} {F : List Fo} (h : FsAt K H d kvs F) (g : GrU u H H') (hu : Urn c H u) : FsAt K H' d kvs F :=
  ⟨g.notu hu h.e (fun _ z => by cases z) (fun _ z => by cases z), h.k.mono fun _ _ q => g.seqT hu q, h.n, h.o⟩
def spSForms (K : PySem.W.Frag) : Sp := fun vs H Q _ => ∃ (u c : Addr) (many : Int), vs = [.ref u, .int many] ∧ Urn c H u ∧ 0 ≤ many ∧ many ≤ 15 ∧ ∀ d kvs F H', FsAt K H' d kvs F → GrU u H H' → Urn c H' u → Q (.ref d) H'
section
variable {P : Program} {w : World} {K : PySem.W.Frag} {mg : Str → Option Value} {base : Heap}
theorem ok_some_forms {fd : FuncData} (F : FnP K "_law_some_forms" s__law_some_forms fd) (T : TD K mg) (D__law_upto : Df P w K mg base "_law_upto" 2 p__law_upto spUpto) (D__law_some_set : Df P w K mg base "_law_some_set" 3 p__law_some_set (spSomeSet K)) (D__law_some_form : Df P w K mg base "_law_some_form" 3 p__law_some_form (spSomeForm K)) : FnOk P w K mg base CX0 4 (He.fAd K ("_law_some_forms", none)) fd p__law_some_forms (spSForms K) := by
  refine okP F sc__law_some_forms (fun vs H Q E h => by obtain ⟨u, c, many, rfl, _⟩ := h; rfl) (fun A outer s H vs Q E hr h => ?_)
  obtain ⟨u, c, many, rfl, hu, hm0, hm, k⟩ := h
  obtain ⟨aP, m_PLAIN, sP⟩ := T.c_PLAIN
  have sl : ∀ {n : Nat}, n ≤ 3000 → n ≤ sizeLine := fun h => by rw [sizeLine_eq]; omega
  obtain ⟨mn, rfl⟩ := Int.eq_ofNat_of_zero_le hm0
  refine ⟨_, (pss_cons (ps_set (i := 2) sc__law_some_forms.nd rfl (by first | exact Or.inl rfl | exact Or.inr rfl) (pe_disp (pps_cons pe_str (pe_ref rfl m_PLAIN) pps_nil) rfl rfl (by simp) (by decide)))
      (pss_cons (ps_set (i := 3) sc__law_some_forms.nd rfl (by first | exact Or.inl rfl | exact Or.inr rfl) (pe_lst (pa_cons pe_str (pa_cons pe_str (pa_cons pe_str (pa_cons pe_str (pa_cons pe_str (pa_cons pe_str (pa_cons pe_str (pa_cons pe_str (pa_cons pe_str (pa_cons pe_str (pa_cons pe_str (pa_cons pe_str (pa_cons pe_str (pa_cons pe_str (pa_cons pe_str pa_nil)))))))))))))))))
      (pss_cons (ps_for PassesOwn.never rfl (k_list (K := K) rfl (pe_slice (u_sl (K := K) rfl) (pv 3) po_none (po_some (pv 1)))) (pg_name (i := 4) sc__law_some_forms.nd rfl (by first | exact Or.inl rfl | exact Or.inr rfl))
      (pss_cons (ps_set (i := 5) sc__law_some_forms.nd rfl (by first | exact Or.inl rfl | exact Or.inr rfl) (pe_fn D__law_some_set hr (by decide) rfl (pa_cons (pv 0) pa_nil)))
      (C8.pss_cut (ps_if (pt_cmpR (u_eq (K := K) rfl hr.units) (pe_fn D__law_upto hr (by decide) rfl (pa_cons (pv 0) (pa_cons pe_int pa_nil))) pe_int (nomark _))
      (pss_one (ps_set (i := 5) sc__law_some_forms.nd rfl (by first | exact Or.inl rfl | exact Or.inr rfl) (pe_tup (pa_cons pe_str (pa_cons pe_str (pa_cons pe_str (pa_cons pe_str (pa_cons pe_str pa_nil))))))))
      pss_nil)
      (pss_one (ps_dput (hu_of hr) (pv 2) (pv 4) (pe_fn D__law_some_form hr (by decide) rfl (pa_cons (pv 0) (pa_cons (pv 4) (pa_cons (pv 5) pa_nil)))) rfl)))))
      (pss_one (ps_ret (pv 2)))))), ?_⟩
  intro d hd
  refine ⟨upd_same, [((Sum.inr "plain" : Key), V.ref aP)], rfl, by show 1 ≤ 15; decide, ?_⟩
  have g1 : Gr H (upd (upd H d (.dK [])) d (.dK (mergeK [] [((Sum.inr "plain" : Key), V.ref aP)]))) := (Gr.new hd).upd' hd
  have s1 : (upd (upd H d (.dK [])) d (.dK (mergeK [] [((Sum.inr "plain" : Key), V.ref aP)]))) d = some (.dK [((Sum.inr "plain" : Key), V.ref aP)]) := upd_same
  generalize upd (upd H d (.dK [])) d (.dK (mergeK [] [((Sum.inr "plain" : Key), V.ref aP)])) = H1 at g1 s1
  refine ⟨sl (by show 15 ≤ 3000; decide), fun L hL => ?_⟩
  refine newH hL fun H2 g2 s2 => ?_
  have s2 : H2 L = some (.lst (strV NS)) := s2
  refine ⟨_, rfl, _, rfl, _, rfl, sl_l (SqL.of s2) fun L2 hL2 => ?_⟩
  refine newH hL2 fun H3 g3 s3 => ?_
  have es : cutV (strV NS) none (some (mn : Int)) = strV (NS.take mn) := by
    show ((strV NS).drop 0).take (HT.sIx (strV NS).length (strV NS).length (some (mn : Int)) - 0) = _
    rw [HT.sIx_nat, List.drop_zero, Nat.sub_zero]
    have e : (strV NS).length = 15 := rfl
    rw [e, Nat.min_eq_left (by omega)]
    unfold strV
    rw [List.map_take]
  rw [es] at s3
  have G3 := (g1.trans g2).trans g3
  have hu3 := hu.gr G3
  have du : d ≠ u := hu.ou hd
  have dc : d ≠ c := hu.oc hd
  have n2 : L2 ≠ u := (hu.gr (g1.trans g2)).ou hL2
  have nLd : L2 ≠ d := Ne.symm (ne_of_none (g2.keep s1 (fun _ z => by cases z)) hL2)
  refine ⟨L2, rfl, ⟨_, SqL.of s3⟩, ?_⟩
  have tl : (NS.take mn).length = mn := by rw [List.length_take]; have : NS.length = 15 := rfl; omega
  refine for_list (K := K) (a := L2) (xs := strV (NS.take mn)) (fun i σ H' => ∃ (o4 o5 : Option V) (kvs : List (Key × V)) (F : List Fo), σ = [some (.ref u), some (.int mn), some (.ref d), some (.ref L), o4, o5] ∧ GrU u H H' ∧ Urn c H' u ∧ H' L2 = some (.lst (strV (NS.take mn))) ∧ H' d = some (.dK kvs) ∧ KB K Fo.name foV H' kvs F ∧ F.map Fo.name = ("plain" : Str) :: NS.take i ∧ ∀ f ∈ F, FoOk f)
    ⟨none, none, _, [foP], rfl, G3.u, hu3, s3, (g2.trans g3).keep s1 (fun _ z => by cases z), KB.nil.snoc (a := foP) (sP _), rfl, fun f hf => by rw [List.mem_singleton.mp hf]; exact foP_ok⟩ ?_ ?_ ?_
  · rintro i σ H' _ ⟨o4, o5, kvs, F, rfl, g, hu', hL', _⟩
    exact SqL.of hL'
  · rintro i x σ H' hx ⟨o4, o5, kvs, F, rfl, g, hu', hL', hk, hK, hF, hok⟩
    obtain ⟨nm, hn, rfl⟩ := strV_get hx
    have il : i < mn := by rw [← tl]; exact (List.getElem?_eq_some_iff.mp hn).1
    have hn2 : NS[i]? = some nm := by
      rw [List.getElem?_take, if_pos il] at hn
      exact hn
    have nmem : nm ∈ NS := List.mem_of_getElem? hn2
    obtain ⟨nl1, nl2⟩ := NSP_ok nm (List.mem_cons_of_mem _ nmem)
    refine ⟨_, rfl, u, c, rfl, hu', fun p fs H4 hfs g4 hu4 s4 => ?_⟩
    refine ⟨fun σ H' => ∃ (p : Addr) (fs : List Str), σ = [some (.ref u), some (.int mn), some (.ref d), some (.ref L), some (.str nm), some (.ref p)] ∧ SqT K H' p (strV fs) ∧ (∀ t ∈ fs, t ∈ five) ∧ GrU u H4 H' ∧ Urn c H' u, ?_, ?_⟩
    · refine ⟨_, rfl, u, c, 2, rfl, hu4, by decide, by decide, fun r H5 _ _ g5 hu5 => e_flat rfl ⟨_, rfl, ite2 (fun _ => ?_) (fun _ => ?_)⟩⟩
      · refine ⟨sl (by show 5 ≤ 3000; decide), fun q hq => ?_⟩
        refine newH hq fun H6 g6 s6 => ?_
        exact ⟨q, five, rfl, SqT.of s6, fun t ht => ht, g5.trans g6.u, hu5.gr g6⟩
      · exact ⟨p, fs, rfl, g5.seqT hu4 s4, hfs, g5, hu5⟩
    rintro σ H5 ⟨p, fs, rfl, sp, hfs, g5, hu5⟩
    refine ⟨_, rfl, _, rfl, _, rfl, u, c, p, nm, fs, rfl, hu5, sp, fun t ht => aS_lay (five_ok t (hfs t ht)).2, fun t ps rs H6 hp pm g6 hu6 ht htu s6 => ?_⟩
    obtain ⟨f, hf, ef⟩ := form_of (n := nm) (fs := fs) hp pm ⟨aS_lay nl2, by omega⟩
    have fn : f.name = nm := by
      have q := congrArg List.head? ef
      exact Option.some.inj q
    have G6 := (g4.trans g5).trans g6
    have hk6 : H6 d = some (.dK kvs) := G6.keep du hk (fun _ z => by cases z)
    have hL6 : H6 L2 = some (.lst (strV (NS.take mn))) := G6.keep n2 hL' (fun _ z => by cases z)
    have hK6 : KB K Fo.name foV H6 kvs F := hK.mono fun _ _ q => g6.seqT hu5 (g5.seqT hu4 (g4.seqT hu' q))
    have kl : kvs.length ≤ 16 := by
      rw [hK.1, ← List.length_map (as := F) Fo.name, hF, List.length_cons, List.length_take]
      have : NS.length = 15 := rfl
      omega
    have hnone : valV kvs (Sum.inr nm : Key) = none := hK.none fun b hb z => by
      have q : nm ∈ F.map Fo.name := List.mem_map.mpr ⟨b, hb, z⟩
      rw [hF] at q
      have nd := List.nodup_cons.mp NSP_nd
      rcases List.mem_cons.mp q with q | q
      · exact nd.1 (by rw [← q]; exact nmem)
      · obtain ⟨j, hj⟩ := List.getElem?_of_mem q
        rw [List.getElem?_take] at hj
        split at hj
        · have := nodup_at nd.2 hj hn2
          omega
        · cases hj
    refine ⟨_, rfl, _, rfl, d, _, rfl, DPut.k (k := Sum.inr nm) hk6 (by rw [sizeLine_eq]; omega), ?_⟩
    rw [putK_new hnone]
    have st : SqT K H6 t (foV f) := by
      unfold foV
      rw [ef]
      exact SqT.of s6
    have keepT : ∀ {o : HO} (t : Addr) (zs : List V), SqT K H6 t zs → SqT K (upd H6 d o) t zs := fun t zs q => by
      rcases q with (q | ⟨o, q⟩) | q
      · have n : t ≠ d := fun z => by rw [z, hk6] at q; cases q
        exact .inl (.inl (by rw [upd_ne n]; exact q))
      · have n : t ≠ d := fun z => by rw [z, hk6] at q; cases q
        exact .inl (.inr ⟨o, by rw [upd_ne n]; exact q⟩)
      · exact .inr q
    refine ⟨_, _, kvs ++ [(Sum.inr nm, .ref t)], F ++ [f], rfl, gruD (g.trans G6) hd, hu6.updD du dc, by rw [upd_ne nLd]; exact hL6, upd_same, ?_, ?_, fun f' hf' => ?_⟩
    · rw [← fn]
      exact (hK6.mono keepT).snoc (keepT _ _ st)
    · rw [List.map_append, hF, take_snoc hn2]
      show _ ++ [f.name] = _
      rw [fn]; rfl
    · rcases List.mem_append.mp hf' with z | z
      · exact hok f' z
      · rw [List.mem_singleton.mp z]
        exact hf
  · rintro σ H' ⟨o4, o5, kvs, F, rfl, g, hu', hL', hk, hK, hF, hok⟩
    exact ⟨_, rfl, k d kvs F H' ⟨hk, hK, ⟨_, hF⟩, hok⟩ g hu'⟩
end
end Vf
end
section
set_option Elab.async false
set_option linter.all false
set_option maxRecDepth 100000
set_option maxHeartbeats 4000000
namespace Vf
open PySem PySem.Spec PyProof.Rows L2 GxR GenW RZ
abbrev s__law_unlike : Stmt := top 78
abbrev n__law_unlike : List Str := ["makers", "found", "maker", "one"]
abbrev p__law_unlike : List Str := ["makers"]
theorem sc__law_unlike : FnScope n__law_unlike p__law_unlike (defScope s__law_unlike) := ⟨rfl, rfl, rfl, by decide +kernel, rfl, by decide +kernel, by decide +kernel⟩

abbrev s__law_some_makers : Stmt := top 77
abbrev n__law_some_makers : List Str := ["urn", "forms", "many", "found", "names", "place", "source", "target", "name"]
abbrev p__law_some_makers : List Str := ["urn", "forms", "many"]
theorem sc__law_some_makers : FnScope n__law_some_makers p__law_some_makers (defScope s__law_some_makers) := ⟨rfl, rfl, rfl, by decide +kernel, rfl, by decide +kernel, by decide +kernel⟩

def costs : List Int := [0, 1, 1, 2, 3, 1000]
structure OkMk (ns : List Str) (m : Mak) : Prop where
  s : m.s ∈ ns
  t : m.t ∈ ns
  d : m.s ≠ m.t
  n : m.n.length ≤ 12 ∧ aS m.n = true
  c : m.c ∈ costs
theorem aS_app {x y : Str} (h1 : aS x = true) (h2 : aS y = true) : aS (x ++ y) = true := by
  refine aS_of fun c hc => ?_
  rw [cps_app] at hc
  have q : ∀ {z : Str}, aS z = true → ∀ c ∈ cps z, c < 128 := fun {z} h c hc => by
    unfold aS at h
    rw [← Array.all_toList, List.all_eq_true] at h
    simpa using h c hc
  rcases List.mem_append.mp hc with hc | hc
  · exact q h1 c hc
  · exact q h2 c hc
theorem aS_sub {x y : Str} (h : aS x = true) (hs : ∀ c ∈ cps y, c ∈ cps x) : aS y = true := by
  refine aS_of fun c hc => ?_
  unfold aS at h
  rw [← Array.all_toList, List.all_eq_true] at h
  simpa using h c (hs c hc)
theorem cut12 (x : Str) : (cutS x none (some 12)).length ≤ 12 ∧ ∀ c ∈ cps (cutS x none (some 12)), c ∈ cps x := by
  have e : cps (cutS x none (some 12)) = ((cps x).drop 0).take (min 12 x.length) := by
    show (x.cps.toList.drop (HT.sIx x.length 0 none)).take (HT.sIx x.length x.length (some ((12 : Nat) : Int)) - HT.sIx x.length 0 none) = _
    rw [HT.sIx_nat, HT.sIx_none, Nat.sub_zero]
  refine ⟨?_, fun c hc => ?_⟩
  · rw [← cps_len, e, List.length_take]
    omega
  · rw [e] at hc
    exact List.mem_of_mem_drop (List.mem_of_mem_take hc)
def spUnlike (K : PySem.W.Frag) : Sp := fun vs H Q _ => ∃ (l : Addr) (xs : List V) (ms : List Mak), vs = [.ref l] ∧ H l = some (.lst xs) ∧ RB K makV H xs ms ∧ ms.length ≤ 100 ∧ ∀ p ys F H', Gr H H' → SqT K H' p ys → RB K makV H' ys F → (F.map Mak.n).Nodup → (∀ m ∈ F, m ∈ ms) → F.length ≤ ms.length → Q (.ref p) H'
def spSMakers (K : PySem.W.Frag) : Sp := fun vs H Q _ => ∃ (u c d : Addr) (kvs : List (Key × V)) (Fs : List Fo), vs = [.ref u, .ref d, .int 14] ∧ Urn c H u ∧ FsAt K H d kvs Fs ∧ ∀ p ys ms H', GrU u H H' → Urn c H' u → SqT K H' p ys → RB K makV H' ys ms → (ms.map Mak.n).Nodup → (∀ m ∈ ms, OkMk (Fs.map Fo.name) m) → ms.length ≤ 14 → Q (.ref p) H'
theorem upd_seqT {K : PySem.W.Frag} {H : Hp} {D : Addr} {zs : List V} {o : HO} (hL : H D = some (.lst zs)) (t : Addr) (ys : List V) (q : SqT K H t ys) : SqT K (upd H D o) t ys := by
  rcases q with (q | ⟨o, q⟩) | q
  · have n : t ≠ D := fun z => by rw [z, hL] at q; cases q
    exact .inl (.inl (by rw [upd_ne n]; exact q))
  · have n : t ≠ D := fun z => by rw [z, hL] at q; cases q
    exact .inl (.inr ⟨o, by rw [upd_ne n]; exact q⟩)
  · exact .inr q
theorem str5 : ∀ r : Fin 5, (toString (r.val : Int) : Str).length ≤ 2 ∧ aS (toString (r.val : Int) : Str) = true := by decide +kernel
section
variable {P : Program} {w : World} {K : PySem.W.Frag} {mg : Str → Option Value} {base : Heap}
theorem ok_unlike {fd : FuncData} (F : FnP K "_law_unlike" s__law_unlike fd) (T : TD K mg) : FnOk P w K mg base CX0 1 (He.fAd K ("_law_unlike", none)) fd p__law_unlike (spUnlike K) := by
  refine okP F sc__law_unlike (fun vs H Q E h => by obtain ⟨l, xs, ms, rfl, _⟩ := h; rfl) (fun A outer s H vs Q E hr h => ?_)
  obtain ⟨l, xs, ms, rfl, hL, hR, hl, k⟩ := h
  have sl : ∀ {n : Nat}, n ≤ 3000 → n ≤ sizeLine := fun h => by rw [sizeLine_eq]; omega
  refine ⟨_, (pss_cons (ps_set (i := 1) sc__law_unlike.nd rfl (by first | exact Or.inl rfl | exact Or.inr rfl) (pe_lst pa_nil))
      (pss_cons (ps_for PassesOwn.never rfl (k_list (K := K) rfl (pv 0)) (pg_name (i := 2) sc__law_unlike.nd rfl (by first | exact Or.inl rfl | exact Or.inr rfl))
      (pss_one (ps_if (pt_cmpR (u_ni (K := K) rfl) (pe_ix (u_ix (K := K) rfl) (pv 2) pe_int (fun _ _ => rfl)) (pe_lc (own := [("one", 3)]) (g := gName 3) (tt := tYes) rfl sc__law_unlike.nd (k_list (K := K) rfl (pv 1)) (blkOk_by (own := [("one", 3)]) (N := n__law_unlike) (sc := defScope s__law_unlike) (by decide +kernel)) (fun _ _ _ _ _ => (pg_name (i := 3) sc__law_unlike.nd rfl (by first | exact Or.inl rfl | exact Or.inr rfl))) (fun _ _ _ _ _ => pts_nil) (fun _ _ _ _ _ => (pe_ix (u_ix (K := K) rfl) (pv 3) pe_int (fun _ _ => rfl)))) (by first | exact nomark _ | rfl))
      (pss_one (ps_expr (k_bm (K := K) rfl PySem.F.plainAttrs_list PySem.F.slot_list_append PySem.F.type_list_append mt_append (pv 1) (pa_cons (pv 2) pa_nil))))
      pss_nil)))
      (pss_one (ps_ret (k_tuple (K := K) rfl rfl T.b_tuple (pv 1)))))), ?_⟩
  refine ⟨Nat.zero_le _, fun D hD => ?_⟩
  refine newH hD fun H1 g1 s1 => ?_
  refine ⟨_, rfl, l, rfl, ⟨_, SqL.of (g1.lst hL)⟩, ?_⟩
  refine for_list (K := K) (a := l) (xs := xs) (fun i σ H' => ∃ (o2 : Option V) (ys : List V) (F : List Mak), σ = [some (.ref l), some (.ref D), o2, none] ∧ Gr H H' ∧ H' D = some (.lst ys) ∧ RB K makV H' ys F ∧ (F.map Mak.n).Nodup ∧ (∀ m ∈ F, m ∈ ms) ∧ F.length ≤ i) ⟨none, [], [], rfl, g1, s1, RB.nil, List.nodup_nil, by simp, Nat.le_refl _⟩ ?_ ?_ ?_
  · rintro i σ H' _ ⟨o2, ys, F, rfl, g, _⟩
    exact SqL.of (g.lst hL)
  · rintro i x σ H' hx ⟨o2, ys, F, rfl, g, hD', hY, nd, hin, hf⟩
    obtain ⟨m, t, hm, rfl, st⟩ := hR.at_ hx
    have il := (List.getElem?_eq_some_iff.mp hm).1
    have st' := g.seqT st
    refine ⟨_, rfl, x_t st' rfl ?_⟩
    refine ⟨_, rfl, D, rfl, ⟨_, SqL.of hD'⟩, fun L hL' => ?_⟩
    refine lc_list (K := K) (a := D) (xs := ys) (fun j H2 => Gr H' H2 ∧ H2 L = some (.lst (strV ((F.map Mak.n).take j)))) ⟨Gr.new hL', upd_same⟩ ?_ ?_ ?_
    · rintro j H2 _ ⟨g2, _⟩
      exact SqL.of (g2.lst hD')
    · rintro j y H2 hy ⟨g2, hL2⟩
      obtain ⟨m2, t2, hm2, rfl, st2⟩ := hY.at_ hy
      have jl := (List.getElem?_eq_some_iff.mp hm2).1
      refine ⟨rfl, ?_⟩
      refine ⟨_, rfl, x_t (g2.seqT st2) rfl ⟨_, hL2, ?_, g2.upd' hL', ?_⟩⟩
      · unfold strV
        rw [List.length_map, List.length_take, List.length_map, sizeLine_eq]
        omega
      · rw [upd_same, take_snoc (show (F.map Mak.n)[j]? = some m2.n by rw [List.getElem?_map, hm2]; rfl)]
        unfold strV
        rw [List.map_append]; rfl
    · rintro H2 ⟨g2, hL2⟩
      rw [hY.1, show F.length = (F.map Mak.n).length from (List.length_map _).symm, List.take_length] at hL2
      refine ni_seq (.inl (SqL.of hL2)) rfl (strV_flat _) ⟨_, rfl, ?_⟩
      have hD2 := g2.lst hD'
      have hY2 := hY.gr g2
      by_cases hmem : m.n ∈ F.map Mak.n
      · rw [inV_str.mpr hmem]
        exact iteF ⟨_, ys, F, rfl, g.trans g2, hD2, hY2, nd, hin, by omega⟩
      · have e : inV (V.str m.n) (strV (F.map Mak.n)) = false := by
          cases q : inV (V.str m.n) (strV (F.map Mak.n)) with
          | false => rfl
          | true => exact absurd (inV_str.mp q) hmem
        have e' : inV ((makV m).getD 0 .non) (strV (F.map Mak.n)) = false := e
        show if (!inV (V.str m.n) (strV (F.map Mak.n))) = true then _ else _
        rw [e]
        refine iteT ⟨_, rfl, .inl ⟨rfl, _, SqL.of hD2⟩, _, rfl, D, ys, .ref t, rfl, rfl, hD2, by rw [hY.1, sizeLine_eq]; omega, ?_⟩
        refine ⟨_, ys ++ [.ref t], F ++ [m], rfl, (g.trans g2).upd' hD, upd_same, (hY2.mono fun t ys q => upd_seqT hD2 t ys q).snoc (upd_seqT hD2 _ _ (g2.seqT st')), ?_, fun b hb => ?_, by rw [List.length_append]; show _ + 1 ≤ _; omega⟩
        · rw [List.map_append]
          refine List.nodup_append.mpr ⟨nd, by simp, fun a ha b hb z => ?_⟩
          rw [List.mem_singleton.mp hb] at z
          exact hmem (z ▸ ha)
        · rcases List.mem_append.mp hb with z | z
          · exact hin b z
          · rw [List.mem_singleton.mp z]
            exact List.mem_of_getElem? hm
  · rintro σ H' ⟨o2, ys, F, rfl, g, hD', hY, nd, hin, hf⟩
    rw [hR.1] at hf
    refine ⟨_, rfl, ⟨.inl ⟨D, _, rfl, SqL.of hD', fun p hp => ?_⟩⟩⟩
    refine newH hp fun H2 g2 s2 => ?_
    exact k p ys F H2 (g.trans g2) (SqT.of s2) (hY.gr g2) nd hin hf
theorem ok_some_makers {fd : FuncData} (F : FnP K "_law_some_makers" s__law_some_makers fd) (T : TD K mg) (D__law_upto : Df P w K mg base "_law_upto" 2 p__law_upto spUpto) (D__law_choice : Df P w K mg base "_law_choice" 3 p__law_choice (spChoice K)) (D__law_unlike : Df P w K mg base "_law_unlike" 1 p__law_unlike (spUnlike K)) : FnOk P w K mg base CX0 4 (He.fAd K ("_law_some_makers", none)) fd p__law_some_makers (spSMakers K) := by
  refine okP F sc__law_some_makers (fun vs H Q E h => by obtain ⟨u, c, d, kvs, Fs, rfl, _⟩ := h; rfl) (fun A outer s H vs Q E hr h => ?_)
  obtain ⟨u, c, d, kvs, Fs, rfl, hu, hF, k⟩ := h
  have sl : ∀ {n : Nat}, n ≤ 3000 → n ≤ sizeLine := fun h => by rw [sizeLine_eq]; omega
  refine ⟨_, (pss_cons (ps_par (i := 3) (j := 4) (by rfl) sc__law_some_makers.nd rfl rfl (by decide) rfl rfl (pa_cons (pe_lst pa_nil) (pa_cons (pe_callTy (call_list_dK rfl) rfl T.b_list (by decide +kernel) (pa_cons (pv 1) pa_nil)) pa_nil)) (by rfl))
      (pss_cons (ps_for PassesOwn.never rfl (pi_range1 rfl T.b_range (pa_cons (pv 2) pa_nil)) (pg_name (i := 5) sc__law_some_makers.nd rfl (by first | exact Or.inl rfl | exact Or.inr rfl))
      (pss_cons (ps_par (i := 6) (j := 7) (by rfl) sc__law_some_makers.nd rfl rfl (by decide) rfl rfl (pa_cons (pe_fn D__law_choice hr (by decide) rfl (pa_cons (pv 0) (pa_cons (pv 4) pa_nil))) (pa_cons (pe_fn D__law_choice hr (by decide) rfl (pa_cons (pv 0) (pa_cons (pv 4) pa_nil))) pa_nil)) (by rfl))
      (pss_one (ps_if (pt_cmpR (u_ne (K := K) rfl hr.units) (pv 6) (pv 7) (nomark _))
      (pss_cons (ps_set (i := 8) sc__law_some_makers.nd rfl (by first | exact Or.inl rfl | exact Or.inr rfl) (pe_op (u_add (K := K) rfl) (pe_op (u_add (K := K) rfl) (pe_fn D__law_choice hr (by decide) rfl (pa_cons (pv 0) (pa_cons (pe_lst (pa_cons pe_str (pa_cons pe_str (pa_cons pe_str pa_nil)))) pa_nil))) (pe_callTy call_strU rfl T.b_str (by decide +kernel) (pa_cons (pe_fn D__law_upto hr (by decide) rfl (pa_cons (pv 0) (pa_cons pe_int pa_nil))) pa_nil))) (pe_op (u_mulX (K := K) rfl) pe_str (pv 5))))
      (pss_one (ps_expr (k_bm (K := K) rfl PySem.F.plainAttrs_list PySem.F.slot_list_append PySem.F.type_list_append mt_append (pv 3) (pa_cons (pe_tup (pa_cons (pe_slice (u_sl (K := K) rfl) (pv 8) po_none (po_some pe_int)) (pa_cons (pv 6) (pa_cons (pv 7) (pa_cons (pe_fn D__law_choice hr (by decide) rfl (pa_cons (pv 0) (pa_cons (pe_lst (pa_cons pe_int (pa_cons pe_int (pa_cons pe_int (pa_cons pe_int (pa_cons pe_int (pa_cons pe_int pa_nil))))))) pa_nil))) pa_nil))))) pa_nil)))))
      pss_nil))))
      (pss_one (ps_ret (pe_fn D__law_unlike hr (by decide) rfl (pa_cons (pv 3) pa_nil)))))), ?_⟩
  refine ⟨Nat.zero_le _, fun D hD => ?_⟩
  refine newH hD fun H1 g1 s1 => ?_
  refine ⟨_, rfl, d, kvs, rfl, (hF.gr g1).e, fun N hN => ?_⟩
  refine newH hN fun H2 g2 s2 => ?_
  have ek : (kvs.map fun kv => kV kv.1) = strV (Fs.map Fo.name) := by
    have q := hF.k.keys
    have q2 := congrArg (List.map kV) q
    rw [List.map_map, List.map_map, List.map_map] at q2
    unfold strV
    rw [List.map_map]
    exact q2
  rw [ek] at s2
  have Du := hu.ou hD
  have Dc := hu.oc hD
  have Nu := (hu.gr g1).ou hN
  have NsD : N ≠ D := Ne.symm (ne_of_none s1 hN)
  have G2 := g1.trans g2
  have fl16 := hF.l
  have nsne : strV (Fs.map Fo.name) ≠ [] := by
    unfold strV
    intro z
    exact hF.ne (List.map_eq_nil_iff.mp (List.map_eq_nil_iff.mp z))
  have nsl : (strV (Fs.map Fo.name)).length < 1073741824 := by unfold strV; rw [List.length_map, List.length_map]; omega
  refine ⟨_, _, rfl, ?_⟩
  refine ⟨_, rfl, 14, rfl, by decide, by decide, ?_⟩
  refine for_range (lo := 0) (n := 14) (fun i σ H' => ∃ (o5 o6 o7 o8 : Option V) (ys : List V) (ms : List Mak), σ = [some (.ref u), some (.ref d), some (.int 14), some (.ref D), some (.ref N), o5, o6, o7, o8] ∧ GrU u H H' ∧ Urn c H' u ∧ H' N = some (.lst (strV (Fs.map Fo.name))) ∧ H' D = some (.lst ys) ∧ RB K makV H' ys ms ∧ (∀ m ∈ ms, OkMk (Fs.map Fo.name) m) ∧ ms.length ≤ i)
    ⟨none, none, none, none, [], [], rfl, G2.u, hu.gr G2, s2, g2.lst s1, RB.nil, by simp, Nat.le_refl _⟩ ?_ ?_
  · rintro i σ H' hi ⟨o5, o6, o7, o8, ys, ms, rfl, g, hu', hN', hD', hY, hok, hl⟩
    refine ⟨_, rfl, _, rfl, u, c, N, _, rfl, hu', Nu, .inl (SqL.of hN'), nsne, nsl, fun x H3 hx g3 hu3 => ?_⟩
    have hN3 := g3.keep Nu hN' (fun _ z => by cases z)
    refine ⟨_, rfl, _, rfl, u, c, N, _, rfl, hu3, Nu, .inl (SqL.of hN3), nsne, nsl, fun y H4 hy g4 hu4 => ?_⟩
    obtain ⟨x, hx2, rfl⟩ := List.mem_map.mp hx
    obtain ⟨y, hy2, rfl⟩ := List.mem_map.mp hy
    refine ⟨_, _, rfl, ?_⟩
    have hN4 := g4.keep Nu hN3 (fun _ z => by cases z)
    have hD4 := g4.keep Du (g3.keep Du hD' (fun _ z => by cases z)) (fun _ z => by cases z)
    have hY4 : RB K makV H4 ys ms := hY.mono fun _ _ q => g4.seqT hu3 (g3.seqT hu' q)
    refine ⟨_, rfl, _, rfl, n_flat rfl ⟨_, rfl, ite2 (fun h1 => ?_) (fun h1 => ?_)⟩⟩
    · have hne : x ≠ y := fun z => by rw [z] at h1; simp at h1
      refine ⟨_, rfl, sl (by show 3 ≤ 3000; decide), fun q1 e1 => ?_⟩
      have nq1 := hu4.ou e1
      refine newH e1 fun H5 g5 s5 => ?_
      have hu5 := hu4.gr g5
      refine ⟨u, c, q1, _, rfl, hu5, nq1, .inl (SqL.of s5), by simp, by show 3 < 1073741824; decide, fun z H6 hz g6 hu6 => ?_⟩
      obtain ⟨a, ha1, ha2, rfl⟩ : ∃ a : Str, a.length ≤ 1 ∧ aS a = true ∧ z = .str a := by
        simp only [List.mem_cons, List.not_mem_nil, or_false] at hz
        rcases hz with rfl | rfl | rfl
        · exact ⟨"m", by decide +kernel, by decide +kernel, rfl⟩
        · exact ⟨"a", by decide +kernel, by decide +kernel, rfl⟩
        · exact ⟨"z", by decide +kernel, by decide +kernel, rfl⟩
      refine ⟨_, rfl, u, c, 5, rfl, hu6, by decide, by decide, fun r H7 hr0 hr5 g7 hu7 => .inl ⟨r, rfl, ?_, ?_⟩⟩
      · have : r.natAbs < 5 := by omega
        have h5 : ∀ n : Fin 5, n.val.log2 < 1920 := by decide
        exact h5 ⟨r.natAbs, this⟩
      obtain ⟨rn, rfl⟩ := Int.eq_ofNat_of_zero_le hr0
      have b1 : (toString (rn : Int) : Str).length ≤ 2 := (str5 ⟨rn, by omega⟩).1
      have b2 : aS (toString (rn : Int) : Str) = true := (str5 ⟨rn, by omega⟩).2
      generalize (toString (rn : Int) : Str) = bb at b1 b2
      refine a_ss (sl (by omega)) ?_
      refine ⟨_, rfl, ?_⟩
      show rMuX K (.str "x") (.int (0 + (i : Nat))) _ _
      rw [Int.zero_add]
      refine mx_s (z := "x") (k := i) (by omega) (by decide +kernel) (by decide +kernel) fun xx hxx => ?_
      have ex : cps "x" = [120] := by decide +kernel
      have hxx : cps xx = (List.replicate i (cps "x")).flatten := hxx
      rw [ex] at hxx
      have hxc : ∀ c ∈ cps xx, c = 120 := fun c hc => by
        rw [hxx] at hc
        obtain ⟨l, hl, hc⟩ := List.mem_flatten.mp hc
        rw [(List.mem_replicate.mp hl).2] at hc
        exact List.mem_singleton.mp hc
      have hxl : xx.length = i := by
        rw [← cps_len, hxx, List.length_flatten, List.map_replicate, List.sum_replicate_nat]
        show i * 1 = i
        omega
      have hxa : aS xx = true := aS_of fun c hc => by rw [hxc c hc]; decide
      refine a_ss (sl (by rw [strLen_append]; omega)) ?_
      have nma : aS (a ++ bb ++ xx) = true := aS_app (aS_app ha2 b2) hxa
      have nml : (a ++ bb ++ xx).length ≤ 3000 := by rw [strLen_append, strLen_append]; omega
      generalize a ++ bb ++ xx = nm at nma nml
      obtain ⟨c1, c2⟩ := cut12 nm
      have hN7 := g7.keep Nu (g6.keep Nu (g5.lst hN4) (fun _ z => by cases z)) (fun _ z => by cases z)
      have hD7 := g7.keep Du (g6.keep Du (g5.lst hD4) (fun _ z => by cases z)) (fun _ z => by cases z)
      have hY7 : RB K makV H7 ys ms := hY4.mono fun _ _ q => g7.seqT hu6 (g6.seqT hu5 (g5.seqT q))
      refine ⟨_, rfl, .inl ⟨rfl, _, SqL.of hD7⟩, _, rfl, _, rfl, sl_sK (sl (by omega)) ?_⟩
      refine ⟨_, rfl, _, rfl, _, rfl, sl (by show 6 ≤ 3000; decide), fun q2 e2 => ?_⟩
      have nq2 := hu7.ou e2
      refine newH e2 fun H8 g8 s8 => ?_
      have hu8 := hu7.gr g8
      refine ⟨u, c, q2, _, rfl, hu8, nq2, .inl (SqL.of s8), by simp, by show 6 < 1073741824; decide, fun z H9 hz g9 hu9 => ?_⟩
      obtain ⟨co, hco, rfl⟩ : ∃ co ∈ costs, z = V.int co := by
        have hz : z ∈ costs.map V.int := hz
        obtain ⟨co, h1, h2⟩ := List.mem_map.mp hz
        exact ⟨co, h1, h2.symm⟩
      refine ⟨sl (by show 4 ≤ 3000; decide), fun p hp => ?_⟩
      refine newH hp fun Ha ga sa => ?_
      have hDa := ga.lst (g9.keep Du (g8.lst hD7) (fun _ z => by cases z))
      have hNa := ga.lst (g9.keep Nu (g8.lst hN7) (fun _ z => by cases z))
      have hYa : RB K makV Ha ys ms := hY7.mono fun _ _ q => ga.seqT (g9.seqT hu8 (g8.seqT q))
      have G := (((((((g.trans g3).trans g4).trans g5.u).trans g6).trans g7).trans g8.u).trans g9).trans ga.u
      refine ⟨D, ys, .ref p, rfl, rfl, hDa, by rw [hY.1, sizeLine_eq]; omega, ?_⟩
      refine ⟨_, _, _, _, ys ++ [.ref p], ms ++ [⟨cutS nm none (some 12), x, y, co⟩], rfl, gruD G hD, (hu9.gr ga).updD Du Dc, by rw [upd_ne NsD]; exact hNa, upd_same, (hYa.mono fun t ys q => upd_seqT hDa t ys q).snoc (upd_seqT hDa _ _ (SqT.of sa)), fun m hm => ?_, by rw [List.length_append]; show _ + 1 ≤ _; omega⟩
      rcases List.mem_append.mp hm with z | z
      · exact hok m z
      · rw [List.mem_singleton.mp z]
        exact ⟨hx2, hy2, hne, ⟨c1, aS_sub nma c2⟩, hco⟩
    · exact ⟨_, _, _, _, ys, ms, rfl, (g.trans g3).trans g4, hu4, hN4, hD4, hY4, hok, by omega⟩
  · rintro σ H' ⟨o5, o6, o7, o8, ys, ms, rfl, g, hu', hN', hD', hY, hok, hl⟩
    refine ⟨_, rfl, D, ys, ms, rfl, hD', hY, by omega, fun p zs F H2 g2 s2 hZ nd hin hF => ?_⟩
    exact k p zs F H2 (g.trans g2.u) (hu'.gr g2) s2 hZ nd (fun m hm => hok m (hin m hm)) (by omega)
end
end Vf
end
section
set_option Elab.async false
set_option linter.all false
set_option maxRecDepth 100000
set_option maxHeartbeats 4000000
namespace Vf
open PySem PySem.Spec PyProof.Rows L2 GxR GenW RZ
abbrev s__law_maker_due : Stmt := top 84
abbrev n__law_maker_due : List Str := ["forms", "thing", "name", "source", "target", "cost", "small", "sign"]
abbrev p__law_maker_due : List Str := ["forms", "thing"]
theorem sc__law_maker_due : FnScope n__law_maker_due p__law_maker_due (defScope s__law_maker_due) := ⟨rfl, rfl, rfl, by decide +kernel, rfl, by decide +kernel, by decide +kernel⟩

def bdC (c : Nat) : Option Str := if c ∈ words then none else some (chS c)
def spMkDue (K : PySem.W.Frag) : Sp := fun vs H Q _ => ∃ (d : Addr) (kvs : List (Key × V)) (ns : List Str) (v : V) (e : PyData), vs = [.ref d, v] ∧ H d = some (.dK kvs) ∧ KeyN kvs ns ∧ Dd K H v e ∧ tx e = true ∧ ∀ H', Gr H H' → Q (.bl (isMkr ns e)) H'
theorem tx_len {x : Str} (h : tx (.str x) = true) : x.length ≤ sizeLine := by
  have q2 : (decide (x.length ≤ 16000000) && PyData.canLay0 (.str x)) = true := h
  rw [Bool.and_eq_true] at q2
  have := of_decide_eq_true q2.1
  rw [sizeLine_eq]
  omega
theorem bd_nil {x : Str} : ((cps x).filterMap bdC = []) ↔ (x.cps.toList.all fun c => decide (c ∈ words)) = true := by
  rw [List.filterMap_eq_nil_iff, List.all_eq_true]
  constructor
  · intro h c hc
    have q := h c hc
    unfold bdC at q
    split at q
    · rename_i z
      exact decide_eq_true z
    · cases q
  · intro h c hc
    unfold bdC
    rw [if_pos (of_decide_eq_true (h c hc))]
section
variable {P : Program} {w : World} {K : PySem.W.Frag} {mg : Str → Option Value} {base : Heap}
theorem ok_mkdue {fd : FuncData} (F : FnP K "_law_maker_due" s__law_maker_due fd) (T : TD K mg) : FnOk P w K mg base CX0 1 (He.fAd K ("_law_maker_due", none)) fd p__law_maker_due (spMkDue K) := by
  refine okP F sc__law_maker_due (fun vs H Q E h => by obtain ⟨d, kvs, ns, v, e, rfl, _⟩ := h; rfl) (fun A outer s H vs Q E hr h => ?_)
  obtain ⟨d, kvs, ns, v, e, rfl, hk, hn, hd, ht, k⟩ := h
  refine ⟨_, (pss_cons (ps_if (PW.pt (pw_or (pt_not (pt_val (pe_callB (call_isD (K := K) rfl) rfl T.b_isinstance (by decide +kernel) (pa_cons (pv 1) (pa_cons (pe_ty (T := "tuple") rfl T.b_tuple (by decide +kernel)) pa_nil))))) (pw_or1 (pt_cmpR (u_neW (K := K) rfl hr.units) (pe_callB (k_len (K := K) rfl) rfl T.b_len (by decide +kernel) (pa_cons (pv 1) pa_nil)) pe_int (nomark _)))))
      (pss_one (ps_ret pe_bl))
      pss_nil)
      (pss_cons (ps_asg (pv 1) (kg_tup 4 (K := K) rfl rfl (pgs_cons (pg_name (i := 2) sc__law_maker_due.nd rfl (by first | exact Or.inl rfl | exact Or.inr rfl)) (pgs_cons (pg_name (i := 3) sc__law_maker_due.nd rfl (by first | exact Or.inl rfl | exact Or.inr rfl)) (pgs_cons (pg_name (i := 4) sc__law_maker_due.nd rfl (by first | exact Or.inl rfl | exact Or.inr rfl)) (pgs_cons (pg_name (i := 5) sc__law_maker_due.nd rfl (by first | exact Or.inl rfl | exact Or.inr rfl)) pgs_nil))))))
      (pss_cons (ps_set (i := 6) sc__law_maker_due.nd rfl (by first | exact Or.inl rfl | exact Or.inr rfl) pe_str)
      (pss_cons (ps_if (PW.pt (pw_or (pt_not (pt_val (pe_callB (call_isD (K := K) rfl) rfl T.b_isinstance (by decide +kernel) (pa_cons (pv 2) (pa_cons (pe_ty (T := "str") rfl T.b_str (by decide +kernel)) pa_nil))))) (pw_or (pt_not (pt_chain u_le u_le pe_int (pe_callB (k_len (K := K) rfl) rfl T.b_len (by decide +kernel) (pa_cons (pv 2) pa_nil)) pe_int)) (pw_or1 (pt_cmpR (u_neW (K := K) rfl hr.units) (pe_lc (own := [("sign", 7)]) (g := gName 7) rfl sc__law_maker_due.nd (pi_str (pv 2)) (blkOk_by (own := [("sign", 7)]) (N := n__law_maker_due) (sc := defScope s__law_maker_due) (by decide +kernel)) (fun _ _ _ _ _ => (pg_name (i := 7) sc__law_maker_due.nd rfl (by first | exact Or.inl rfl | exact Or.inr rfl))) (fun _ _ _ _ _ => (pts_one (pt_cmpR (u_ni (K := K) rfl) (pv 7) (pv 6) (by first | exact nomark _ | rfl)))) (fun _ _ _ _ _ => (pv 7))) (pe_lst pa_nil) (nomark _))))))
      (pss_one (ps_ret pe_bl))
      pss_nil)
      (pss_cons (ps_if (PW.pt (pw_or (pt_not (pt_val (pe_callB (call_isD (K := K) rfl) rfl T.b_isinstance (by decide +kernel) (pa_cons (pv 3) (pa_cons (pe_ty (T := "str") rfl T.b_str (by decide +kernel)) pa_nil))))) (pw_or (pt_not (pt_val (pe_callB (call_isD (K := K) rfl) rfl T.b_isinstance (by decide +kernel) (pa_cons (pv 4) (pa_cons (pe_ty (T := "str") rfl T.b_str (by decide +kernel)) pa_nil))))) (pw_or1 (pt_cmpR (u_eqW (K := K) rfl hr.units) (pv 3) (pv 4) (nomark _))))))
      (pss_one (ps_ret pe_bl))
      pss_nil)
      (pss_cons (ps_if (PW.pt (pw_or (pt_cmpR (u_ni (K := K) rfl) (pv 3) (pe_callTy (call_list_dK rfl) rfl T.b_list (by decide +kernel) (pa_cons (pv 0) pa_nil)) (by first | exact nomark _ | rfl)) (pw_or (pt_cmpR (u_ni (K := K) rfl) (pv 4) (pe_callTy (call_list_dK rfl) rfl T.b_list (by decide +kernel) (pa_cons (pv 0) pa_nil)) (by first | exact nomark _ | rfl)) (pw_or1 (pt_val (pe_callB (call_isD (K := K) rfl) rfl T.b_isinstance (by decide +kernel) (pa_cons (pv 5) (pa_cons (pe_ty (T := "bool") rfl T.b_bool (by decide +kernel)) pa_nil))))))))
      (pss_one (ps_ret pe_bl))
      pss_nil)
      (pss_one (ps_ret (pe_and (pe_callB (call_isD (K := K) rfl) rfl T.b_isinstance (by decide +kernel) (pa_cons (pv 5) (pa_cons (pe_ty (T := "int") rfl T.b_int (by decide +kernel)) pa_nil))) (pe_one (pe_chain u_le u_le pe_int (pv 5) pe_int))))))))))), ?_⟩
  refine ⟨_, rfl, v, e, "tuple", rfl, hd, .inl rfl, _, rfl, ite2 (fun h1 => ?_) (fun h1 => ?_)⟩
  · have q : isMkr ns e = false := by
      cases e <;> first | rfl | simp [isaD] at h1
    exact q ▸ k H (Gr.refl H)
  obtain ⟨ds, rfl⟩ := isTup_iff.mp (show isaD "tuple" e = true by simpa using h1)
  obtain ⟨p, xs, rfl, sq, dA⟩ := dd_tup hd
  have xl := ddA_len dA
  refine ⟨_, rfl, _, xs.length, rfl, .inr ⟨_, sq, rfl⟩, wn_flat rfl ⟨_, rfl, ite2 (fun h2 => ?_) (fun h2 => ?_)⟩⟩
  · have n4 : ds.length ≠ 4 := fun z => by
      rw [xl, z] at h2
      exact absurd h2 (by decide)
    have q : isMkr ns (.tuple ds) = false := by
      unfold isMkr
      split
      · rename_i e
        cases e
        exact absurd rfl n4
      · rfl
    exact q ▸ k H (Gr.refl H)
  have n4 : ds.length = 4 := by
    rw [← xl]
    have q : decide (V.int ((xs.length : Nat) : Int) = V.int 4) = true := by simpa using h2
    have := V.int.inj (of_decide_eq_true q)
    omega
  obtain ⟨n, s', t, c, rfl⟩ : ∃ a b c d, ds = [a, b, c, d] := by
    match ds, n4 with
    | [a, b, c, d], _ => exact ⟨a, b, c, d, rfl⟩
  have htA : txA [n, s', t, c] = true := by
    have q : (decide (([n, s', t, c] : List PyData).length ≤ 16000000) && txA [n, s', t, c]) = true := ht
    rw [Bool.and_eq_true] at q
    exact q.2
  cases dA with
  | cons dn dA =>
  cases dA with
  | cons dS dA =>
  cases dA with
  | cons dt dA =>
  cases dA with
  | cons dc dA =>
  cases dA
  rename_i vn vs vt vc
  refine ⟨_, rfl, p, _, rfl, sq, rfl, _, _, rfl, _, _, rfl, _, _, rfl, _, _, rfl, rfl, ?_⟩
  have kl : kvs.length ≤ kvs.length := Nat.le_refl _
  -- the name
  refine ⟨_, rfl, vn, n, "str", rfl, dn, .inr (.inl rfl), _, rfl, ite2 (fun h3 => ?_) (fun h3 => ?_)⟩
  · have q : isWd n = false := by
      cases n <;> first | rfl | simp [isaD] at h3
    exact isMkr_no (.inl q) ▸ k H (Gr.refl H)
  obtain ⟨x, rfl⟩ := isStr_iff.mp (show isaD "str" n = true by simpa using h3)
  cases dn
  have hx := tx_len (txA_mem htA (.str x) (by simp))
  have no1 : ¬ (1 ≤ x.length ∧ x.length ≤ 12) → Q (.bl false) H := fun z => by
    have q : isWd (.str x) = false := by
      show isWs x = false
      unfold isWs
      rw [decide_eq_false z, Bool.false_and]
    exact isMkr_no (.inl q) ▸ k H (Gr.refl H)
  refine ⟨_, rfl, _, _, rfl, ⟨hx, rfl⟩, le_ii ⟨_, rfl, ite2 (fun h4 => le_ii ⟨_, rfl, ?_⟩) (fun h4 => ⟨_, rfl, iteT (no1 ?_)⟩)⟩⟩
  rotate_left
  · have h1 : ¬ 1 ≤ x.length := fun z => h4 (decide_eq_true (by omega))
    omega
  have h4 : 1 ≤ x.length := by have := of_decide_eq_true h4; omega
  by_cases h5 : x.length ≤ 12
  rotate_left
  · have e1 : (decide ((x.length : Int) ≤ 12)) = false := by simp; omega
    rw [e1]
    exact iteT (no1 (by omega))
  have e1 : (decide ((x.length : Int) ≤ 12)) = true := by simp; omega
  rw [e1]
  refine iteF ⟨_, rfl, _, rfl, fun D hD => ?_⟩
  refine lc_S (x := x) (fun i H' => Gr H H' ∧ H' D = some (.lst (strV (((cps x).take i).filterMap bdC)))) ⟨Gr.new hD, upd_same⟩ ?_ ?_
  · rintro i c' H' hc ⟨g, hL⟩
    have il := (List.getElem?_eq_some_iff.mp hc).1
    have il2 : i < x.length := by rw [← cps_len]; exact il
    refine ⟨rfl, ?_⟩
    refine ⟨_, rfl, _, rfl, ni_sign ⟨_, rfl, ?_⟩⟩
    have hc' : (cps x)[i]? = some c' := hc
    show if (!decide (c' ∈ words)) = true then _ else _
    by_cases hw : c' ∈ words
    · rw [decide_eq_true hw]
      refine iteF ⟨g, ?_⟩
      rw [hL, take_snoc hc', List.filterMap_append]
      have : [c'].filterMap bdC = [] := by
        have q : bdC c' = none := if_pos hw
        rw [List.filterMap_cons, q]
        rfl
      rw [this, List.append_nil]
    · rw [decide_eq_false hw]
      refine iteT ⟨_, rfl, _, hL, ?_, g.upd' hD, ?_⟩
      · unfold strV
        rw [List.length_map, sizeLine_eq]
        refine Nat.lt_of_le_of_lt (List.length_filterMap_le _ _) ?_
        rw [List.length_take]
        omega
      · rw [upd_same, take_snoc hc', List.filterMap_append]
        have : [c'].filterMap bdC = [chS c'] := by
          have q : bdC c' = some (chS c') := if_neg hw
          rw [List.filterMap_cons, q]
          rfl
        rw [this]
        unfold strV
        rw [List.map_append]; rfl
  rintro H1 ⟨g1, hL1⟩
  have hL1 : H1 D = some (.lst (strV ((cps x).filterMap bdC))) := by
    rw [hL1]
    show some (HO.lst (strV (((cps x).take (cps x).length).filterMap bdC))) = _
    rw [List.take_length]
  refine ⟨Nat.zero_le _, fun L hL => ?_⟩
  refine newH hL fun H2 g2 s2 => ?_
  have G2 := g1.trans g2
  refine wn_nil (SqL.of (g2.lst hL1)) (SqL.of s2) ⟨_, rfl, ?_⟩
  have ew : isWd (.str x) = decide (strV ((cps x).filterMap bdC) = []) := by
    show isWs x = _
    unfold isWs
    rw [decide_eq_true ⟨h4, h5⟩, Bool.true_and, Bool.eq_iff_iff, ← bd_nil, decide_eq_true_iff]
    unfold strV
    rw [List.map_eq_nil_iff]
  rw [← ew]
  refine ite2 (fun h6 => ?_) (fun h6 => ?_)
  · exact isMkr_no (.inl (show isWd (.str x) = false by simpa using h6)) ▸ k H2 G2
  have e2 : isWd (.str x) = true := by simpa using h6
  -- source and target
  refine ⟨_, rfl, vs, s', "str", rfl, G2.dd _ _ dS, .inr (.inl rfl), _, rfl, ite2 (fun h7 => ?_) (fun h7 => ?_)⟩
  · have q : isNm ns s' = false := by
      cases s' <;> first | rfl | simp [isaD] at h7
    exact isMkr_no (.inr (.inl q)) ▸ k H2 G2
  refine ⟨_, rfl, vt, t, "str", rfl, G2.dd _ _ dt, .inr (.inl rfl), _, rfl, ite2 (fun h8 => ?_) (fun h8 => ?_)⟩
  · have q : isNm ns t = false := by
      cases t <;> first | rfl | simp [isaD] at h8
    exact isMkr_no (.inr (.inr (.inl q))) ▸ k H2 G2
  obtain ⟨y, rfl⟩ := isStr_iff.mp (show isaD "str" s' = true by simpa using h7)
  obtain ⟨z, rfl⟩ := isStr_iff.mp (show isaD "str" t = true by simpa using h8)
  cases dS
  cases dt
  have cut : ∀ {b : Bool}, (b = false ∨ decide (y ∈ ns) = false ∨ decide (z ∈ ns) = false ∨ (!decide (V.str y = V.str z)) = false) → (b = false → isIn c = false) → isMkr ns (.tuple [.str x, .str y, .str z, c]) = false := by
    intro b h hb
    cases c with
    | int i =>
      show (isWd (.str x) && (decide (y ∈ ns) && (decide (z ∈ ns) && (!decide (V.str y = V.str z) && _)))) = _
      rcases h with h | h | h | h
      · have q : true = false := hb h
        cases q
      · rw [h, Bool.false_and, Bool.and_false]
      · rw [h, Bool.false_and, Bool.and_false, Bool.and_false]
      · rw [h, Bool.false_and, Bool.and_false, Bool.and_false, Bool.and_false]
    | _ => rfl
  refine ⟨_, rfl, _, rfl, we_flat rfl ⟨_, rfl, ite2 (fun h9 => ?_) (fun h9 => ?_)⟩⟩
  · exact cut (b := true) (.inr (.inr (.inr (by rw [h9]; rfl)))) (fun z => by cases z) ▸ k H2 G2
  have h9 : decide (V.str y = V.str z) = false := by simpa using h9
  have hk2 : H2 d = some (.dK kvs) := G2.keep hk (fun _ z => by cases z)
  have ek : (kvs.map fun kv => kV kv.1) = strV ns := by
    have q2 := congrArg (List.map kV) hn
    rw [List.map_map, List.map_map] at q2
    unfold strV
    exact q2
  have inE : ∀ {a : Str}, inV (.str a) (strV ns) = decide (a ∈ ns) := fun {a} => by
    rw [Bool.eq_iff_iff, inV_str, decide_eq_true_iff]
  refine ⟨_, rfl, _, rfl, d, kvs, rfl, hk2, fun L3 hL3 => ?_⟩
  refine newH hL3 fun H3 g3 s3 => ?_
  rw [ek] at s3
  have G3 := G2.trans g3
  refine ni_seq (.inl (SqL.of s3)) rfl (strV_flat _) ⟨_, rfl, ?_⟩
  show if (!inV (.str y) (strV ns)) = true then _ else _
  rw [inE]
  refine ite2 (fun ha => ?_) (fun ha => ?_)
  · exact cut (b := true) (.inr (.inl (by simpa using ha))) (fun z => by cases z) ▸ k H3 G3
  have hk3 : H3 d = some (.dK kvs) := g3.keep hk2 (fun _ z => by cases z)
  refine ⟨_, rfl, _, rfl, d, kvs, rfl, hk3, fun L4 hL4 => ?_⟩
  refine newH hL4 fun H4 g4 s4 => ?_
  rw [ek] at s4
  have G4 := G3.trans g4
  refine ni_seq (.inl (SqL.of s4)) rfl (strV_flat _) ⟨_, rfl, ?_⟩
  show if (!inV (.str z) (strV ns)) = true then _ else _
  rw [inE]
  refine ite2 (fun hb => ?_) (fun hb => ?_)
  · exact cut (b := true) (.inr (.inr (.inl (by simpa using hb)))) (fun z => by cases z) ▸ k H4 G4
  have ya : decide (y ∈ ns) = true := by simpa using ha
  have za : decide (z ∈ ns) = true := by simpa using hb
  have dc4 := G4.dd _ _ dc
  refine ⟨_, rfl, vc, c, "bool", rfl, dc4, .inr (.inr (.inr (.inl rfl))), _, rfl, ite2 (fun hc => ?_) (fun hc => ?_)⟩
  · have q : isMkr ns (.tuple [.str x, .str y, .str z, c]) = false := by
      cases c <;> first | rfl | simp [isaD] at hc
    exact q ▸ k H4 G4
  refine ⟨_, rfl, vc, c, "int", rfl, dc4, .inr (.inr (.inl rfl)), _, rfl, ite2 (fun he => ?_) (fun he => ?_)⟩
  · obtain ⟨i, rfl⟩ : ∃ i, c = .int i := by
      cases c <;> first | exact ⟨_, rfl⟩ | (exfalso; simp [isaD] at he hc)
    cases dc
    have fin : isMkr ns (.tuple [.str x, .str y, .str z, .int i]) = (decide ((0 : Int) ≤ i) && decide (i ≤ 1000)) := by
      show (isWd (.str x) && (decide (y ∈ ns) && (decide (z ∈ ns) && (!decide (V.str y = V.str z) && _)))) = _
      rw [e2, ya, za, h9]
      rfl
    rw [fin] at k
    refine ⟨_, rfl, le_ii ⟨_, rfl, ite2 (fun h8 => le_ii ?_) (fun h8 => ?_)⟩⟩
    · rw [h8, Bool.true_and] at k
      exact k H4 G4
    · rw [show decide ((0 : Int) ≤ i) = false by simpa using h8, Bool.false_and] at k
      exact k H4 G4
  · have q : isMkr ns (.tuple [.str x, .str y, .str z, c]) = false := by
      cases c <;> first | rfl | simp [isaD] at he
    exact q ▸ k H4 G4
end
end Vf
end
section
set_option Elab.async false
set_option linter.all false
set_option maxRecDepth 100000
set_option maxHeartbeats 4000000
namespace Vf
open PySem PySem.Spec PyProof.Rows L2 GxR GenW RZ
abbrev s__law_objects_right : Stmt := top 85
abbrev n__law_objects_right : List Str := ["urn", "forms", "makers", "things", "maker", "again", "place", "odd", "thing", "before"]
abbrev p__law_objects_right : List Str := ["urn", "forms", "makers"]
theorem sc__law_objects_right : FnScope n__law_objects_right p__law_objects_right (defScope s__law_objects_right) := ⟨rfl, rfl, rfl, by decide +kernel, rfl, by decide +kernel, by decide +kernel⟩

/-! ### data without lists or without dicts; odd data -/
structure Cln (e : PyData) : Prop where
  fl : fi .l e = true
  fd : fi .d e = true
  hz : sz e ≤ 200
  hp : e.depth ≤ 1
structure Odd (e : PyData) : Prop where
  hf : fi .l e = true ∨ fi .d e = true
  hz : sz e ≤ 2000
  hp : e.depth ≤ 10
theorem Cln.odd {e : PyData} (h : Cln e) : Odd e := ⟨.inl h.fl, by have := h.hz; omega, by have := h.hp; omega⟩
theorem Cln.str {x : Str} (h : x.length ≤ 19) (hl : aS x = true) : Cln (.str x) := ⟨Md.of (m := .l) hl, Md.of (m := .d) hl, by show 10 * x.length + 2 ≤ _; omega, by simp only [PyData.depth]; omega⟩
theorem Cln.int {i : Int} (h : i ∈ okI) : Cln (.int i) := ⟨decide_eq_true h, decide_eq_true h, by show 40 ≤ 200; decide, by simp only [PyData.depth]; omega⟩
theorem Cln.bl (b : Bool) : Cln (.bool b) := ⟨rfl, rfl, by show 5 ≤ 200; decide, by simp only [PyData.depth]; omega⟩
theorem Cln.non : Cln .none := ⟨rfl, rfl, by show 4 ≤ 200; decide, by simp only [PyData.depth]; omega⟩
theorem Odd.of {e : PyData} (h : (fi .l e || fi .d e) = true) (h2 : sz e ≤ 2000) (h3 : e.depth ≤ 10) : Odd e := ⟨by rw [Bool.or_eq_true] at h; exact h, h2, h3⟩
theorem Odd.ask {e : PyData} (h : Odd e) : Ask e := ⟨h.hf, by have := h.hz; omega, by have := h.hp; omega⟩
theorem ask_tup {as bs : List PyData} {e : PyData} (ha : ∀ x ∈ as, Cln x) (hb : ∀ x ∈ bs, Cln x) (he : Odd e) (hl : as.length + bs.length ≤ 10) : Ask (.tuple (as ++ [e] ++ bs)) := by
  have all : ∀ {R : PyData → Prop}, (∀ x, Cln x → R x) → R e → ∀ x ∈ as ++ [e] ++ bs, R x := fun {R} hr h x hx => by
    rcases List.mem_append.mp hx with hx | hx
    · rcases List.mem_append.mp hx with hx | hx
      · exact hr x (ha x hx)
      · rw [List.mem_singleton.mp hx]; exact h
    · exact hr x (hb x hx)
  refine ⟨?_, ?_, ?_⟩
  · rcases he.hf with h | h
    · exact .inl (fiA_mem.mpr (all (fun x c => c.fl) h))
    · exact .inr (fiA_mem.mpr (all (fun x c => c.fd) h))
  · have q := szA_le (k := 2000) (all (R := fun x => sz x ≤ 2000) (fun x c => by have := c.hz; omega) he.hz)
    have l : (as ++ [e] ++ bs).length = as.length + 1 + bs.length := by rw [List.length_append, List.length_append]; rfl
    show szA (as ++ [e] ++ bs) + 3 ≤ _
    rw [l] at q
    have q2 : (as.length + 1 + bs.length) * (2000 + 2) ≤ 11 * (2000 + 2) := Nat.mul_le_mul_right _ (by omega)
    omega
  · have q := depAll_of (k := 10) (all (R := fun x => x.depth ≤ 10) (fun x c => by have := c.hp; omega) he.hp)
    simp only [PyData.depth]
    omega
theorem ask_cln {ds : List PyData} (h : ∀ x ∈ ds, Cln x) (hl : ds.length ≤ 10) : Ask (.tuple ds) ∧ Ask (.list ds) := by
  have q := szA_le (k := 200) fun x hx => (h x hx).hz
  have q1 : ds.length * (200 + 2) ≤ 10 * (200 + 2) := Nat.mul_le_mul_right _ hl
  have q2 := depAll_of (k := 1) fun x hx => (h x hx).hp
  have f := fiA_mem.mpr fun x hx => (h x hx).fl
  refine ⟨⟨.inl f, by show szA ds + 3 ≤ _; omega, by simp only [PyData.depth]; omega⟩, ⟨.inl ?_, by show szA ds + 3 ≤ _; omega, by simp only [PyData.depth]; omega⟩⟩
  show (true && fiA .l ds) = true
  rw [f]; rfl
def makF (m : Mak) : List PyData := [.str m.n, .str m.s, .str m.t, .int m.c]
theorem dd_makV {K : PySem.W.Frag} {H : Hp} (m : Mak) : DdAll K H (makV m) (makF m) := .cons (.str _) (.cons (.str _) (.cons (.str _) (.cons (.int _) .nil)))
theorem makF_cln {ns : List Str} {m : Mak} (h : OkMk ns m) (hn : ∀ x ∈ ns, x ∈ NSP) : ∀ x ∈ makF m, Cln x := fun x hx => by
  have nm : ∀ y ∈ ns, Cln (.str y) := fun y hy => by
    obtain ⟨a, b⟩ := NSP_ok y (hn y hy)
    exact Cln.str (by omega) b
  simp only [makF, List.mem_cons, List.not_mem_nil, or_false] at hx
  rcases hx with rfl | rfl | rfl | rfl
  · exact Cln.str (by have := h.n.1; omega) h.n.2
  · exact nm _ h.s
  · exact nm _ h.t
  · refine Cln.int ?_
    have q := h.c
    simp only [costs, List.mem_cons, List.not_mem_nil, or_false] at q
    rcases q with q | q | q | q | q | q <;> rw [q] <;> decide
/-! ### things in a heap without some lists -/
def ThP (R : PyData → Prop) (K : PySem.W.Frag) (S : List Addr) (H : Hp) (xs : List V) : Prop := ∃ ds, DdAll K (Wo S H) xs ds ∧ ∀ d ∈ ds, R d
section
variable {R : PyData → Prop} {K : PySem.W.Frag} {S S' : List Addr} {H H' : Hp} {xs ys : List V} {x : V} {d : PyData}
theorem ThP.nil : ThP R K S H [] := ⟨[], .nil, by simp⟩
theorem ThP.gr (t : ThP R K S H xs) (g : Gr (Wo S H) (Wo S' H')) : ThP R K S' H' xs := by
  obtain ⟨ds, a, b⟩ := t
  exact ⟨ds, g.ddA _ _ a, b⟩
theorem ThP.upd {D : Addr} {o : HO} (h : D ∈ S) (t : ThP R K S H xs) : ThP R K S (upd H D o) xs := by
  unfold ThP
  rw [wo_upd h]
  exact t
theorem ThP.app (t : ThP R K S H xs) (t2 : ThP R K S H ys) : ThP R K S H (xs ++ ys) := by
  obtain ⟨ds, a, b⟩ := t
  obtain ⟨es, a2, b2⟩ := t2
  refine ⟨ds ++ es, ddA_app a a2, fun e he => ?_⟩
  rcases List.mem_append.mp he with he | he
  · exact b e he
  · exact b2 e he
theorem ThP.cons (h : Dd K (Wo S H) x d) (g : R d) (t : ThP R K S H xs) : ThP R K S H (x :: xs) := by
  obtain ⟨ds, a, b⟩ := t
  refine ⟨d :: ds, .cons h a, fun e he => ?_⟩
  rcases List.mem_cons.mp he with rfl | he
  · exact g
  · exact b e he
theorem ThP.snoc (t : ThP R K S H xs) (h : Dd K (Wo S H) x d) (g : R d) : ThP R K S H (xs ++ [x]) := t.app (ThP.cons h g ThP.nil)
theorem ThP.mem (t : ThP R K S H xs) (hx : x ∈ xs) : ∃ d, R d ∧ Dd K (Wo S H) x d := by
  obtain ⟨ds, a, b⟩ := t
  obtain ⟨d, h1, h2⟩ := ddA_mem a hx
  exact ⟨d, b d h1, h2⟩
theorem wo_seqT {t : Addr} (hS : ∀ b ∈ S, ∃ zs, H b = some (.lst zs)) (h : SqT K H t ys) : SqT K (Wo S H) t ys := by
  rcases h with (h | ⟨o, h⟩) | h
  · have n : t ∉ S := fun z => by
      obtain ⟨zs, e⟩ := hS t z
      rw [h] at e
      cases e
    exact .inl (.inl (wo_some n h))
  · have n : t ∉ S := fun z => by
      obtain ⟨zs, e⟩ := hS t z
      rw [h] at e
      cases e
    exact .inl (.inr ⟨o, wo_some n h⟩)
  · exact .inr h
theorem sl_tV {Q : VK} {a : Addr} {lo hi : Option Int} (h1 : SqT K (Wo S H) a xs) (hs : ∀ p, H p = none → p ∉ S)
    (q : ∀ p H', Gr H H' → SqT K (Wo S H') p (cutV xs lo hi) → Q (.ref p) H') : rSlU K (.ref a) lo hi H Q := by
  refine sl_t ((wo_gr S H).seqT h1) (fun h => ?_) (fun _ p hp => ?_)
  · have e : cutV xs lo hi = xs := by
      unfold cutV
      rw [h.1, h.2, List.drop_zero, Nat.sub_zero, List.take_length]
    exact q a H (Gr.refl H) (by rw [e]; exact h1)
  · exact newH hp fun H1 g1 s1 => q p H1 g1 (SqT.of (wo_some (hs p hp) s1))
end
theorem FsAt.upd {K : PySem.W.Frag} {H : Hp} {d D : Addr} {kvs : List (Key × V)} {F : List Fo} {zs : List V} {o : HO} (h : FsAt K H d kvs F) (hD : H D = some (.lst zs)) : FsAt K (upd H D o) d kvs F := by
  have n : d ≠ D := fun z => by
    have q := h.e
    rw [z, hD] at q
    cases q
  exact ⟨by rw [upd_ne n]; exact h.e, h.k.mono fun t ys q => upd_seqT hD t ys q, h.n, h.o⟩
/-- what stays in the loops -/
structure St (K : PySem.W.Frag) (c u D d a : Addr) (kvs : List (Key × V)) (Fs : List Fo) (xs : List V) (ms : List Mak) (H0 H : Hp) (zs : List V) : Prop where
  tb : TabG H (tb K "is_word")
  hu : Urn c H u
  hD : H D = some (.lst zs)
  th : ThP Ask K [u, D] H zs
  du : D ≠ u
  dc : D ≠ c
  fs : FsAt K H d kvs Fs
  sx : SqT K H a xs
  rb : RB K makV H xs ms
  n0 : H0 D = none
  g0 : GrU u H0 H
section
variable {K : PySem.W.Frag} {c u D d a : Addr} {kvs : List (Key × V)} {Fs : List Fo} {xs : List V} {ms : List Mak} {H0 H H' : Hp} {zs : List V}
theorem St.gr (h : St K c u D d a kvs Fs xs ms H0 H zs) (g : Gr H H') : St K c u D d a kvs Fs xs ms H0 H' zs := ⟨g.tabG h.tb, h.hu.gr g, g.lst h.hD, h.th.gr (g.wo _), h.du, h.dc, h.fs.gr g, g.seqT h.sx, h.rb.gr g, h.n0, h.g0.trans g.u⟩
theorem St.gru (h : St K c u D d a kvs Fs xs ms H0 H zs) (g : GrU u H H') (hu : Urn c H' u) : St K c u D d a kvs Fs xs ms H0 H' zs :=
  ⟨g.tabG h.hu h.tb, hu, g.keep h.du h.hD (fun _ z => by cases z), h.th.gr (g.wo (by simp)), h.du, h.dc, h.fs.gru g h.hu, g.seqT h.hu h.sx, h.rb.mono fun _ _ q => g.seqT h.hu q, h.n0, h.g0.trans g⟩
theorem St.push (h : St K c u D d a kvs Fs xs ms H0 H zs) {x : V} {e : PyData} (hx : Dd K (Wo [u, D] H) x e) (g : Ask e) : St K c u D d a kvs Fs xs ms H0 (upd H D (.lst (zs ++ [x]))) (zs ++ [x]) :=
  ⟨tabG_upd h.tb h.hD, h.hu.updD h.du h.dc, upd_same, ThP.upd (by simp) (h.th.snoc hx g), h.du, h.dc, h.fs.upd h.hD, upd_seqT h.hD _ _ h.sx, h.rb.mono fun t ys q => upd_seqT h.hD t ys q, h.n0, gruD h.g0 h.n0⟩
theorem St.new (h : St K c u D d a kvs Fs xs ms H0 H zs) {p : Addr} (hp : H p = none) : p ∉ [u, D] := nin2 (fun z => h.hu.ou hp (List.mem_singleton.mp z)) (Ne.symm (ne_of_none h.hD hp))
theorem St.two (h : St K c u D d a kvs Fs xs ms H0 H zs) : ∀ b ∈ [u, D], ∃ zs, H b = some (.lst zs) := fun b hb => by
  rcases List.mem_cons.mp hb with rfl | hb
  · obtain ⟨ns, p, a, r, h1, _⟩ := h.hu
    exact ⟨_, h1⟩
  · rw [List.mem_singleton.mp hb]
    exact ⟨_, h.hD⟩
end
def spObj (K : PySem.W.Frag) : Sp := fun vs H Q _ => ∃ (u c d a : Addr) (kvs : List (Key × V)) (Fs : List Fo) (xs : List V) (ms : List Mak), vs = [.ref u, .ref d, .ref a] ∧ Urn c H u ∧ FsAt K H d kvs Fs ∧ SqT K H a xs ∧ RB K makV H xs ms ∧ (∀ m ∈ ms, OkMk (Fs.map Fo.name) m) ∧ ms.length ≤ 14 ∧ TabG H (tb K "is_word") ∧ ∀ H', GrU u H H' → Urn c H' u → TabG H' (tb K "is_word") → Q (.bl true) H'
theorem cut_pre {xs : List V} {n : Nat} (h : n ≤ xs.length) : cutV xs none (some (n : Int)) = xs.take n := by
  unfold cutV
  rw [HT.sIx_nat, HT.sIx_none, List.drop_zero, Nat.sub_zero, Nat.min_eq_left h]
theorem cut_suf {xs : List V} {n : Nat} (h : n ≤ xs.length) : cutV xs (some (n : Int)) none = xs.drop n := by
  unfold cutV
  rw [HT.sIx_nat, HT.sIx_none, Nat.min_eq_left h, List.take_of_length_le]
  rw [List.length_drop]
  exact Nat.le_refl _
theorem ddA_take {K : PySem.W.Frag} {H : Hp} : ∀ {xs : List V} {ds : List PyData} (n : Nat), DdAll K H xs ds → DdAll K H (xs.take n) (ds.take n)
  | _, _, 0, _ => .nil
  | _, [], n + 1, h => by cases h; exact .nil
  | _, d :: ds, n + 1, h => by
    cases h with
    | cons a b => exact .cons a (ddA_take n b)
theorem ddA_drop {K : PySem.W.Frag} {H : Hp} : ∀ {xs : List V} {ds : List PyData} (n : Nat), DdAll K H xs ds → DdAll K H (xs.drop n) (ds.drop n)
  | _, _, 0, h => h
  | _, [], n + 1, h => by cases h; exact .nil
  | _, d :: ds, n + 1, h => by
    cases h with
    | cons a b => exact ddA_drop n b
def aN (n : Nat) : Str := ⟨(List.replicate n 97).toArray⟩
theorem aN_of {r : Str} {n : Nat} (h : cp r = (List.replicate n (cp "a")).flatten) : r = aN n := cps_inj (by
  have e : cp "a" = [97] := by decide +kernel
  rw [e] at h
  have h2 : cps r = (List.replicate n [97]).flatten := h
  rw [h2]
  show _ = List.replicate n 97
  induction n with
  | zero => rfl
  | succ n ih => 
    rw [List.replicate_succ, List.flatten_cons, List.replicate_succ]
    have q : ∀ k : Nat, (List.replicate k [97]).flatten = List.replicate k 97 := fun k => by
      induction k with
      | zero => rfl
      | succ k ih2 => rw [List.replicate_succ, List.flatten_cons, ih2, List.replicate_succ]; rfl
    rw [q]; rfl)
section
variable {P : Program} {w : World} {K : PySem.W.Frag} {mg : Str → Option Value} {base : Heap}
theorem ok_objects {fd : FuncData} (F : FnP K "_law_objects_right" s__law_objects_right fd) (T : TD K mg) (D__law_upto : Df P w K mg base "_law_upto" 2 p__law_upto spUpto) (D__law_choice : Df P w K mg base "_law_choice" 3 p__law_choice (spChoice K)) (D__law_equal : DfG P w K mg base "_law_equal" 1 p__law_equal (spEqual K))
    (D_is_maker : Df P w K mg base "is_maker" 3 p_is_maker (spIsMaker K)) (D__law_maker_due : Df P w K mg base "_law_maker_due" 1 p__law_maker_due (spMkDue K)) : FnG P w K mg base CX0 4 (He.fAd K ("_law_objects_right", none)) fd p__law_objects_right (spObj K) := by
  refine okQ F sc__law_objects_right (fun vs H Q E h => by obtain ⟨u, c, d, a, kvs, Fs, xs, ms, rfl, _⟩ := h; rfl) (fun A outer s H0 vs Q E hgu hr h => ?_)
  obtain ⟨u, c, d, a, kvs, Fs, xs, ms, rfl, hu, hF, hS, hR, hok, hl, htb, k⟩ := h
  have sl : ∀ {n : Nat}, n ≤ 3000 → n ≤ sizeLine := fun h => by rw [sizeLine_eq]; omega
  refine ⟨_, (pss_cons (ps_set (i := 3) sc__law_objects_right.nd rfl (by first | exact Or.inl rfl | exact Or.inr rfl) (pe_lst (pa_cons pe_non (pa_cons (pe_tup pa_nil) (pa_cons (pe_lst pa_nil) (pa_cons pe_str (pa_cons (pe_tup (pa_cons pe_str (pa_cons pe_str (pa_cons pe_str (pa_cons pe_int pa_nil))))) (pa_cons pe_dnewK pa_nil))))))))
      (pss_cons (ps_for PassesOwn.never rfl (k_tup (K := K) rfl (pv 2)) (pg_name (i := 4) sc__law_objects_right.nd rfl (by first | exact Or.inl rfl | exact Or.inr rfl))
      (pss_cons (ps_for PassesOwn.never rfl (pi_range1 rfl T.b_range (pa_cons pe_int pa_nil)) (pg_name (i := 5) sc__law_objects_right.nd rfl (by first | exact Or.inl rfl | exact Or.inr rfl))
      (pss_cons (ps_set (i := 6) sc__law_objects_right.nd rfl (by first | exact Or.inl rfl | exact Or.inr rfl) (pe_fn D__law_upto hr (by decide) rfl (pa_cons (pv 0) (pa_cons pe_int pa_nil))))
      (pss_cons (ps_set (i := 7) sc__law_objects_right.nd rfl (by first | exact Or.inl rfl | exact Or.inr rfl) (pe_lst (pa_cons pe_non (pa_cons pe_str (pa_cons pe_str (pa_cons (pe_op (u_mulX (K := K) rfl) pe_str pe_int) (pa_cons (pe_op (u_mulX (K := K) rfl) pe_str pe_int) (pa_cons pe_str (pa_cons pe_int (pa_cons pe_int (pa_cons pe_int (pa_cons (pe_op u_sub pe_int pe_int) (pa_cons pe_bl (pa_cons (pe_tup pa_nil) (pa_cons (pe_lst pa_nil) (pa_cons (pe_lst (pa_cons pe_str pa_nil)) (pa_cons pe_str pa_nil)))))))))))))))))
      (pss_cons (ps_set (i := 7) sc__law_objects_right.nd rfl (by first | exact Or.inl rfl | exact Or.inr rfl) (pe_op (u_add (K := K) rfl) (pv 7) (pe_lst (pa_cons (pv 4) (pa_cons (pe_tup (pa_cons (pe_lst pa_nil) pa_nil)) (pa_cons (pe_tup (pa_cons pe_dnewK pa_nil)) pa_nil))))))
      (pss_one (ps_expr (k_bm (K := K) rfl PySem.F.plainAttrs_list PySem.F.slot_list_append PySem.F.type_list_append mt_append (pv 3) (pa_cons (pe_op (u_add (K := K) rfl) (pe_op (u_add (K := K) rfl) (pe_slice (u_sl (K := K) rfl) (pv 4) po_none (po_some (pv 6))) (pe_tup (pa_cons (pe_fn D__law_choice hr (by decide) rfl (pa_cons (pv 0) (pa_cons (pv 7) pa_nil))) pa_nil))) (pe_slice (u_sl (K := K) rfl) (pv 4) (po_some (pe_op (u_add (K := K) rfl) (pv 6) pe_int)) po_none)) pa_nil))))))))
      (pss_one (ps_set (i := 3) sc__law_objects_right.nd rfl (by first | exact Or.inl rfl | exact Or.inr rfl) (pe_op (u_add (K := K) rfl) (pv 3) (pe_lst (pa_cons (pv 4) (pa_cons (pe_callTy (call_listU (K := K) rfl rfl) rfl T.b_list (by decide +kernel) (pa_cons (pv 4) pa_nil)) (pa_cons (pe_slice (u_sl (K := K) rfl) (pv 4) po_none (po_some pe_int)) (pa_cons (pe_op (u_add (K := K) rfl) (pv 4) (pe_tup (pa_cons pe_int pa_nil))) pa_nil))))))))))
      (pss_cons (ps_for PassesOwn.never rfl (k_list (K := K) rfl (pv 3)) (pg_name (i := 8) sc__law_objects_right.nd rfl (by first | exact Or.inl rfl | exact Or.inr rfl))
      (pss_cons (ps_set (i := 9) sc__law_objects_right.nd rfl (by first | exact Or.inl rfl | exact Or.inr rfl) (pe_callB (call_reprD hgu hr.units) rfl T.b_repr (by decide +kernel) (pa_cons (pv 8) pa_nil)))
      (pss_one (ps_if (PW.pt (pw_or (pt_not (pt_val (pe_fnG hgu D__law_equal hr (by decide) rfl (pa_cons (pe_fn D_is_maker hr (by decide) rfl (pa_cons (pv 1) (pa_cons (pv 8) pa_nil))) (pa_cons (pe_fn D__law_maker_due hr (by decide) rfl (pa_cons (pv 1) (pa_cons (pv 8) pa_nil))) pa_nil))))) (pw_or1 (pt_cmpR (u_neW (K := K) rfl hr.units) (pe_callB (call_reprD hgu hr.units) rfl T.b_repr (by decide +kernel) (pa_cons (pv 8) pa_nil)) (pv 9) (nomark _)))))
      (pss_one (ps_ret pe_bl))
      pss_nil))))
      (pss_one (ps_ret pe_bl))))), ?_⟩
  have st0n : ∀ {H : Hp} {p : Addr}, Gr H0 H → H p = none → p ∉ [u] := fun g hp z => (hu.gr g).ou hp (List.mem_singleton.mp z)
  refine ⟨Nat.zero_le _, fun q1 e1 => ?_⟩
  have n1 := st0n (Gr.refl _) e1
  refine newH e1 fun H1 g1 s1 => ?_
  refine ⟨Nat.zero_le _, fun q2 e2 => ?_⟩
  have n2 := st0n g1 e2
  refine newH e2 fun H2 g2 s2 => ?_
  refine ⟨sl (by show 4 ≤ 3000; decide), fun q3 e3 => ?_⟩
  have n3 := st0n (g1.trans g2) e3
  refine newH e3 fun H3 g3 s3 => ?_
  intro q4 e4
  have n4 := st0n ((g1.trans g2).trans g3) e4
  refine newH e4 fun H4 g4 s4 => ?_
  refine ⟨sl (by show 6 ≤ 3000; decide), fun D eD => ?_⟩
  have G4 := ((g1.trans g2).trans g3).trans g4
  have Du := (hu.gr G4).ou eD
  have Dc := (hu.gr G4).oc eD
  have D0 := G4.free eD
  have nqD : ∀ {q : Addr} {o : HO}, H4 q = some o → q ≠ D := fun h => ne_of_none h eD
  refine newH eD fun H5 g5 s5 => ?_
  have G5 := G4.trans g5
  have w1 := (((g2.trans g3).trans g4).trans g5).tup s1
  have w2 := ((g3.trans g4).trans g5).lst s2
  have w3 := (g4.trans g5).tup s3
  have w4 : H5 q4 = some (.dK []) := g5.keep s4 (fun _ z => by cases z)
  have m1 : q1 ∉ [u, D] := nin2 n1 (nqD (((g2.trans g3).trans g4).tup s1))
  have m2 : q2 ∉ [u, D] := nin2 n2 (nqD ((g3.trans g4).lst s2))
  have m3 : q3 ∉ [u, D] := nin2 n3 (nqD (g4.tup s3))
  have m4 : q4 ∉ [u, D] := nin2 n4 (nqD s4)
  have st5 : St K c u D d a kvs Fs xs ms H0 H5 [.non, .ref q1, .ref q2, .str "m", .ref q3, .ref q4] := by
    refine ⟨G5.tabG htb, hu.gr G5, s5, ?_, Du, Dc, hF.gr G5, G5.seqT hS, hR.gr G5, D0, G5.u⟩
    refine ThP.cons .non (Odd.ask Cln.non.odd) ?_
    refine ThP.cons (d := .tuple []) (.tup (SqT.of (wo_some m1 w1)) .nil) (Odd.ask (Odd.of rfl (by decide) (by decide))) ?_
    refine ThP.cons (d := .list []) (.lst (SqL.of (wo_some m2 w2)) .nil) (Odd.ask (Odd.of rfl (by decide) (by decide))) ?_
    refine ThP.cons (.str _) (Odd.ask (Cln.str (by decide +kernel) (by decide +kernel)).odd) ?_
    refine ThP.cons (d := .tuple [.str "m", .str "plain", .str "plain", .int 1]) (.tup (SqT.of (wo_some m3 w3)) (.cons (.str _) (.cons (.str _) (.cons (.str _) (.cons (.int _) .nil))))) (ask_cln (fun x hx => ?_) (by decide)).1 ?_
    · simp only [List.mem_cons, List.not_mem_nil, or_false] at hx
      rcases hx with rfl | rfl | rfl | rfl
      · exact Cln.str (by decide +kernel) (by decide +kernel)
      · exact Cln.str (by decide +kernel) (by decide +kernel)
      · exact Cln.str (by decide +kernel) (by decide +kernel)
      · exact Cln.int (by decide)
    refine ThP.cons (d := .dict []) (.dct (wo_some m4 w4)) (Odd.ask (Odd.of rfl (by decide) (by decide))) ThP.nil
  have nsin : ∀ x ∈ Fs.map Fo.name, x ∈ NSP := hF.name
  refine ⟨_, rfl, a, rfl, ⟨_, st5.sx⟩, ?_⟩
  refine for_tup (K := K) (a := a) (xs := xs) (fun i σ H' => ∃ (D : Addr) (zs : List V) (o4 o5 o6 o7 : Option V), σ = [some (.ref u), some (.ref d), some (.ref a), some (.ref D), o4, o5, o6, o7, none, none] ∧ St K c u D d a kvs Fs xs ms H0 H' zs ∧ zs.length ≤ 6 + 8 * i)
    ⟨D, _, none, none, none, none, rfl, st5, Nat.le_refl _⟩ ?_ ?_ ?_
  · rintro i σ H' _ ⟨D, zs, o4, o5, o6, o7, rfl, st, _⟩
    exact st.sx
  · clear st5 w1 w2 w3 w4 m1 m2 m3 m4 nqD Du Dc D0 eD s5 g5 G5 s1 s2 s3 s4 g1 g2 g3 g4 G4 n1 n2 n3 n4 e1 e2 e3 e4
    rintro i x σ H' hx ⟨D, zs, o4, o5, o6, o7, rfl, st, zl⟩
    have il : i < ms.length := by rw [← hR.1]; exact (List.getElem?_eq_some_iff.mp hx).1
    refine ⟨4, rfl, by decide, by decide, ?_⟩
    refine for_range (lo := 0) (n := 4) (fun j σ H' => ∃ (zs : List V) (o5 o6 o7 : Option V), σ = [some (.ref u), some (.ref d), some (.ref a), some (.ref D), some x, o5, o6, o7, none, none] ∧ St K c u D d a kvs Fs xs ms H0 H' zs ∧ zs.length ≤ 6 + 8 * i + j)
      ⟨zs, _, _, _, rfl, st, by omega⟩ ?_ ?_
    · clear st zl
      rintro j σ H1 hj ⟨zs, o5, o6, o7, rfl, st, zl⟩
      refine ⟨_, rfl, u, c, 4, rfl, st.hu, by decide, by decide, fun r H2 hr0 hr4 gA huA => ?_⟩
      obtain ⟨rn, rfl⟩ := Int.eq_ofNat_of_zero_le hr0
      have st2 := st.gru gA huA
      refine mx_s (z := "a") (k := 12) (by decide) (by decide +kernel) (by decide +kernel) fun r1 hr1 => ?_
      refine mx_s (z := "a") (k := 13) (by decide) (by decide +kernel) (by decide +kernel) fun r2 hr2 => ?_
      rw [aN_of hr1, aN_of hr2]
      refine sb_ii ?_
      refine ⟨Nat.zero_le _, fun p1 e1 => ?_⟩
      have n1 := st2.new e1
      refine newH e1 fun K1 f1 s1 => ?_
      have t1 := st2.gr f1
      refine ⟨Nat.zero_le _, fun p2 e2 => ?_⟩
      have n2 := t1.new e2
      refine newH e2 fun K2 f2 s2 => ?_
      have t2 := t1.gr f2
      refine ⟨sl (by show 1 ≤ 3000; decide), fun p3 e3 => ?_⟩
      have n3 := t2.new e3
      refine newH e3 fun K3 f3 s3 => ?_
      have t3 := t2.gr f3
      refine ⟨sl (by show 15 ≤ 3000; decide), fun L1 eL1 => ?_⟩
      refine newH eL1 fun K4 f4 s4 => ?_
      have t4 := t3.gr f4
      refine ⟨_, rfl, _, rfl, Nat.zero_le _, fun p5 e5 => ?_⟩
      have n5 := t4.new e5
      refine newH e5 fun K5 f5 s5 => ?_
      have t5 := t4.gr f5
      refine ⟨sl (by show 1 ≤ 3000; decide), fun p6 e6 => ?_⟩
      have n6 := t5.new e6
      refine newH e6 fun K6 f6 s6 => ?_
      have t6 := t5.gr f6
      intro p7 e7
      have n7 := t6.new e7
      refine newH e7 fun K7 f7 s7 => ?_
      have t7 := t6.gr f7
      refine ⟨sl (by show 1 ≤ 3000; decide), fun p8 e8 => ?_⟩
      have n8 := t7.new e8
      refine newH e8 fun K8 f8 s8 => ?_
      have t8 := t7.gr f8
      refine ⟨sl (by show 3 ≤ 3000; decide), fun L2 eL2 => ?_⟩
      refine newH eL2 fun K9 f9 s9 => ?_
      have t9 := t8.gr f9
      have F59 := (((f5.trans f6).trans f7).trans f8).trans f9
      refine a_ll (F59.lst s4) s9 (sl (by show 15 + 3 ≤ 3000; decide)) fun L3 eL3 => ?_
      have nL3 := t9.hu.ou eL3
      refine newH eL3 fun Ka fa sa => ?_
      have ta := t9.gr fa
      obtain ⟨m, t, hm, rfl, sm⟩ := ta.rb.at_ hx
      have okm := makF_cln (hok m (List.mem_of_getElem? hm)) nsin
      have smw := wo_seqT ta.two sm
      have F2a := (((f2.trans f3).trans f4).trans F59).trans fa
      have F3a := ((f3.trans f4).trans F59).trans fa
      have F4a := (f4.trans F59).trans fa
      have F6a := (((f6.trans f7).trans f8).trans f9).trans fa
      have F7a := ((f7.trans f8).trans f9).trans fa
      have F8a := (f8.trans f9).trans fa
      have F9a := f9.trans fa
      have strA : ∀ {n : Nat}, n ≤ 13 → Cln (.str (aN n)) := fun {n} hn => by
        refine Cln.str ?_ (aS_of fun c hc => ?_)
        · rw [← cps_len]
          show (List.replicate n 97).length ≤ 19
          rw [List.length_replicate]
          omega
        · have hc : c ∈ List.replicate n 97 := hc
          rw [(List.mem_replicate.mp hc).2]
          decide
      have od : ThP Odd K [u, D] Ka ([.non, .str "", .str "nope", .str (aN 12), .str (aN 13), .str "A", .int 0, .int 1000, .int 1001, .int (0 - 1), .bl true, .ref p1, .ref p2, .ref p3, .str "plain"] ++ [.ref t, .ref p6, .ref p8]) := by
        refine ThP.app ?_ ?_
        · refine ThP.cons .non Cln.non.odd ?_
          refine ThP.cons (.str _) (Cln.str (by decide +kernel) (by decide +kernel)).odd ?_
          refine ThP.cons (.str _) (Cln.str (by decide +kernel) (by decide +kernel)).odd ?_
          refine ThP.cons (.str _) (strA (by decide)).odd ?_
          refine ThP.cons (.str _) (strA (by decide)).odd ?_
          refine ThP.cons (.str _) (Cln.str (by decide +kernel) (by decide +kernel)).odd ?_
          refine ThP.cons (.int _) (Cln.int (by decide)).odd ?_
          refine ThP.cons (.int _) (Cln.int (by decide)).odd ?_
          refine ThP.cons (.int _) (Cln.int (by decide)).odd ?_
          refine ThP.cons (.int _) (Cln.int (by decide)).odd ?_
          refine ThP.cons (.bl _) (Cln.bl _).odd ?_
          refine ThP.cons (d := .tuple []) (.tup (SqT.of (wo_some n1 (F2a.tup s1))) .nil) (Odd.of rfl (by decide) (by decide)) ?_
          refine ThP.cons (d := .list []) (.lst (SqL.of (wo_some n2 (F3a.lst s2))) .nil) (Odd.of rfl (by decide) (by decide)) ?_
          refine ThP.cons (d := .list [.str "plain"]) (.lst (SqL.of (wo_some n3 (F4a.lst s3))) (.cons (.str _) .nil)) (Odd.of (by decide +kernel) (by decide +kernel) (by decide +kernel)) ?_
          exact ThP.cons (.str _) (Cln.str (by decide +kernel) (by decide +kernel)).odd ThP.nil
        · refine ThP.cons (d := .tuple (makF m)) (.tup smw (dd_makV m)) ?_ ?_
          · have q := szA_le (k := 200) fun x hx => (okm x hx).hz
            have q2 := depAll_of (k := 1) fun x hx => (okm x hx).hp
            have q3 : (makF m).length = 4 := rfl
            rw [q3] at q
            exact ⟨.inl (fiA_mem.mpr fun x hx => (okm x hx).fl), by show szA _ + 3 ≤ _; omega, by simp only [PyData.depth]; omega⟩
          refine ThP.cons (d := .tuple [.list []]) (.tup (SqT.of (wo_some n6 (F7a.tup s6))) (.cons (.lst (SqL.of (wo_some n5 (F6a.lst s5))) .nil) .nil)) (Odd.of (by decide) (by decide) (by decide)) ?_
          exact ThP.cons (d := .tuple [.dict []]) (.tup (SqT.of (wo_some n8 (F9a.tup s8))) (.cons (.dct (wo_some n7 (F8a.keep s7 (fun _ z => by cases z)))) .nil)) (Odd.of (by decide) (by decide) (by decide)) ThP.nil
      -- the new thing
      have rl : rn ≤ 3 := by omega
      refine ⟨_, rfl, .inl ⟨rfl, _, SqL.of ta.hD⟩, _, rfl, _, rfl, _, rfl, sl_tV (S := [u, D]) smw (fun p hp => ta.new hp) fun q1 Kb fb sb => ?_⟩
      rw [cut_pre (show rn ≤ (makV m).length by show rn ≤ 4; omega)] at sb
      have tb := ta.gr fb
      refine ⟨_, rfl, _, rfl, u, c, L3, _, rfl, tb.hu, nL3, .inl (SqL.of (fb.lst sa)), by simp, by show 15 + 3 < 1073741824; decide, fun y Kc hy fc huc => ?_⟩
      obtain ⟨e, he, de⟩ := od.mem hy
      have tc := tb.gru fc huc
      refine ⟨sl (by show 1 ≤ 3000; decide), fun q2 e2' => ?_⟩
      have nq2 := tc.new e2'
      refine newH e2' fun Kd fd2 sd => ?_
      have td := tc.gr fd2
      have wbd := (fc.wo (S := [u, D]) (by simp)).trans (fd2.wo [u, D])
      have mk4 : (makV m).length = 4 := rfl
      refine a_ttW (S := [u, D]) (wbd.seqT sb) (SqT.of (wo_some nq2 sd)) (sl (by rw [List.length_take, mk4]; show min rn 4 + 1 ≤ 3000; omega)) (fun p hp => td.new hp) fun q3 Ke fe se => ?_
      have te := td.gr fe
      have wae := ((fb.wo [u, D]).trans wbd).trans (fe.wo [u, D])
      refine ⟨_, rfl, _, rfl, a_ii ⟨_, rfl, sl_tV (S := [u, D]) (wae.seqT smw) (fun p hp => te.new hp) fun q4 Kf ff sf => ?_⟩⟩
      have sf : SqT K (Wo [u, D] Kf) q4 (cutV (makV m) (some ((rn + 1 : Nat) : Int)) none) := sf
      rw [cut_suf (show rn + 1 ≤ (makV m).length by show rn + 1 ≤ 4; omega)] at sf
      have tf := te.gr ff
      refine a_ttW (S := [u, D]) ((ff.wo [u, D]).seqT se) sf (sl (by rw [List.length_append, List.length_take, List.length_drop, mk4]; show min rn 4 + 1 + _ ≤ 3000; omega)) (fun p hp => tf.new hp) fun q5 Kg fg sg => ?_
      have tg := tf.gr fg
      have wag := (wae.trans (ff.wo [u, D])).trans (fg.wo [u, D])
      refine ⟨D, zs, .ref q5, rfl, rfl, tg.hD, sl (by omega), ?_⟩
      refine ⟨zs ++ [.ref q5], _, _, _, rfl, tg.push (e := .tuple ((makF m).take rn ++ [e] ++ (makF m).drop (rn + 1))) (.tup sg (ddA_app (ddA_app (ddA_take rn (dd_makV m)) (.cons (wag.dd _ _ de) .nil)) (ddA_drop (rn + 1) (dd_makV m)))) (ask_tup (fun x hx => okm x (List.mem_of_mem_take hx)) (fun x hx => okm x (List.mem_of_mem_drop hx)) he ?_), by rw [List.length_append]; show zs.length + 1 ≤ _; omega⟩
      rw [List.length_take, List.length_drop]
      have : (makF m).length = 4 := rfl
      omega
    · clear st zl
      rintro σ H1 ⟨zs, o5, o6, o7, rfl, st, zl⟩
      obtain ⟨m, t, hm, rfl, sm⟩ := st.rb.at_ hx
      have okm := makF_cln (hok m (List.mem_of_getElem? hm)) nsin
      refine ⟨_, rfl, _, rfl, _, rfl, lsU_q (.inr sm) fun p1 e1 => ?_⟩
      have n1 := st.new e1
      refine newH e1 fun K1 f1 s1 => ?_
      have t1 := st.gr f1
      have smw := wo_seqT t1.two (f1.seqT sm)
      refine ⟨_, rfl, _, rfl, sl_tV (S := [u, D]) smw (fun p hp => t1.new hp) fun p2 K2 f2 s2 => ?_⟩
      have s2 : SqT K (Wo [u, D] K2) p2 ((makV m).take 3) := by
        rw [← cut_pre (show 3 ≤ (makV m).length by show 3 ≤ 4; decide)]
        exact s2
      have t2 := t1.gr f2
      refine ⟨_, rfl, sl (by show 1 ≤ 3000; decide), fun p3 e3 => ?_⟩
      have n3 := t2.new e3
      refine newH e3 fun K3 f3 s3 => ?_
      have t3 := t2.gr f3
      have w13 := ((f2.trans f3).wo [u, D]).seqT smw
      refine a_ttW (S := [u, D]) w13 (SqT.of (wo_some n3 s3)) (sl (by show 4 + 1 ≤ 3000; decide)) (fun p hp => t3.new hp) fun p4 K4 f4 s4 => ?_
      have t4 := t3.gr f4
      refine ⟨sl (by show 4 ≤ 3000; decide), fun L eL => ?_⟩
      refine newH eL fun K5 f5 s5 => ?_
      have t5 := t4.gr f5
      refine a_ll t5.hD s5 (sl (by show zs.length + 4 ≤ 3000; omega)) fun D2 eD2 => ?_
      have D2u := t5.hu.ou eD2
      have D2c := t5.hu.oc eD2
      have D20 : H0 D2 = none := t5.g0.free D2u eD2
      have F15 := (((f2.trans f3).trans f4).trans f5)
      have th5 : ThP Ask K [u, D] K5 (zs ++ [.ref t, .ref p1, .ref p2, .ref p4]) := by
        refine t5.th.app ?_
        refine ThP.cons (d := .tuple (makF m)) (.tup ((F15.wo [u, D]).seqT smw) (dd_makV m)) (ask_cln okm (by show 4 ≤ 10; decide)).1 ?_
        refine ThP.cons (d := .list (makF m)) (.lst (SqL.of (wo_some n1 (F15.lst s1))) (dd_makV m)) (ask_cln okm (by show 4 ≤ 10; decide)).2 ?_
        refine ThP.cons (d := .tuple ((makF m).take 3)) (.tup ((((f3.trans f4).trans f5).wo [u, D]).seqT s2) (ddA_take 3 (dd_makV m))) (ask_cln (fun x hx => okm x (List.mem_of_mem_take hx)) (by show 3 ≤ 10; decide)).1 ?_
        refine ThP.cons (d := .tuple (makF m ++ [.int 0])) (.tup ((f5.wo [u, D]).seqT s4) (ddA_app (dd_makV m) (.cons (.int _) .nil))) (ask_cln (fun x hx => ?_) (by show 5 ≤ 10; decide)).1 ThP.nil
        rcases List.mem_append.mp hx with hx | hx
        · exact okm x hx
        · rw [List.mem_singleton.mp hx]
          exact Cln.int (by decide)
      have g6 : Gr K5 (upd K5 D2 (.lst (zs ++ [.ref t, .ref p1, .ref p2, .ref p4]))) := Gr.new eD2
      refine ⟨D2, _, _, _, _, _, rfl, ⟨g6.tabG t5.tb, t5.hu.gr g6, upd_same, ?_, D2u, D2c, t5.fs.gr g6, g6.seqT t5.sx, t5.rb.gr g6, D20, gruD t5.g0 D20⟩, by rw [List.length_append]; show zs.length + 4 ≤ _; omega⟩
      exact (th5.gr (wo_sub (S' := [u]) (by simp) K5)).gr (wo_more eD2)
  rintro σ H1 ⟨D, zs, o4, o5, o6, o7, rfl, st, zl⟩
  refine ⟨_, rfl, D, rfl, ⟨_, SqL.of st.hD⟩, ?_⟩
  refine for_list (K := K) (a := D) (xs := zs) (fun i σ H' => ∃ (o8 o9 : Option V), σ = [some (.ref u), some (.ref d), some (.ref a), some (.ref D), o4, o5, o6, o7, o8, o9] ∧ St K c u D d a kvs Fs xs ms H0 H' zs)
    ⟨none, none, rfl, st⟩ ?_ ?_ ?_
  · rintro i σ H' _ ⟨o8, o9, rfl, st⟩
    exact SqL.of st.hD
  · clear st
    rintro i x σ H' hx ⟨o8, o9, rfl, st⟩
    obtain ⟨e, ae, dde⟩ := st.th.mem (List.mem_of_getElem? hx)
    have dx := (wo_gr _ _).dd _ _ dde
    obtain ⟨f1, f2, f3, f4⟩ := ae.four
    have hn : KeyN kvs (Fs.map Fo.name) := st.fs.k.keys
    refine ⟨_, rfl, x, e, rfl, dx, f1, f2, f3, f4, ?_⟩
    refine ⟨_, rfl, _, rfl, d, kvs, _, x, e, rfl, st.fs.e, hn, dx, ae.tx, st.tb, fun HA gA => ?_⟩
    have stA := st.gr gA
    refine ⟨_, rfl, _, rfl, d, kvs, _, x, e, rfl, stA.fs.e, hn, gA.dd _ _ dx, ae.tx, fun HB gB => ?_⟩
    have ab : Ask (.bool (isMkr (Fs.map Fo.name) e)) := Odd.ask (Cln.bl _).odd
    refine ⟨_, _, .bool (isMkr (Fs.map Fo.name) e), .bool (isMkr (Fs.map Fo.name) e), rfl, .bl _, .bl _, ab.four, ab.four, ⟨_, rfl, ?_⟩⟩
    rw [decide_eq_true rfl]
    have gAB := gA.trans gB
    refine iteF ⟨_, rfl, x, e, rfl, gAB.dd _ _ dx, f1, f2, f3, f4, _, rfl, wn_flat rfl ⟨_, rfl, ?_⟩⟩
    rw [decide_eq_true rfl]
    exact iteF ⟨_, _, rfl, st.gr gAB⟩
  rintro σ H' ⟨o8, o9, rfl, st⟩
  exact k H' st.g0 st.hu st.tb
end
end Vf
end
section
set_option Elab.async false
set_option linter.all false
set_option maxRecDepth 100000
set_option maxHeartbeats 4000000
namespace Vf
open PySem PySem.Spec PyProof.Rows L2 GxR GenW RZ
abbrev s_law : Stmt := top 86
abbrev n_law : List Str := ["script", "urn", "turn", "forms", "makers", "here", "names", "features", "content", "step", "maker", "some", "feature", "due"]
abbrev p_law : List Str := ["script"]
theorem sc_law : FnScope n_law p_law (defScope s_law) := ⟨rfl, rfl, rfl, by decide +kernel, rfl, by decide +kernel, by decide +kernel⟩

structure Tbs (K : PySem.W.Frag) (H : Hp) : Prop where
  w : TabG H (tb K "is_word")
def spLaw (K : PySem.W.Frag) : Sp := fun vs H Q _ => ∃ (a : Addr) (ns : List Int), vs = [.ref a] ∧ SqL K H a (ns.map V.int) ∧ ns.length ≤ 63 ∧ Tbs K H ∧ ∀ H', Q (.bl true) H'
theorem keep_sub {A B : List Str} (h : ∀ x ∈ A, x ∈ B) (m : Fm) : keepM B (keepM A m) = keepM A m := by
  unfold keepM
  rw [op_op]
  refine op_congr (fun g hg => ?_) m
  unfold orD keepS
  by_cases e : g ∈ A
  · have e2 := h g e
    simp [e, e2, hg]
  · simp [e, hg]
theorem keep_fil {A B : List Str} (m : Fm) : keepM B (keepM A m) = keepM (A.filter fun x => decide (x ∈ B)) m := by
  unfold keepM
  rw [op_op]
  refine op_congr (fun g hg => ?_) m
  unfold orD keepS
  by_cases e : g ∈ A
  · by_cases e2 : g ∈ B
    · simp [e, e2, hg, List.mem_filter]
    · simp [e, e2, hg, List.mem_filter]
  · simp [e, hg, List.mem_filter]
theorem way_snoc {F : List Fo} {ch : List Mak} {fs : List Fo} {g g' : Fo} {mk : Mak} (h : Way F ch fs) (hg : fs[ch.length]? = some g) (h1 : mk.s = g.name) (h2 : mk.t = g'.name) (h3 : g' ∈ F) : Way F (ch ++ [mk]) (fs ++ [g']) ∧ (fs ++ [g'])[(ch ++ [mk]).length]? = some g' := by
  have l := h.l
  refine ⟨⟨by rw [List.length_append, List.length_append, l]; rfl, fun f hf => ?_, fun i mk' f f2 e1 e2 e3 => ?_⟩, ?_⟩
  · rcases List.mem_append.mp hf with z | z
    · exact h.m f z
    · rw [List.mem_singleton.mp z]
      exact h3
  · have il : i < ch.length + 1 := by
      have := (List.getElem?_eq_some_iff.mp e1).1
      rw [List.length_append, List.length_singleton] at this
      exact this
    rw [List.getElem?_append_left (by omega)] at e2
    by_cases hi : i < ch.length
    · rw [List.getElem?_append_left hi] at e1
      rw [List.getElem?_append_left (by omega)] at e3
      exact h.e i mk' f f2 e1 e2 e3
    · have ie : i = ch.length := by omega
      subst ie
      rw [List.getElem?_append_right (Nat.le_refl _), Nat.sub_self] at e1
      rw [List.getElem?_append_right (by omega), show ch.length + 1 - fs.length = 0 by omega] at e3
      cases e1
      cases e3
      rw [hg] at e2
      cases e2
      exact ⟨h1, h2⟩
  · rw [List.length_append, List.length_singleton, List.getElem?_append_right (by omega), show ch.length + 1 - fs.length = 0 by omega]
    rfl
theorem wayM_app {fs : List Fo} {g' : Fo} {m : Fm} {i : Nat} (h : i < fs.length) : wayM (fs ++ [g']) m i = wayM fs m i := by
  unfold wayM
  rw [List.take_append_of_le_length (by omega)]
theorem allS_ok : (∀ s ∈ allS, OkSg s) ∧ allS ≠ [] ∧ allS.length ≤ 900 := by
  rw [allS_SG]
  refine ⟨fun s hs => ?_, by decide +kernel, by decide +kernel⟩
  obtain ⟨c, hc, rfl⟩ := List.mem_map.mp hs
  obtain ⟨a, b, _⟩ := SG31_ok.2 c hc
  exact ⟨c, rfl, by omega, b⟩
section
variable {P : Program} {w : World} {K : PySem.W.Frag} {mg : Str → Option Value} {base : Heap}
theorem ok_law {fd : FuncData} (F : FnP K "law" s_law fd) (T : TD K mg) (D__law_urn_of : Df P w K mg base "_law_urn_of" 1 p__law_urn_of (spUrnOf K)) (D__law_upto : Df P w K mg base "_law_upto" 2 p__law_upto spUpto) (D__law_choice : Df P w K mg base "_law_choice" 3 p__law_choice (spChoice K))
    (D__law_all_signs : Df P w K mg base "_law_all_signs" 1 p__law_all_signs spAll) (D__law_some_content : Df P w K mg base "_law_some_content" 7 p__law_some_content (spSContent K)) (D__law_some_forms : Df P w K mg base "_law_some_forms" 4 p__law_some_forms (spSForms K)) (D__law_some_makers : Df P w K mg base "_law_some_makers" 4 p__law_some_makers (spSMakers K))
    (D__law_objects_right : DfG P w K mg base "_law_objects_right" 4 p__law_objects_right (spObj K)) (D__law_written : Df P w K mg base "_law_written" 4 p__law_written (spWrite K)) (D__law_keeping : Df P w K mg base "_law_keeping" 3 p__law_keeping (spKeep K)) (D__law_carried : Df P w K mg base "_law_carried" 1 p__law_carried (spCarried K))
    (D_made : Df P w K mg base "made" 8 p_made (spMade K)) : FnG P w K mg base CX0 11 (He.fAd K ("law", none)) fd p_law (spLaw K) := by
  refine okQ F sc_law (fun vs H Q E h => by obtain ⟨a, ns, rfl, _⟩ := h; rfl) (fun A outer s H vs Q E hgu hr h => ?_)
  obtain ⟨a, ns, rfl, hS, hl, htb, k⟩ := h
  have sl : ∀ {n : Nat}, n ≤ 3000 → n ≤ sizeLine := fun h => by rw [sizeLine_eq]; omega
  refine ⟨_, (pss_cons (ps_set (i := 1) sc_law.nd rfl (by first | exact Or.inl rfl | exact Or.inr rfl) (pe_fn D__law_urn_of hr (by decide) rfl (pa_cons (pv 0) pa_nil)))
      (pss_cons (ps_for PassesOwn.never rfl (pi_range1 rfl T.b_range (pa_cons pe_int pa_nil)) (pg_name (i := 2) sc_law.nd rfl (by first | exact Or.inl rfl | exact Or.inr rfl))
      (pss_cons (ps_set (i := 3) sc_law.nd rfl (by first | exact Or.inl rfl | exact Or.inr rfl) (pe_fn D__law_some_forms hr (by decide) rfl (pa_cons (pv 1) (pa_cons (pe_op (u_add (K := K) rfl) pe_int (pe_fn D__law_upto hr (by decide) rfl (pa_cons (pv 1) (pa_cons pe_int pa_nil)))) pa_nil))))
      (pss_cons (ps_set (i := 4) sc_law.nd rfl (by first | exact Or.inl rfl | exact Or.inr rfl) (pe_fn D__law_some_makers hr (by decide) rfl (pa_cons (pv 1) (pa_cons (pv 3) (pa_cons pe_int pa_nil)))))
      (pss_cons (ps_if (pt_not (pt_val (pe_fnG hgu D__law_objects_right hr (by decide) rfl (pa_cons (pv 1) (pa_cons (pv 3) (pa_cons (pv 4) pa_nil))))))
      (pss_one (ps_ret pe_bl))
      pss_nil)
      (pss_cons (ps_set (i := 5) sc_law.nd rfl (by first | exact Or.inl rfl | exact Or.inr rfl) (pe_fn D__law_choice hr (by decide) rfl (pa_cons (pv 1) (pa_cons (pe_callTy (call_list_dK rfl) rfl T.b_list (by decide +kernel) (pa_cons (pv 3) pa_nil)) pa_nil))))
      (pss_cons (ps_par (i := 6) (j := 7) (by rfl) sc_law.nd rfl rfl (by decide) rfl rfl (pa_cons (pe_tup pa_nil) (pa_cons (pe_fn D__law_carried hr (by decide) rfl (pa_cons (pe_dget (hu_of hr) (pv 3) (pv 5) (fun _ _ => rfl)) pa_nil)) pa_nil)) (by rfl))
      (pss_cons (ps_set (i := 8) sc_law.nd rfl (by first | exact Or.inl rfl | exact Or.inr rfl) (pe_fn D__law_some_content hr (by decide) rfl (pa_cons (pv 1) (pa_cons (pe_op (u_add (K := K) rfl) (pe_fn0 D__law_all_signs hr (by decide) rfl) (pe_lst (pa_cons pe_str pa_nil))) pa_nil))))
      (pss_one (ps_for PassesOwn.never rfl (pi_range1 rfl T.b_range (pa_cons pe_int pa_nil)) (pg_name (i := 9) sc_law.nd rfl (by first | exact Or.inl rfl | exact Or.inr rfl))
      (pss_cons (ps_setLc (i := 11) (own := [("maker", 10)]) (g := gName 10) rfl sc_law.nd rfl rfl (sw_true rfl rfl rfl (by decide +kernel)) (k_tup (K := K) rfl (pv 4)) (blkOk_by (own := [("maker", 10)]) (N := n_law) (sc := defScope s_law) (by decide +kernel)) (fun _ _ _ _ _ => (pg_name (i := 10) sc_law.nd rfl (by first | exact Or.inl rfl | exact Or.inr rfl))) (fun _ _ _ _ _ => (pts_one (pt_cmpR (u_eqW (K := K) rfl hr.units) (pe_ix (u_ix (K := K) rfl) (pv 10) pe_int (fun _ _ => rfl)) (pv 5) (nomark _)))) (fun _ _ _ _ _ => (pv 10)))
      (pss_one (ps_if (pt_cmpR (u_neW (K := K) rfl hr.units) (pv 11) (pe_lst pa_nil) (nomark _))
      (pss_cons (ps_set (i := 10) sc_law.nd rfl (by first | exact Or.inl rfl | exact Or.inr rfl) (pe_fn D__law_choice hr (by decide) rfl (pa_cons (pv 1) (pa_cons (pv 11) pa_nil))))
      (pss_cons (ps_asg (pe_tup (pa_cons (pe_ix (u_ix (K := K) rfl) (pv 10) pe_int (fun _ _ => rfl)) (pa_cons (pe_op (u_add (K := K) rfl) (pv 6) (pe_tup (pa_cons (pe_ix (u_ix (K := K) rfl) (pv 10) pe_int (fun _ _ => rfl)) pa_nil))) pa_nil))) (kg_tup 2 (K := K) rfl rfl (pgs_cons (pg_name (i := 5) sc_law.nd rfl (by first | exact Or.inl rfl | exact Or.inr rfl)) (pgs_cons (pg_name (i := 6) sc_law.nd rfl (by first | exact Or.inl rfl | exact Or.inr rfl)) pgs_nil))))
      (pss_cons (ps_set (i := 7) sc_law.nd rfl (by first | exact Or.inl rfl | exact Or.inr rfl) (k_tuple (K := K) rfl rfl T.b_tuple (pe_lc (own := [("feature", 12)]) (g := gName 12) rfl sc_law.nd (k_tup (K := K) rfl (pv 7)) (blkOk_by (own := [("feature", 12)]) (N := n_law) (sc := defScope s_law) (by decide +kernel)) (fun _ _ _ _ _ => (pg_name (i := 12) sc_law.nd rfl (by first | exact Or.inl rfl | exact Or.inr rfl))) (fun _ _ _ _ _ => (pts_one (pt_cmpR (u_in (K := K) rfl) (pv 12) (pe_fn D__law_carried hr (by decide) rfl (pa_cons (pe_dget (hu_of hr) (pv 3) (pv 5) (fun _ _ => rfl)) pa_nil)) (by first | exact nomark _ | rfl)))) (fun _ _ _ _ _ => (pv 12)))))
      (pss_cons (ps_set (i := 13) sc_law.nd rfl (by first | exact Or.inl rfl | exact Or.inr rfl) (pe_fn D__law_written hr (by decide) rfl (pa_cons (pe_dget (hu_of hr) (pv 3) (pv 5) (fun _ _ => rfl)) (pa_cons (pe_fn D__law_keeping hr (by decide) rfl (pa_cons (pv 8) (pa_cons (pv 7) pa_nil))) pa_nil))))
      (pss_one (ps_if (pt_cmpR (u_neW (K := K) rfl hr.units) (pe_fn D_made hr (by decide) rfl (pa_cons (pv 3) (pa_cons (pv 4) (pa_cons (pv 6) (pa_cons (pv 8) pa_nil))))) (pv 13) (nomark _))
      (pss_one (ps_ret pe_bl))
      pss_nil))))))
      pss_nil))))))))))))
      (pss_one (ps_ret pe_bl)))), ?_⟩
  refine ⟨_, rfl, a, ns, rfl, hS, hl, fun u c H1 hu0 hc0 g1 hu1 => ?_⟩
  refine ⟨10, rfl, by decide, by decide, ?_⟩
  refine for_range (lo := 0) (n := 10) (fun i σ H' => ∃ o2 o3 o4 o5 o6 o7 o8 o9 o10 o11 o13, σ = [some (.ref a), some (.ref u), o2, o3, o4, o5, o6, o7, o8, o9, o10, o11, none, o13] ∧ Urn c H' u ∧ TabG H' (tb K "is_word"))
    ⟨none, none, none, none, none, none, none, none, none, none, none, rfl, hu1, g1.tabG htb.w⟩ ?_ ?_
  · rintro i σ H2 hi ⟨o2, o3, o4, o5, o6, o7, o8, o9, o10, o11, o13, rfl, hu2, tb2⟩
    refine ⟨_, rfl, _, rfl, u, c, 7, rfl, hu2, by decide, by decide, fun r H3 hr0 hr7 g3 hu3 => a_ii ?_⟩
    refine ⟨u, c, 1 + r, rfl, hu3, by omega, by omega, fun d kvs Fs H4 hF4 g4 hu4 => ?_⟩
    have tb4 := g4.tabG hu3 (g3.tabG hu2 tb2)
    refine ⟨_, rfl, _, rfl, u, c, d, kvs, Fs, rfl, hu4, hF4, fun p xs ms H5 g5 hu5 sx5 rb5 ndm okm l14 => ?_⟩
    have tb5 := g5.tabG hu4 tb4
    have hF5 := hF4.gru g5 hu4
    refine ⟨_, rfl, _, rfl, _, rfl, u, c, d, p, kvs, Fs, xs, ms, rfl, hu5, hF5, sx5, rb5, okm, l14, tb5, fun H6 g6 hu6 tb6 => ⟨_, rfl, iteF ?_⟩⟩
    have hF6 := hF5.gru g6 hu5
    have sx6 := g6.seqT hu5 sx5
    have rb6 : RB K makV H6 xs ms := rb5.mono fun _ _ q => g6.seqT hu5 q
    have look : ∀ {H' : Hp} {f : Fo}, FsAt K H' d kvs Fs → f ∈ Fs → ∃ t : Addr, DGet H' d (.str f.name) (some (.ref t)) ∧ SqT K H' t (strV f.strs) := fun h hf => by
      obtain ⟨t, e1, st⟩ := h.k.get h.nd hf
      exact ⟨t, e1 ▸ DGet.k (k := Sum.inr _) h.e, st⟩
    have ek : (kvs.map fun kv => kV kv.1) = strV (Fs.map Fo.name) := by
      have q2 := congrArg (List.map kV) hF6.k.keys
      rw [List.map_map, List.map_map, List.map_map] at q2
      unfold strV
      rw [List.map_map]
      exact q2
    -- where it begins
    refine ⟨_, rfl, _, rfl, d, kvs, rfl, hF6.e, fun L eL => ?_⟩
    have nL := hu6.ou eL
    refine newH eL fun H7 g7 s7 => ?_
    rw [ek] at s7
    have fl16 := hF6.l
    have nsne : strV (Fs.map Fo.name) ≠ [] := by
      unfold strV
      intro z
      exact hF6.ne (List.map_eq_nil_iff.mp (List.map_eq_nil_iff.mp z))
    have hu7 := hu6.gr g7
    refine ⟨u, c, L, _, rfl, hu7, nL, .inl (SqL.of s7), nsne, by unfold strV; rw [List.length_map, List.length_map]; omega, fun y H8 hy g8 hu8 => ?_⟩
    obtain ⟨x0, hx0, rfl⟩ := List.mem_map.mp hy
    obtain ⟨f0, if0, rfl⟩ := List.mem_map.mp hx0
    have hF8 := (hF6.gr g7).gru g8 hu7
    refine ⟨Nat.zero_le _, fun q1 e1 => ?_⟩
    refine newH e1 fun H9 g9 s9 => ?_
    have hF9 := hF8.gr g9
    obtain ⟨t0, dg0, st0⟩ := look hF9 if0
    refine ⟨_, rfl, _, rfl, d, .ref t0, rfl, dg0, t0, f0, rfl, st0, fun pc Ha ga sa => ?_⟩
    refine ⟨_, _, rfl, ?_⟩
    have G9b := g9.trans ga
    have hub := hu8.gr G9b
    -- the content
    refine ⟨_, rfl, rfl, fun l4 Hc gc e4 s4 => ?_⟩
    refine ⟨sl (by show 1 ≤ 3000; decide), fun q3 e3 => ?_⟩
    refine newH e3 fun Hd gd sd => ?_
    refine a_ll (gd.lst s4) sd (sl (by unfold strV; rw [List.length_map]; have := allS_ok.2.2; show _ + 1 ≤ 3000; omega)) fun qs es => ?_
    have hud := hub.gr (gc.trans gd)
    have nqs := hud.ou es
    refine newH es fun He ge se => ?_
    have se : He qs = some (.lst (strV (allS ++ ([chS 97] : List Str)))) := by
      rw [se]
      unfold strV
      rw [List.map_append]; rfl
    have hue := hud.gr ge
    refine ⟨u, c, qs, rfl, hue, ⟨nqs, allS ++ [chS 97], SqL.of se, by simp, by rw [List.length_append]; have := allS_ok.2.2; show _ + 1 ≤ 1000; omega, fun s hs => ?_⟩, fun p6 m Hf ok lm gf huf df => ?_⟩
    · rcases List.mem_append.mp hs with hs | hs
      · exact allS_ok.1 s hs
      · rw [List.mem_singleton.mp hs]
        exact ⟨97, rfl, by decide, by decide⟩
    have Gbe := (gc.trans gd).trans ge
    have hFf : FsAt K Hf d kvs Fs := (hF8.gr (G9b.trans Gbe)).gru gf hue
    have sxf : SqT K Hf p xs := gf.seqT hue ((G9b.trans Gbe).seqT (g8.seqT hu7 (g7.seqT sx6)))
    have rbf : RB K makV Hf xs ms := rb6.mono fun _ _ q => gf.seqT hue ((G9b.trans Gbe).seqT (g8.seqT hu7 (g7.seqT q)))
    have tbf : TabG Hf (tb K "is_word") := gf.tabG hue ((G9b.trans Gbe).tabG (g8.tabG hu7 (g7.tabG tb6)))
    have sqf : SqT K Hf q1 (strV ([] : List Str)) := gf.seqT hue (SqT.of ((ga.trans Gbe).tup s9))
    have spf : SqT K Hf pc (strV (carF f0)) := gf.seqT hue (Gbe.seqT sa)
    refine ⟨6, rfl, by decide, by decide, ?_⟩
    refine for_range (lo := 0) (n := 6) (fun j σ H' => ∃ (o9 o10 o11 o13 : Option V) (b fe : Addr) (ch : List Mak) (fs : List Fo) (g : Fo) (Fk : List Str), σ = [some (.ref a), some (.ref u), some (.int (0 + (i : Nat))), some (.ref d), some (.ref p), some (.str g.name), some (.ref b), some (.ref fe), some (.ref p6), o9, o10, o11, none, o13] ∧
      Urn c H' u ∧ GrU u Hf H' ∧ SqT K H' b (strV (ch.map Mak.n)) ∧ SqT K H' fe (strV Fk) ∧ Way Fs ch fs ∧ fs[ch.length]? = some g ∧ (∀ m ∈ ch, m ∈ ms) ∧ ch.length ≤ j ∧ wayM fs m ch.length = keepM Fk m ∧ (∀ x ∈ Fk, x ∈ carF g) ∧ Fk.length ≤ 5)
      ⟨_, _, _, _, q1, pc, [], [f0], f0, carF f0, rfl, huf, GrU.refl _ _, sqf, spf, ⟨rfl, fun f hf => by rw [List.mem_singleton.mp hf]; exact if0, fun i mk f g e => by simp at e⟩, rfl, by simp, Nat.le_refl _, rfl, fun x hx => hx, carF_len f0⟩ ?_ ?_
    · rintro j σ Hg hj ⟨o9, o10, o11, o13, b, fe, ch, fs, g, Fk, rfl, hug, gg, sb, sfe, way, hgl, hin, hcl, hw, hFk, hl5⟩
      have hFg := hFf.gru gg huf
      have sxg : SqT K Hg p xs := gg.seqT huf sxf
      have rbg : RB K makV Hg xs ms := rbf.mono fun _ _ q => gg.seqT huf q
      have dg : Dd K Hg (.ref p6) (coD m) := (gg.n huf).dd _ _ (nl_co m) df
      have igF : g ∈ Fs := way.m g (List.mem_of_getElem? hgl)
      refine ⟨_, rfl, p, rfl, ⟨_, sxg⟩, fun D hD => ?_⟩
      refine lc_tup (K := K) (a := p) (xs := xs) (fun j H' => ∃ (ys : List V) (Ms : List Mak), Gr Hg H' ∧ H' D = some (.lst ys) ∧ RB K makV H' ys Ms ∧ (∀ m ∈ Ms, m ∈ ms ∧ m.s = g.name) ∧ Ms.length ≤ j) ⟨[], [], Gr.new hD, upd_same, RB.nil, by simp, Nat.le_refl _⟩ ?_ ?_ ?_
      · rintro j H' _ ⟨ys, Ms, G, _⟩
        exact G.seqT sxg
      · rintro j x H' hx ⟨ys, Ms, G, hL, hY, hM, hMl⟩
        obtain ⟨mk, t, hmk, rfl, st⟩ := rbg.at_ hx
        have jl := (List.getElem?_eq_some_iff.mp hmk).1
        have st' := G.seqT st
        refine ⟨rfl, ?_⟩
        refine ⟨_, rfl, x_t st' rfl ⟨_, rfl, we_flat rfl ⟨_, rfl, ite2 (fun h1 => ?_) (fun h1 => ?_)⟩⟩⟩
        · have es : mk.s = g.name := V.str.inj (of_decide_eq_true h1)
          refine ⟨_, rfl, ys, hL, by rw [hY.1, sizeLine_eq]; omega, ys ++ [.ref t], Ms ++ [mk], G.upd' hD, upd_same, (hY.mono fun t ys q => upd_seqT hL t ys q).snoc (upd_seqT hL _ _ st'), fun m' hm' => ?_, by rw [List.length_append]; show _ + 1 ≤ _; omega⟩
          rcases List.mem_append.mp hm' with z | z
          · exact hM m' z
          · rw [List.mem_singleton.mp z]
            exact ⟨List.mem_of_getElem? hmk, es⟩
        · exact ⟨ys, Ms, G, hL, hY, hM, by omega⟩
      rintro Hh ⟨ys, Ms, gh, hLh, hY, hM, hMl⟩
      rw [rbg.1] at hMl
      have huh := hug.gr gh
      have Dn : D ≠ u := hug.ou hD
      refine ⟨_, rfl, Nat.zero_le _, fun q4 e4 => ?_⟩
      refine newH e4 fun Hi gi si => ?_
      have hui := huh.gr gi
      have hLi := gi.lst hLh
      have hYi := hY.gr gi
      have Ghi := gh.trans gi
      refine wn_nil (SqL.of hLi) (SqL.of si) ⟨_, rfl, ite2 (fun h1 => ?_) (fun h1 => ?_)⟩
      · have yne : ys ≠ [] := by simpa using h1
        refine ⟨_, rfl, _, rfl, u, c, D, ys, rfl, hui, Dn, .inl (SqL.of hLi), yne, by rw [hYi.1]; omega, fun y Hj hy gj huj => ?_⟩
        obtain ⟨mk, t, hmk, rfl, st⟩ := hYi.mem hy
        obtain ⟨mkin, mks⟩ := hM mk hmk
        have okmk := okm mk mkin
        obtain ⟨g', ig', eg'⟩ := List.mem_map.mp okmk.t
        have stj := gj.seqT hui st
        have sbj : SqT K Hj b (strV (ch.map Mak.n)) := gj.seqT hui (Ghi.seqT sb)
        refine ⟨_, rfl, x_t stj rfl ?_⟩
        refine ⟨_, rfl, _, rfl, x_t stj rfl ⟨sl (by show 1 ≤ 3000; decide), fun q5 e5 => ?_⟩⟩
        refine newH e5 fun Hk gk sk => ?_
        refine a_tA (gk.seqT sbj) (SqT.of sk) (sl (by unfold strV; rw [List.length_map, List.length_map]; show _ + 1 ≤ 3000; omega)) fun b' Hl gl sl' => ?_
        have sl' : SqT K Hl b' (strV ((ch ++ [mk]).map Mak.n)) := by
          have e : strV ((ch ++ [mk]).map Mak.n) = strV (ch.map Mak.n) ++ [V.str mk.n] := by unfold strV; rw [List.map_append, List.map_append]; rfl
          rw [e]
          exact sl'
        refine ⟨sl (by show 2 ≤ 3000; decide), fun q6 e6 => ?_⟩
        refine newH e6 fun Hm gm sm => ?_
        refine ⟨q6, _, rfl, SqT.of sm, rfl, _, _, rfl, _, _, rfl, rfl, ?_⟩
        have Gjm := (gk.trans gl).trans gm
        have hum := huj.gr Gjm
        have hFm : FsAt K Hm d kvs Fs := ((hFg.gr Ghi).gru gj hui).gr Gjm
        have sfem : SqT K Hm fe (strV Fk) := Gjm.seqT (gj.seqT hui (Ghi.seqT sfe))
        have sb' : SqT K Hm b' (strV ((ch ++ [mk]).map Mak.n)) := gm.seqT sl'
        -- the features
        refine ⟨_, rfl, fe, rfl, ⟨_, sfem⟩, fun D2 hD2 => ?_⟩
        refine lc_tup (K := K) (a := fe) (xs := strV Fk) (fun j H' => Gr Hm H' ∧ H' D2 = some (.lst (strV ((Fk.take j).filter fun x => decide (x ∈ carF g'))))) ⟨Gr.new hD2, upd_same⟩ ?_ ?_ ?_
        · rintro j H' _ ⟨G, _⟩
          exact G.seqT sfem
        · rintro j x H' hx ⟨G, hL⟩
          obtain ⟨z, hz, rfl⟩ := strV_get hx
          have jl := (List.getElem?_eq_some_iff.mp hz).1
          obtain ⟨tg, dgg, stg⟩ := look (hFm.gr G) ig'
          refine ⟨rfl, ?_⟩
          refine ⟨_, rfl, _, rfl, _, rfl, d, .ref tg, rfl, by show DGet H' d (.str mk.t) _; rw [← eg']; exact dgg, tg, g', rfl, stg, fun pc2 Hn gn sn => in_seq (.inr sn) rfl (strV_flat _) ⟨_, rfl, ?_⟩⟩
          have ei : inV (.str z) (strV (carF g')) = decide (z ∈ carF g') := by
            rw [Bool.eq_iff_iff, inV_str, decide_eq_true_iff]
          show if inV (.str z) (strV (carF g')) = true then _ else _
          rw [ei]
          have hLn := gn.lst hL
          by_cases hzc : z ∈ carF g'
          · rw [decide_eq_true hzc]
            refine iteT ⟨_, rfl, _, hLn, ?_, (G.trans gn).upd' hD2, ?_⟩
            · unfold strV
              rw [List.length_map, sizeLine_eq]
              refine Nat.lt_of_le_of_lt (List.length_filter_le _ _) ?_
              rw [List.length_take]
              omega
            · rw [upd_same, take_snoc hz, List.filter_append]
              have : [z].filter (fun x => decide (x ∈ carF g')) = [z] := by rw [List.filter_cons, if_pos (decide_eq_true hzc)]; rfl
              rw [this]
              unfold strV
              rw [List.map_append]; rfl
          · rw [decide_eq_false hzc]
            refine iteF ⟨G.trans gn, ?_⟩
            rw [hLn, take_snoc hz, List.filter_append]
            have : [z].filter (fun x => decide (x ∈ carF g')) = [] := by rw [List.filter_cons, if_neg (by rw [decide_eq_false hzc]; decide)]; rfl
            rw [this, List.append_nil]
        rintro Hn ⟨gn, hLn⟩
        have fkl : (strV Fk).length = Fk.length := by unfold strV; rw [List.length_map]
        rw [fkl, List.take_length] at hLn
        refine ⟨.inl ⟨D2, _, rfl, SqL.of hLn, fun q7 e7 => ?_⟩⟩
        refine newH e7 fun Ho go so => ?_
        have Gmo := gn.trans go
        generalize eFk : (Fk.filter fun x => decide (x ∈ carF g')) = Fk' at so
        have hFk' : ∀ x ∈ Fk', x ∈ carF g' := fun x hx => by
          rw [← eFk] at hx
          exact of_decide_eq_true (List.mem_filter.mp hx).2
        have hFkl : Fk'.length ≤ 5 := by
          rw [← eFk]
          exact Nat.le_trans (List.length_filter_le _ _) hl5
        -- what is due
        have hFo := hFm.gr Gmo
        obtain ⟨tg, dgg, stg⟩ := look hFo ig'
        have dgo : Dd K Ho (.ref p6) (coD m) := Gmo.dd _ _ (Gjm.dd _ _ ((gj.n hui).dd _ _ (nl_co m) (Ghi.dd _ _ dg)))
        refine ⟨_, rfl, _, rfl, d, .ref tg, rfl, by show DGet Ho d (.str mk.t) _; rw [← eg']; exact dgg, _, rfl, _, rfl, _, q7, Fk', m, rfl, SqT.of so, dgo, ok, fun vk Hp gp dk => ?_⟩
        refine ⟨tg, g', vk, keepM Fk' m, rfl, gp.seqT stg, dk, ok.op _, by rw [keepM_len]; exact lm, fun tx Hq ct gq => ?_⟩
        have Goq := gp.trans gq
        obtain ⟨way', hgl'⟩ := way_snoc (mk := mk) (g' := g') way hgl mks eg'.symm ig'
        have Gall := Gmo.trans Goq
        have hFq := hFo.gr Goq
        have toq : ∀ {t : Addr} {ys : List V}, SqT K Hg t ys → SqT K Hq t ys := fun q => Gall.seqT (Gjm.seqT (gj.seqT hui (Ghi.seqT q)))
        have hin' : ∀ m' ∈ ch ++ [mk], m' ∈ ms := fun m' hm' => by
          rcases List.mem_append.mp hm' with z | z
          · exact hin m' z
          · rw [List.mem_singleton.mp z]
            exact mkin
        have wl := way.l
        have hw' : wayM (fs ++ [g']) m (ch ++ [mk]).length = keepM Fk' m := by
          rw [List.length_append, List.length_singleton]
          have e : (fs ++ [g'])[ch.length + 1]? = some g' := by rw [← hgl', List.length_append, List.length_singleton]
          rw [wayM_succ e, wayM_app (by omega), hw, keep_fil, eFk]
        refine ⟨_, rfl, _, rfl, _, rfl, _, rfl, d, p, b', .ref p6, kvs, Fs, xs, ms, ch ++ [mk], fs ++ [g'], m, g', rfl, hFq.e, hFq.k, hFq.nd, hFq.o, toq sxg, rbg.mono (fun _ _ q => toq q), ndm, by omega, Gall.seqT sb', hin', by rw [List.length_append]; show _ + 1 ≤ 1000; omega, by simp, way', hgl', Goq.dd _ _ dgo, ok, lm, fun t2 Hr ct2 gr2 => ?_⟩
        have et : t2 = tx := cps_inj (by rw [ct2, ct, hw', keep_sub hFk'])
        subst et
        refine ⟨_, rfl, wn_flat rfl ⟨_, rfl, ?_⟩⟩
        rw [decide_eq_true rfl]
        refine iteF ?_
        have GG : GrU u Hf Hr := (((gg.trans Ghi.u).trans gj).trans Gjm.u).trans (Gall.trans gr2).u
        refine ⟨some (.int (0 + (j : Nat))), some (.ref t), some (.ref D), some (.str t2), b', q7, ch ++ [mk], fs ++ [g'], g', Fk', ?_, hum.gr (Gall.trans gr2), GG, (Gall.trans gr2).seqT sb', (Goq.trans gr2).seqT (SqT.of so), way', hgl', hin', by rw [List.length_append]; show _ + 1 ≤ _; omega, hw', hFk', hFkl⟩
        rw [eg']
        rfl
      · exact ⟨_, _, _, _, b, fe, ch, fs, g, Fk, rfl, hui, gg.trans Ghi.u, Ghi.seqT sb, Ghi.seqT sfe, way, hgl, hin, by omega, hw, hFk, hl5⟩
    · rintro σ Hg ⟨o9, o10, o11, o13, b, fe, ch, fs, g, Fk, rfl, hug, gg, _⟩
      exact ⟨_, _, _, _, _, _, _, _, _, _, _, rfl, hug, gg.tabG huf tbf⟩
  · rintro σ H2 ⟨o2, o3, o4, o5, o6, o7, o8, o9, o10, o11, o13, rfl, hu2, tb2⟩
    exact k _
end
end Vf
end
section
set_option Elab.async false
set_option linter.all false
set_option maxRecDepth 100000
set_option maxHeartbeats 0
namespace Vf
open PySem PySem.Spec PyProof.Rows L2 GxR GenW RZ
/-! ### the head: what stands where the law is called -/
def dd (x : Str) (st : Stmt) : He.DefD := ⟨(x, none), x, x, defArgs st, defBody st, defScope st, [], []⟩
def dm (c m q : Str) (st : Stmt) : He.DefD := ⟨(c, some m), m, q, defArgs st, defBody st, defScope st, [], []⟩
def fns : List He.DefD := ([dd "is_word" s_is_word, dd "is_integer" s_is_integer, dd "drop" s_drop, dd "keep" s_keep, dd "one_cell" s_one_cell, dd "unmarked_cells" s_unmarked_cells, dd "unmarked_cell" s_unmarked_cell, dd "unmarked" s_unmarked, dd "merged" s_merged, dd "carried" s_carried, dd "signs_of" s_signs_of, dd "write" s_write, dd "written_line" s_written_line, dd "written_cell" s_written_cell, dd "written_change" s_written_change, dd "escaped" s_escaped, dd "read" s_read, dd "read_line" s_read_line, dd "read_depth" s_read_depth, dd "is_name" s_is_name] : List He.DefD) ++ ([dd "is_maker" s_is_maker, dd "made" s_made, dd "named" s_named, dd "chain_of" s_chain_of, dd "_law_churned" s__law_churned, dd "_law_urn_of" s__law_urn_of, dd "_law_upto" s__law_upto, dd "_law_choice" s__law_choice, dd "_law_equal" s__law_equal, dd "_law_some_text" s__law_some_text, dd "_law_some_marks" s__law_some_marks, dd "_law_joined" s__law_joined, dd "_law_some_cell" s__law_some_cell, dd "_law_some_line" s__law_some_line, dd "_law_some_content" s__law_some_content, dd "_law_dropped" s__law_dropped, dd "_law_keeping" s__law_keeping, dd "_law_some_set" s__law_some_set, dd "_law_all_signs" s__law_all_signs, dd "_law_some_form" s__law_some_form] : List He.DefD) ++ ([dd "_law_switched" s__law_switched, dd "_law_cell_text" s__law_cell_text, dd "_law_carried" s__law_carried, dd "_law_written" s__law_written, dd "_law_some_forms" s__law_some_forms, dd "_law_some_makers" s__law_some_makers, dd "_law_unlike" s__law_unlike, dd "_law_maker_due" s__law_maker_due, dd "_law_objects_right" s__law_objects_right, dd "law" s_law, dm "CellsReader" "need_room" "CellsReader.need_room" s_CellsReader__need_room, dm "CellsReader" "put" "CellsReader.put" s_CellsReader__put, dm "CellsReader" "end_cell" "CellsReader.end_cell" s_CellsReader__end_cell, dm "CellsReader" "take_cell_sign" "CellsReader.take_cell_sign" s_CellsReader__take_cell_sign, dm "CellsReader" "take_escaped" "CellsReader.take_escaped" s_CellsReader__take_escaped, dm "CellsReader" "take_in_word" "CellsReader.take_in_word" s_CellsReader__take_in_word, dm "CellsReader" "take_sign" "CellsReader.take_sign" s_CellsReader__take_sign, dm "CellsReader" "take" "CellsReader.take" s_CellsReader__take, dm "CellsReader" "finished" "CellsReader.finished" s_CellsReader__finished, dm "CellsReader" "__init__" "CellsReader.__init__" s_CellsReader____init__] : List He.DefD)
def fcs : List He.Fa := ([.glo "is_word", .glo "is_integer", .glo "drop", .glo "keep", .glo "one_cell", .glo "unmarked_cells", .glo "unmarked_cell", .glo "unmarked", .glo "merged", .glo "carried", .glo "signs_of", .glo "write", .glo "written_line", .glo "written_cell", .glo "written_change", .glo "escaped", .glo "read", .glo "read_line", .glo "read_depth", .glo "is_name"] : List He.Fa) ++ ([.glo "is_maker", .glo "made", .glo "named", .glo "chain_of", .glo "_law_churned", .glo "_law_urn_of", .glo "_law_upto", .glo "_law_choice", .glo "_law_equal", .glo "_law_some_text", .glo "_law_some_marks", .glo "_law_joined", .glo "_law_some_cell", .glo "_law_some_line", .glo "_law_some_content", .glo "_law_dropped", .glo "_law_keeping", .glo "_law_some_set", .glo "_law_all_signs", .glo "_law_some_form"] : List He.Fa) ++ ([.glo "_law_switched", .glo "_law_cell_text", .glo "_law_carried", .glo "_law_written", .glo "_law_some_forms", .glo "_law_some_makers", .glo "_law_unlike", .glo "_law_maker_due", .glo "_law_objects_right", .glo "law", .glo "CellsReader", .glo "PLAIN", .glo "FEATURES", .glo "NO_MARKS", .free "range", .free "abs", .free "enumerate", .free "len", .free "int", .free "repr"] : List He.Fa) ++ ([.free "str", .free "tuple", .free "list", .free "zip", .free "all", .free "isinstance", .free "bool", .int "MOST_WORD_CHARACTERS" 12, .int "MOST_LINES" 200, .int "MOST_DEPTH" 6, .int "MOST_CELLS" 12, .int "MOST_CELL_CHARACTERS" 40, .int "MOST_ONLY_CELL_CHARACTERS" 491, .int "CELL" 1, .int "LEVEL" 2, .int "BOLD" 3, .int "SLANT" 4, .int "OPENING" 5, .int "MIDDLE" 6, .int "END" 7] : List He.Fa) ++ ([.int "ESCAPE" 8, .int "NAME" 0, .int "SOURCE" 1, .int "TARGET" 2, .int "MOST_COST" 1000, .str "WORD_CHARACTERS" "abcdefghijklmnopqrstuvwxyz0123456789", .meth "CellsReader" "need_room", .meth "CellsReader" "put", .meth "CellsReader" "end_cell", .meth "CellsReader" "take_cell_sign", .meth "CellsReader" "take_escaped", .meth "CellsReader" "take_in_word", .meth "CellsReader" "take_sign", .meth "CellsReader" "take", .meth "CellsReader" "finished", .cls "CellsReader", .mkr "CellsReader", .noat "CellsReader" "form", .noat "CellsReader" "signs", .noat "CellsReader" "number"] : List He.Fa) ++ ([.noat "CellsReader" "column", .noat "CellsReader" "cells", .noat "CellsReader" "pieces", .noat "CellsReader" "link_word", .noat "CellsReader" "bold", .noat "CellsReader" "slant", .noat "CellsReader" "word", .noat "CellsReader" "is_escaping"] : List He.Fa)
def exs (K : PySem.W.Frag) : Bool := He.tupB K "PLAIN" ((["plain", "", "", "", "", "", "", "", ""] : List Str).map He.Dv.str) && He.tupB K "FEATURES" ((five : List Str).map He.Dv.str) && He.tupB K "NO_MARKS" [.str "", .bl false, .bl false]
def tfs : List He.Defn := [("is_word", none)]
abbrev R : PySem.W.OpenRow := PySem.W.OpenLaw.row PySem.Challenge.rw_clipforms_k07_makers_and_chains
abbrev hk : PySem.W.Hook := He.hookX 5 fcs fns [] tfs exs
def ob (s : PySem.W.SharedT) : He.AlX := He.obsX 5 fcs fns [] tfs exs (HandSHeadRun.getT s)
theorem ob_eq (s : PySem.W.SharedT) : ob s = hk.obs s.abs := He.obsX_eq (HandSHeadRun.getT_eq s)
def loose : List Str := (["FEATURES", "NO_MARKS", "WORD_CHARACTERS", "MOST_WORD_CHARACTERS", "MOST_LINES", "MOST_DEPTH", "MOST_CELLS", "MOST_CELL_CHARACTERS", "MOST_ONLY_CELL_CHARACTERS", "is_word", "is_integer", "drop", "keep", "one_cell", "unmarked_cells", "unmarked_cell", "unmarked", "merged", "ClipError", "SyntaxProblem"] : List Str) ++ (["PLAIN", "CELL", "LEVEL", "BOLD", "SLANT", "OPENING", "MIDDLE", "END", "ESCAPE", "carried", "signs_of", "write", "written_line", "written_cell", "written_change", "escaped", "read", "read_line", "read_depth", "CellsReader"] : List Str) ++ (["NAME", "SOURCE", "TARGET", "is_name", "MOST_COST", "is_maker", "made", "named", "chain_of", "_law_churned", "_law_urn_of", "_law_upto", "_law_choice", "_law_equal", "_law_some_text", "_law_some_marks", "_law_joined", "_law_some_cell", "_law_some_line", "_law_some_content"] : List Str) ++ (["_law_dropped", "_law_keeping", "_law_features_of", "_law_some_set", "_law_all_signs", "_law_some_form", "_law_switched", "_law_cell_text", "_law_carried", "_law_written", "_law_some_forms", "_law_some_makers", "_law_unlike", "_law_within", "_law_fit", "_law_spread", "_law_labelled", "_law_answer_due", "_law_maker_due", "_law_objects_right"] : List Str)
theorem runH (w : World) : HandSHeadRun.RunEq R (PySem.W.view R.prog [86]) hk ob 40000 loose w := by
  intro os
  kernel_rfl
end Vf
end
section
set_option Elab.async false
set_option linter.all false
set_option maxRecDepth 100000
set_option maxHeartbeats 0
namespace Vf
open PySem PySem.Spec PyProof.Rows L2 GxR GenW RZ
section
variable {P : Program} {w : World} {K : PySem.W.Frag} {h : Heap} {mg : Str → Option Value} {base : Heap}
theorem fnd (c : He.SaysD fcs fns K) {x : Str} {st : Stmt} (hm : dd x st ∈ fns) : ∃ fd, FnP K x st fd := c.defs hm
theorem mk1 {x : Str} {st : Stmt} {k : Nat} {ps : List Str} {sp : Sp} {fd : FuncData} (X : K.In h) (G : h.Ns mainGlobals mg) (c : He.SaysD fcs fns K) (F : FnP K x st fd) (hg : He.Fa.glo x ∈ fcs) (O : FnOk P w K mg base CX0 k (He.fAd K (x, none)) fd ps sp)
    (hb : ∀ (kV doc pm : Value) (an : Option Addr) (cdv ct : Value) (us : List Value), us.length = ps.length → bindArgs (PySem.W.fnOf x x (defArgs st) (defBody st) (defScope st) .none kV doc pm an cdv ct) ⟨us, []⟩ = pure (ps.zip us)) : Df P w K mg base x k ps sp :=
  ⟨⟨_, fd, O, He.glo_ok X G (c.facts hg), F.kp, F.bindsN hb⟩⟩
theorem mk2 {x : Str} {st : Stmt} {k : Nat} {ps : List Str} {sp : Sp} {fd : FuncData} (X : K.In h) (G : h.Ns mainGlobals mg) (c : He.SaysD fcs fns K) (F : FnP K x st fd) (hg : He.Fa.glo x ∈ fcs) (O : FnG P w K mg base CX0 k (He.fAd K (x, none)) fd ps sp)
    (hb : ∀ (kV doc pm : Value) (an : Option Addr) (cdv ct : Value) (us : List Value), us.length = ps.length → bindArgs (PySem.W.fnOf x x (defArgs st) (defBody st) (defScope st) .none kV doc pm an cdv ct) ⟨us, []⟩ = pure (ps.zip us)) : DfG P w K mg base x k ps sp :=
  ⟨⟨_, fd, O, He.glo_ok X G (c.facts hg), F.kp, F.bindsN hb⟩⟩
abbrev FmQ (C : Str) (K : PySem.W.Frag) (m q : Str) (st : Stmt) (fd : FuncData) : Prop := FunD K m q (defArgs st) (defBody st) (defScope st) [] [] (He.fAd K (C, some m)) fd
theorem fndM (c : He.SaysD fcs fns K) {C m q : Str} {st : Stmt} (hm : dm C m q st ∈ fns) : ∃ fd, FmQ C K m q st fd := c.defs hm
theorem mkM {C m q : Str} {st : Stmt} {k : Nat} {ps : List Str} {sp : Sp} {fd : FuncData} (c : He.SaysD fcs fns K) (F : FmQ C K m q st fd) (hg : He.Fa.meth C m ∈ fcs) (O : FnOk P w K mg base CX0 k (He.fAd K (C, some m)) fd ps sp)
    (hb : ∀ (kV doc pm : Value) (an : Option Addr) (cdv ct : Value) (us : List Value), us.length = ps.length → bindArgs (PySem.W.fnOf m q (defArgs st) (defBody st) (defScope st) .none kV doc pm an cdv ct) ⟨us, []⟩ = pure (ps.zip us)) : Mf P w K mg base (He.ga K C) m k ps sp :=
  ⟨⟨_, fd, O, He.meth_ok (c.facts hg), F.bindsN hb⟩⟩
theorem mkC {C q : Str} {st : Stmt} {k : Nat} {ps : List Str} {sp : Sp} {fd : FuncData} (X : K.In h) (G : h.Ns mainGlobals mg) (c : He.SaysD fcs fns K) (F : FmQ C K "__init__" q st fd) (h1 : He.Fa.mkr C ∈ fcs) (h2 : He.Fa.glo C ∈ fcs) (O : FnOk P w K mg base CX0 k (He.fAd K (C, some "__init__")) fd ps sp)
    (hb : ∀ (kV doc pm : Value) (an : Option Addr) (cdv ct : Value) (us : List Value), us.length = ps.length → bindArgs (PySem.W.fnOf "__init__" q (defArgs st) (defBody st) (defScope st) .none kV doc pm an cdv ct) ⟨us, []⟩ = pure (ps.zip us)) : Cf P w K mg base (He.ga K C) C k ps sp :=
  ⟨⟨_, fd, O, He.mkr_ok (c.facts h1), He.glo_ok X G (c.facts h2), F.bindsN hb⟩⟩
theorem ty_of (X : K.In h) (G : h.Ns mainGlobals mg) (c : He.SaysD fcs fns K) (m : exs K = true) : TD K mg := by
  have fr : ∀ {x : Str}, He.Fa.free x ∈ fcs → mg x = none := fun hx => He.free_ok X G (c.facts hx)
  have it : ∀ {x : Str} {i : Int}, He.Fa.int x i ∈ fcs → ∃ u, mg x = some u ∧ RelV (.int i) u := fun hx => by
    obtain ⟨t, e⟩ := He.int_ok X G (c.facts hx)
    exact ⟨_, e, t, rfl⟩
  have sr : ∀ {x z : Str}, He.Fa.str x z ∈ fcs → ∃ u, mg x = some u ∧ RelV (.str z) u := fun hx => by
    obtain ⟨t, e⟩ := He.str_ok X G (c.facts hx)
    exact ⟨_, e, t, rfl⟩
  have go : ∀ {x : Str}, He.Fa.glo x ∈ fcs → mg x = some (.ref (He.ga K x)) := fun hx => He.glo_ok X G (c.facts hx)
  have no : ∀ {C f : Str}, He.Fa.noat C f ∈ fcs → NoAttr K (He.ga K C) f := fun hx => He.noat_ok (c.facts hx)
  obtain ⟨r2, t2⟩ := He.ba m
  obtain ⟨r1, t1⟩ := He.ba r2
  have nA_all : ∀ f ∈ (["form", "signs", "number", "column", "cells", "pieces", "link_word", "bold", "slant", "word", "is_escaping"] : List Str), NoAttr K (He.ga K "CellsReader") f := by
    intro f hf
    simp only [List.mem_cons, List.not_mem_nil, or_false] at hf
    rcases hf with rfl | rfl | rfl | rfl | rfl | rfl | rfl | rfl | rfl | rfl | rfl
    · exact no (by simp [fcs])
    · exact no (by simp [fcs])
    · exact no (by simp [fcs])
    · exact no (by simp [fcs])
    · exact no (by simp [fcs])
    · exact no (by simp [fcs])
    · exact no (by simp [fcs])
    · exact no (by simp [fcs])
    · exact no (by simp [fcs])
    · exact no (by simp [fcs])
    · exact no (by simp [fcs])
  exact { b_range := fr (by simp [fcs]), b_abs := fr (by simp [fcs]), b_enumerate := fr (by simp [fcs]), b_len := fr (by simp [fcs]), b_int := fr (by simp [fcs]), b_repr := fr (by simp [fcs]), b_str := fr (by simp [fcs]), b_tuple := fr (by simp [fcs]), b_list := fr (by simp [fcs]), b_zip := fr (by simp [fcs]), c_MOST_WORD_CHARACTERS := it (by simp [fcs]), c_MOST_LINES := it (by simp [fcs]), c_MOST_DEPTH := it (by simp [fcs]), c_MOST_CELLS := it (by simp [fcs]), c_MOST_CELL_CHARACTERS := it (by simp [fcs]), c_MOST_ONLY_CELL_CHARACTERS := it (by simp [fcs]), c_WORD_CHARACTERS := sr (by simp [fcs]), c_CELL := it (by simp [fcs]), c_LEVEL := it (by simp [fcs]), c_BOLD := it (by simp [fcs]), c_SLANT := it (by simp [fcs]), c_OPENING := it (by simp [fcs]), c_MIDDLE := it (by simp [fcs]), c_END := it (by simp [fcs]), c_ESCAPE := it (by simp [fcs]), c_NAME := it (by simp [fcs]), c_SOURCE := it (by simp [fcs]), c_TARGET := it (by simp [fcs]), c_MOST_COST := it (by simp [fcs]), b_all := fr (by simp [fcs]), b_isinstance := fr (by simp [fcs]), b_bool := fr (by simp [fcs]), c_PLAIN := ⟨_, go (by simp [fcs]), fun H => He.tupB_ok r1 H⟩, c_FEATURES := ⟨_, go (by simp [fcs]), fun H => He.tupB_ok t1 H⟩, c_NO_MARKS := ⟨_, go (by simp [fcs]), fun H => He.tupB_ok t2 H⟩, cl := He.cls_ok (c.facts (f := .cls "CellsReader") (by simp [fcs])), nA := nA_all }
theorem law_base (X : K.In h) (G : h.Ns mainGlobals mg) (c : He.SaysD fcs fns K) (T : TD K mg) (TB : ∀ p ∈ tfs.map (He.cT K), TabB base mg p.1 p.2) {fd : FuncData} (FL : FnP K "law" s_law fd) : FnG P w K mg base CX0 11 (He.fAd K ("law", none)) fd p_law (spLaw K) := by
  have tb_is_word : TBx K mg base "is_word" := TB (He.cT K ("is_word", none)) (by simp [tfs])
  obtain ⟨f__law_churned, F__law_churned⟩ := fnd (x := "_law_churned") (st := s__law_churned) c (by simp [fns])
  have d__law_churned := mk1 X G c F__law_churned (by simp [fcs]) (ok_churned F__law_churned T.toTX (P := P) (w := w) (base := base)) (fun _ _ _ _ _ _ us hl => match us, hl with | [_, _], _ => rfl)
  obtain ⟨f__law_upto, F__law_upto⟩ := fnd (x := "_law_upto") (st := s__law_upto) c (by simp [fns])
  have d__law_upto := mk1 X G c F__law_upto (by simp [fcs]) (ok_upto F__law_upto T.toTX d__law_churned) (fun _ _ _ _ _ _ us hl => match us, hl with | [_, _], _ => rfl)
  obtain ⟨f__law_choice, F__law_choice⟩ := fnd (x := "_law_choice") (st := s__law_choice) c (by simp [fns])
  have d__law_choice := mk1 X G c F__law_choice (by simp [fcs]) (ok_choice F__law_choice T.toTX d__law_upto) (fun _ _ _ _ _ _ us hl => match us, hl with | [_, _], _ => rfl)
  obtain ⟨f__law_equal, F__law_equal⟩ := fnd (x := "_law_equal") (st := s__law_equal) c (by simp [fns])
  have d__law_equal := mk2 X G c F__law_equal (by simp [fcs]) (ok_equal F__law_equal T.toTX (P := P) (w := w) (base := base)) (fun _ _ _ _ _ _ us hl => match us, hl with | [_, _], _ => rfl)
  obtain ⟨f__law_urn_of, F__law_urn_of⟩ := fnd (x := "_law_urn_of") (st := s__law_urn_of) c (by simp [fns])
  have d__law_urn_of := mk1 X G c F__law_urn_of (by simp [fcs]) (ok_urn_of F__law_urn_of T.toTX (P := P) (w := w) (base := base)) (fun _ _ _ _ _ _ us hl => match us, hl with | [_], _ => rfl)
  obtain ⟨f_merged, F_merged⟩ := fnd (x := "merged") (st := s_merged) c (by simp [fns])
  have d_merged := mk1 X G c F_merged (by simp [fcs]) (ok_merged F_merged T (P := P) (w := w) (base := base)) (fun _ _ _ _ _ _ us hl => match us, hl with | [_], _ => rfl)
  obtain ⟨f_unmarked, F_unmarked⟩ := fnd (x := "unmarked") (st := s_unmarked) c (by simp [fns])
  have d_unmarked := mk1 X G c F_unmarked (by simp [fcs]) (ok_unm F_unmarked T (P := P) (w := w) (base := base)) (fun _ _ _ _ _ _ us hl => match us, hl with | [_, _], _ => rfl)
  obtain ⟨f_unmarked_cell, F_unmarked_cell⟩ := fnd (x := "unmarked_cell") (st := s_unmarked_cell) c (by simp [fns])
  have d_unmarked_cell := mk1 X G c F_unmarked_cell (by simp [fcs]) (ok_ucell F_unmarked_cell T d_unmarked d_merged) (fun _ _ _ _ _ _ us hl => match us, hl with | [_, _], _ => rfl)
  obtain ⟨f_unmarked_cells, F_unmarked_cells⟩ := fnd (x := "unmarked_cells") (st := s_unmarked_cells) c (by simp [fns])
  have d_unmarked_cells := mk1 X G c F_unmarked_cells (by simp [fcs]) (ok_ucells F_unmarked_cells T d_unmarked_cell) (fun _ _ _ _ _ _ us hl => match us, hl with | [_, _], _ => rfl)
  obtain ⟨f_one_cell, F_one_cell⟩ := fnd (x := "one_cell") (st := s_one_cell) c (by simp [fns])
  have d_one_cell := mk1 X G c F_one_cell (by simp [fcs]) (ok_one F_one_cell T d_merged) (fun _ _ _ _ _ _ us hl => match us, hl with | [_], _ => rfl)
  obtain ⟨f_drop, F_drop⟩ := fnd (x := "drop") (st := s_drop) c (by simp [fns])
  have d_drop := mk1 X G c F_drop (by simp [fcs]) (ok_drop F_drop T d_one_cell d_unmarked_cells) (fun _ _ _ _ _ _ us hl => match us, hl with | [_, _], _ => rfl)
  obtain ⟨f_keep, F_keep⟩ := fnd (x := "keep") (st := s_keep) c (by simp [fns])
  have d_keep := mk1 X G c F_keep (by simp [fcs]) (ok_keep F_keep T d_drop) (fun _ _ _ _ _ _ us hl => match us, hl with | [_, _], _ => rfl)
  obtain ⟨f__law_joined, F__law_joined⟩ := fnd (x := "_law_joined") (st := s__law_joined) c (by simp [fns])
  have d__law_joined := mk1 X G c F__law_joined (by simp [fcs]) (ok_joined F__law_joined T (P := P) (w := w) (base := base)) (fun _ _ _ _ _ _ us hl => match us, hl with | [_], _ => rfl)
  obtain ⟨f__law_dropped, F__law_dropped⟩ := fnd (x := "_law_dropped") (st := s__law_dropped) c (by simp [fns])
  have d__law_dropped := mk1 X G c F__law_dropped (by simp [fcs]) (ok_ldrop F__law_dropped T d__law_joined) (fun _ _ _ _ _ _ us hl => match us, hl with | [_, _], _ => rfl)
  obtain ⟨f__law_keeping, F__law_keeping⟩ := fnd (x := "_law_keeping") (st := s__law_keeping) c (by simp [fns])
  have d__law_keeping := mk1 X G c F__law_keeping (by simp [fcs]) (ok_lkeep F__law_keeping T d__law_dropped) (fun _ _ _ _ _ _ us hl => match us, hl with | [_, _], _ => rfl)
  obtain ⟨f__law_some_text, F__law_some_text⟩ := fnd (x := "_law_some_text") (st := s__law_some_text) c (by simp [fns])
  have d__law_some_text := mk1 X G c F__law_some_text (by simp [fcs]) (ok_text F__law_some_text T d__law_choice) (fun _ _ _ _ _ _ us hl => match us, hl with | [_, _, _], _ => rfl)
  obtain ⟨f__law_some_marks, F__law_some_marks⟩ := fnd (x := "_law_some_marks") (st := s__law_some_marks) c (by simp [fns])
  have d__law_some_marks := mk1 X G c F__law_some_marks (by simp [fcs]) (ok_lmarks F__law_some_marks T d__law_choice d__law_upto) (fun _ _ _ _ _ _ us hl => match us, hl with | [_], _ => rfl)
  obtain ⟨f__law_some_cell, F__law_some_cell⟩ := fnd (x := "_law_some_cell") (st := s__law_some_cell) c (by simp [fns])
  have d__law_some_cell := mk1 X G c F__law_some_cell (by simp [fcs]) (ok_scell F__law_some_cell T d__law_upto d__law_some_text d__law_some_marks d__law_joined) (fun _ _ _ _ _ _ us hl => match us, hl with | [_, _, _], _ => rfl)
  obtain ⟨f__law_some_line, F__law_some_line⟩ := fnd (x := "_law_some_line") (st := s__law_some_line) c (by simp [fns])
  have d__law_some_line := mk1 X G c F__law_some_line (by simp [fcs]) (ok_sline F__law_some_line T d__law_choice d__law_some_cell) (fun _ _ _ _ _ _ us hl => match us, hl with | [_, _], _ => rfl)
  obtain ⟨f__law_some_content, F__law_some_content⟩ := fnd (x := "_law_some_content") (st := s__law_some_content) c (by simp [fns])
  have d__law_some_content := mk1 X G c F__law_some_content (by simp [fcs]) (ok_scontent F__law_some_content T d__law_upto d__law_some_line) (fun _ _ _ _ _ _ us hl => match us, hl with | [_, _], _ => rfl)
  obtain ⟨f__law_some_set, F__law_some_set⟩ := fnd (x := "_law_some_set") (st := s__law_some_set) c (by simp [fns])
  have d__law_some_set := mk1 X G c F__law_some_set (by simp [fcs]) (ok_some_set F__law_some_set T d__law_upto) (fun _ _ _ _ _ _ us hl => match us, hl with | [_], _ => rfl)
  obtain ⟨f__law_all_signs, F__law_all_signs⟩ := fnd (x := "_law_all_signs") (st := s__law_all_signs) c (by simp [fns])
  have d__law_all_signs := mk1 X G c F__law_all_signs (by simp [fcs]) (ok_all_signs F__law_all_signs T (P := P) (w := w) (base := base)) (fun _ _ _ _ _ _ us hl => match us, hl with | [], _ => rfl)
  obtain ⟨f__law_some_form, F__law_some_form⟩ := fnd (x := "_law_some_form") (st := s__law_some_form) c (by simp [fns])
  have d__law_some_form := mk1 X G c F__law_some_form (by simp [fcs]) (ok_some_form F__law_some_form T d__law_upto d__law_all_signs) (fun _ _ _ _ _ _ us hl => match us, hl with | [_, _, _], _ => rfl)
  obtain ⟨f_carried, F_carried⟩ := fnd (x := "carried") (st := s_carried) c (by simp [fns])
  have d_carried := mk1 X G c F_carried (by simp [fcs]) (ok_carried F_carried T (P := P) (w := w) (base := base)) (fun _ _ _ _ _ _ us hl => match us, hl with | [_], _ => rfl)
  obtain ⟨f_signs_of, F_signs_of⟩ := fnd (x := "signs_of") (st := s_signs_of) c (by simp [fns])
  have d_signs_of := mk1 X G c F_signs_of (by simp [fcs]) (ok_signs F_signs_of T (P := P) (w := w) (base := base)) (fun _ _ _ _ _ _ us hl => match us, hl with | [_], _ => rfl)
  obtain ⟨f__law_carried, F__law_carried⟩ := fnd (x := "_law_carried") (st := s__law_carried) c (by simp [fns])
  have d__law_carried := mk1 X G c F__law_carried (by simp [fcs]) (ok_lcar F__law_carried T (P := P) (w := w) (base := base)) (fun _ _ _ _ _ _ us hl => match us, hl with | [_], _ => rfl)
  obtain ⟨f_written_change, F_written_change⟩ := fnd (x := "written_change") (st := s_written_change) c (by simp [fns])
  have d_written_change := mk1 X G c F_written_change (by simp [fcs]) (ok_change F_written_change T (P := P) (w := w) (base := base)) (fun _ _ _ _ _ _ us hl => match us, hl with | [_, _, _], _ => rfl)
  obtain ⟨f__law_switched, F__law_switched⟩ := fnd (x := "_law_switched") (st := s__law_switched) c (by simp [fns])
  have d__law_switched := mk1 X G c F__law_switched (by simp [fcs]) (ok_lsw F__law_switched T (P := P) (w := w) (base := base)) (fun _ _ _ _ _ _ us hl => match us, hl with | [_, _, _], _ => rfl)
  obtain ⟨f_escaped, F_escaped⟩ := fnd (x := "escaped") (st := s_escaped) c (by simp [fns])
  have d_escaped := mk1 X G c F_escaped (by simp [fcs]) (ok_escaped F_escaped T d_signs_of) (fun _ _ _ _ _ _ us hl => match us, hl with | [_, _], _ => rfl)
  obtain ⟨f_written_cell, F_written_cell⟩ := fnd (x := "written_cell") (st := s_written_cell) c (by simp [fns])
  have d_written_cell := mk1 X G c F_written_cell (by simp [fcs]) (ok_wcell F_written_cell T d_written_change d_escaped) (fun _ _ _ _ _ _ us hl => match us, hl with | [_, _], _ => rfl)
  obtain ⟨f__law_cell_text, F__law_cell_text⟩ := fnd (x := "_law_cell_text") (st := s__law_cell_text) c (by simp [fns])
  have d__law_cell_text := mk1 X G c F__law_cell_text (by simp [fcs]) (ok_lcell F__law_cell_text T d__law_switched) (fun _ _ _ _ _ _ us hl => match us, hl with | [_, _], _ => rfl)
  obtain ⟨f_written_line, F_written_line⟩ := fnd (x := "written_line") (st := s_written_line) c (by simp [fns])
  have d_written_line := mk1 X G c F_written_line (by simp [fcs]) (ok_wline F_written_line T d_written_cell) (fun _ _ _ _ _ _ us hl => match us, hl with | [_, _], _ => rfl)
  obtain ⟨f_write, F_write⟩ := fnd (x := "write") (st := s_write) c (by simp [fns])
  have d_write := mk1 X G c F_write (by simp [fcs]) (ok_write F_write T d_keep d_carried d_written_line) (fun _ _ _ _ _ _ us hl => match us, hl with | [_, _], _ => rfl)
  obtain ⟨f__law_written, F__law_written⟩ := fnd (x := "_law_written") (st := s__law_written) c (by simp [fns])
  have d__law_written := mk1 X G c F__law_written (by simp [fcs]) (ok_lwritten F__law_written T d__law_keeping d__law_carried d__law_cell_text) (fun _ _ _ _ _ _ us hl => match us, hl with | [_, _], _ => rfl)
  obtain ⟨f_CellsReader__need_room, F_CellsReader__need_room⟩ := fndM (C := "CellsReader") (m := "need_room") (q := "CellsReader.need_room") (st := s_CellsReader__need_room) c (by simp [fns])
  have d_CellsReader__need_room := mkM c F_CellsReader__need_room (by simp [fcs]) (ok_room F_CellsReader__need_room T (P := P) (w := w) (base := base)) (fun _ _ _ _ _ _ us hl => match us, hl with | [_], _ => rfl)
  obtain ⟨f_CellsReader__put, F_CellsReader__put⟩ := fndM (C := "CellsReader") (m := "put") (q := "CellsReader.put") (st := s_CellsReader__put) c (by simp [fns])
  have d_CellsReader__put := mkM c F_CellsReader__put (by simp [fcs]) (ok_put F_CellsReader__put T (P := P) (w := w) (base := base)) (fun _ _ _ _ _ _ us hl => match us, hl with | [_, _], _ => rfl)
  obtain ⟨f_CellsReader__end_cell, F_CellsReader__end_cell⟩ := fndM (C := "CellsReader") (m := "end_cell") (q := "CellsReader.end_cell") (st := s_CellsReader__end_cell) c (by simp [fns])
  have d_CellsReader__end_cell := mkM c F_CellsReader__end_cell (by simp [fcs]) (ok_endcell F_CellsReader__end_cell T d_merged) (fun _ _ _ _ _ _ us hl => match us, hl with | [_], _ => rfl)
  obtain ⟨f_CellsReader__take_cell_sign, F_CellsReader__take_cell_sign⟩ := fndM (C := "CellsReader") (m := "take_cell_sign") (q := "CellsReader.take_cell_sign") (st := s_CellsReader__take_cell_sign) c (by simp [fns])
  have d_CellsReader__take_cell_sign := mkM c F_CellsReader__take_cell_sign (by simp [fcs]) (ok_cellsign F_CellsReader__take_cell_sign T d_CellsReader__end_cell) (fun _ _ _ _ _ _ us hl => match us, hl with | [_], _ => rfl)
  obtain ⟨f_CellsReader__take_escaped, F_CellsReader__take_escaped⟩ := fndM (C := "CellsReader") (m := "take_escaped") (q := "CellsReader.take_escaped") (st := s_CellsReader__take_escaped) c (by simp [fns])
  have d_CellsReader__take_escaped := mkM c F_CellsReader__take_escaped (by simp [fcs]) (ok_tesc F_CellsReader__take_escaped T d_CellsReader__put) (fun _ _ _ _ _ _ us hl => match us, hl with | [_, _], _ => rfl)
  obtain ⟨f_CellsReader__take_in_word, F_CellsReader__take_in_word⟩ := fndM (C := "CellsReader") (m := "take_in_word") (q := "CellsReader.take_in_word") (st := s_CellsReader__take_in_word) c (by simp [fns])
  have d_CellsReader__take_in_word := mkM c F_CellsReader__take_in_word (by simp [fcs]) (ok_inword F_CellsReader__take_in_word T (P := P) (w := w) (base := base)) (fun _ _ _ _ _ _ us hl => match us, hl with | [_, _], _ => rfl)
  obtain ⟨f_CellsReader__take_sign, F_CellsReader__take_sign⟩ := fndM (C := "CellsReader") (m := "take_sign") (q := "CellsReader.take_sign") (st := s_CellsReader__take_sign) c (by simp [fns])
  have d_CellsReader__take_sign := mkM c F_CellsReader__take_sign (by simp [fcs]) (ok_sign F_CellsReader__take_sign T d_CellsReader__take_cell_sign d_CellsReader__need_room) (fun _ _ _ _ _ _ us hl => match us, hl with | [_, _], _ => rfl)
  obtain ⟨f_CellsReader__take, F_CellsReader__take⟩ := fndM (C := "CellsReader") (m := "take") (q := "CellsReader.take") (st := s_CellsReader__take) c (by simp [fns])
  have d_CellsReader__take := mkM c F_CellsReader__take (by simp [fcs]) (ok_take F_CellsReader__take T d_CellsReader__take_escaped d_CellsReader__take_in_word d_CellsReader__take_sign d_CellsReader__need_room d_CellsReader__put) (fun _ _ _ _ _ _ us hl => match us, hl with | [_, _], _ => rfl)
  obtain ⟨f_CellsReader__finished, F_CellsReader__finished⟩ := fndM (C := "CellsReader") (m := "finished") (q := "CellsReader.finished") (st := s_CellsReader__finished) c (by simp [fns])
  have d_CellsReader__finished := mkM c F_CellsReader__finished (by simp [fcs]) (ok_finished F_CellsReader__finished T d_CellsReader__end_cell) (fun _ _ _ _ _ _ us hl => match us, hl with | [_], _ => rfl)
  obtain ⟨f_CellsReader____init__, F_CellsReader____init__⟩ := fndM (C := "CellsReader") (m := "__init__") (q := "CellsReader.__init__") (st := s_CellsReader____init__) c (by simp [fns])
  have d_CellsReader := mkC X G c F_CellsReader____init__ (by simp [fcs]) (by simp [fcs]) (ok_init F_CellsReader____init__ T d_signs_of) (fun _ _ _ _ _ _ us hl => match us, hl with | [_, _, _, _], _ => rfl)
  obtain ⟨f_read_depth, F_read_depth⟩ := fnd (x := "read_depth") (st := s_read_depth) c (by simp [fns])
  have d_read_depth := mk1 X G c F_read_depth (by simp [fcs]) (ok_depth F_read_depth T (P := P) (w := w) (base := base)) (fun _ _ _ _ _ _ us hl => match us, hl with | [_, _, _], _ => rfl)
  obtain ⟨f_read_line, F_read_line⟩ := fnd (x := "read_line") (st := s_read_line) c (by simp [fns])
  have d_read_line := mk1 X G c F_read_line (by simp [fcs]) (ok_rline F_read_line T d_read_depth d_CellsReader d_CellsReader__take d_CellsReader__finished) (fun _ _ _ _ _ _ us hl => match us, hl with | [_, _, _], _ => rfl)
  obtain ⟨f_read, F_read⟩ := fnd (x := "read") (st := s_read) c (by simp [fns])
  have d_read := mk1 X G c F_read (by simp [fcs]) (ok_read F_read T d_read_line) (fun _ _ _ _ _ _ us hl => match us, hl with | [_, _], _ => rfl)
  obtain ⟨f_is_integer, F_is_integer⟩ := fnd (x := "is_integer") (st := s_is_integer) c (by simp [fns])
  have d_is_integer := mk1 X G c F_is_integer (by simp [fcs]) (ok_integer F_is_integer T (P := P) (w := w) (base := base)) (fun _ _ _ _ _ _ us hl => match us, hl with | [_], _ => rfl)
  obtain ⟨f_is_word, F_is_word⟩ := fnd (x := "is_word") (st := s_is_word) c (by simp [fns])
  have d_is_word := mk1 X G c F_is_word (by simp [fcs]) (ok_word F_is_word T tb_is_word (P := P) (w := w)) (fun _ _ _ _ _ _ us hl => match us, hl with | [_], _ => rfl)
  obtain ⟨f_is_name, F_is_name⟩ := fnd (x := "is_name") (st := s_is_name) c (by simp [fns])
  have d_is_name := mk1 X G c F_is_name (by simp [fcs]) (ok_is_name F_is_name T (P := P) (w := w) (base := base)) (fun _ _ _ _ _ _ us hl => match us, hl with | [_, _], _ => rfl)
  obtain ⟨f_is_maker, F_is_maker⟩ := fnd (x := "is_maker") (st := s_is_maker) c (by simp [fns])
  have d_is_maker := mk1 X G c F_is_maker (by simp [fcs]) (ok_is_maker F_is_maker T d_is_word d_is_name d_is_integer) (fun _ _ _ _ _ _ us hl => match us, hl with | [_, _], _ => rfl)
  obtain ⟨f_named, F_named⟩ := fnd (x := "named") (st := s_named) c (by simp [fns])
  have d_named := mk1 X G c F_named (by simp [fcs]) (ok_named F_named T (P := P) (w := w) (base := base)) (fun _ _ _ _ _ _ us hl => match us, hl with | [_], _ => rfl)
  obtain ⟨f_chain_of, F_chain_of⟩ := fnd (x := "chain_of") (st := s_chain_of) c (by simp [fns])
  have d_chain_of := mk1 X G c F_chain_of (by simp [fcs]) (ok_chain F_chain_of T d_named) (fun _ _ _ _ _ _ us hl => match us, hl with | [_, _], _ => rfl)
  obtain ⟨f_made, F_made⟩ := fnd (x := "made") (st := s_made) c (by simp [fns])
  have d_made := mk1 X G c F_made (by simp [fcs]) (ok_made F_made T d_chain_of d_write d_read) (fun _ _ _ _ _ _ us hl => match us, hl with | [_, _, _, _], _ => rfl)
  obtain ⟨f__law_some_forms, F__law_some_forms⟩ := fnd (x := "_law_some_forms") (st := s__law_some_forms) c (by simp [fns])
  have d__law_some_forms := mk1 X G c F__law_some_forms (by simp [fcs]) (ok_some_forms F__law_some_forms T d__law_upto d__law_some_set d__law_some_form) (fun _ _ _ _ _ _ us hl => match us, hl with | [_, _], _ => rfl)
  obtain ⟨f__law_unlike, F__law_unlike⟩ := fnd (x := "_law_unlike") (st := s__law_unlike) c (by simp [fns])
  have d__law_unlike := mk1 X G c F__law_unlike (by simp [fcs]) (ok_unlike F__law_unlike T (P := P) (w := w) (base := base)) (fun _ _ _ _ _ _ us hl => match us, hl with | [_], _ => rfl)
  obtain ⟨f__law_some_makers, F__law_some_makers⟩ := fnd (x := "_law_some_makers") (st := s__law_some_makers) c (by simp [fns])
  have d__law_some_makers := mk1 X G c F__law_some_makers (by simp [fcs]) (ok_some_makers F__law_some_makers T d__law_upto d__law_choice d__law_unlike) (fun _ _ _ _ _ _ us hl => match us, hl with | [_, _, _], _ => rfl)
  obtain ⟨f__law_maker_due, F__law_maker_due⟩ := fnd (x := "_law_maker_due") (st := s__law_maker_due) c (by simp [fns])
  have d__law_maker_due := mk1 X G c F__law_maker_due (by simp [fcs]) (ok_mkdue F__law_maker_due T (P := P) (w := w) (base := base)) (fun _ _ _ _ _ _ us hl => match us, hl with | [_, _], _ => rfl)
  obtain ⟨f__law_objects_right, F__law_objects_right⟩ := fnd (x := "_law_objects_right") (st := s__law_objects_right) c (by simp [fns])
  have d__law_objects_right := mk2 X G c F__law_objects_right (by simp [fcs]) (ok_objects F__law_objects_right T d__law_upto d__law_choice d__law_equal d_is_maker d__law_maker_due) (fun _ _ _ _ _ _ us hl => match us, hl with | [_, _, _], _ => rfl)
  exact ok_law FL T d__law_urn_of d__law_upto d__law_choice d__law_all_signs d__law_some_content d__law_some_forms d__law_some_makers d__law_objects_right d__law_written d__law_keeping d__law_carried d_made
end
abbrev LW : PySem.W.OpenLaw := PySem.Challenge.rw_clipforms_k07_makers_and_chains
theorem law_at {w : World} {mg : Str → Option Value} {fa : Addr} {h : Heap} (Y : hk.says w h) (G : h.Ns mainGlobals mg) (hmg : mg "law" = some (.ref fa)) : ∃ K : PySem.W.Frag, K.In h ∧ LawAtG LW w K CX0 11 63 "script" mg fa h := by
  obtain ⟨K, X, s⟩ := Y
  have c := s.t.d
  have T := ty_of X G c s.more
  obtain ⟨fd, FL⟩ := fnd (x := "law") (st := s_law) c (by simp [fns])
  have e := hmg.symm.trans (He.glo_ok X G (c.facts (f := .glo "law") (by simp [fcs])))
  cases e
  have inT : ∀ p ∈ tfs.map (He.cT K), ∃ q ∈ tfs, He.cT K q = p := fun p hp => List.mem_map.mp hp
  refine ⟨K, X, fd, tfs.map (He.cT K), spLaw K, fun p hp => ?_, fun p hp => ?_, fun p hp => ?_, fun s v => ?_, fun H a ns hl _ hT _ hS => ?_, fun base Xb Gb TB => ?_⟩
  · obtain ⟨q, hq, rfl⟩ := inT p hp
    exact s.empty q hq
  · obtain ⟨q, hq, rfl⟩ := inT p hp
    exact s.out q hq
  · obtain ⟨q, hq, rfl⟩ := inT p hp
    exact PySem.W.codeHd_of_K X (s.hd q hq)
  · exact (FunD.bindsA (ps := ["script"]) FL fun _ _ _ _ _ _ us hl => match us, hl with | [_], _ => rfl) s [v] rfl
  · have tt : ∀ q ∈ tfs, TabG H (He.cT K q).2 := fun q hq => ⟨#[], hT (He.cT K q) (List.mem_map.mpr ⟨q, hq, rfl⟩), by first | exact .nil | trivial | (intro z; simp at z) | simp [TriplesOk]⟩
    exact ⟨a, ns, rfl, hS, hl, ⟨tt ("is_word", none) (by simp [tfs])⟩, fun _ => rfl⟩
  · exact law_base X G c T TB FL
end Vf
end
section
set_option Elab.async false
set_option linter.all false
set_option maxRecDepth 100000
set_option maxHeartbeats 0
open PySem PySem.W PySem.Calls PyProof.Rows
theorem PySem.Challenge.cw_clipforms_k07_makers_and_chains_holds : PySem.Challenge.rw_clipforms_k07_makers_and_chains.Holds := by
  w_on; o_law
  refine HandSHeadRun.head_any (r := OpenLaw.row PySem.Challenge.rw_clipforms_k07_makers_and_chains) (q := view (OpenLaw.row PySem.Challenge.rw_clipforms_k07_makers_and_chains).prog [86]) (H := Vf.hk) (ob := Vf.ob) (M := 40000) (loose := Vf.loose) (d := HandSHeadRun.topDef (OpenLaw.row PySem.Challenge.rw_clipforms_k07_makers_and_chains).prog 86) (kwd := []) Vf.ob_eq
    (by kernel_rfl) (fun s => by kernel_rfl) Vf.runH (by kernel_rfl) (by kernel_rfl) (by kernel_rfl) (by rfl) (by first | assumption | decide +kernel) (by decide +kernel) ⟨rfl, rfl, rfl, rfl, rfl, by decide +kernel⟩ ?hw ?hc
  case hw => w_witness2
  case hc =>
    refine Vf.walkG (l := PySem.Challenge.rw_clipforms_k07_makers_and_chains) (n := 63) (k := 11) (x := "script") (CX := fun _ => L2.CX0) rfl (by decide) (by kernel_rfl) ⟨rfl, by decide, by decide⟩ ?F (fun _ _ _ _ _ z => z)
    intro w mg fa h Y G hmg0
    have hmg : mg ("law" : PySem.Str) = some (.ref fa) := by
      have e : (HandSHeadRun.topDef (OpenLaw.row PySem.Challenge.rw_clipforms_k07_makers_and_chains).prog 86).name = ("law" : PySem.Str) := by kernel_rfl
      rw [← e]
      exact hmg0
    exact Vf.law_at Y G hmg
end
