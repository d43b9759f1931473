import PyProof.Rows.All
import Wide.All
import OpenK.AllK
import Wide.FinOn
import Lean
import HandS.ForMost
import HandS.Strs
import HandS.Conv
import HandS.TupAny
import HandS.TupMul
import HandS.Zip
import HandS.Deep
import HandS.Codes
import HandS.Wide
import HandS.IsInst
import HandS.AnyAll
import HandS.GenList
import HandS.Defaults
import HandS.Head0
import HandS.Head1
import HandS.Head2
import HandS.HeadEnd
import HandS.HeadHook1
import HandS.HeadHook2
import HandS.HeadHook4
import HandS.HeadWalk
import HandS.EndTab
import PyProof.ReprRoads
import HandS.ExcInit
import HandS.ExcValue
import HandS.ExcIs
import HandS.ExcField
import HandS.NoneIn
import HandS.JoinGen
import PyProof.GenCompT
import PyProof.WalksPairs
import PyProof.SumAny
import PyProof.NeKinds
import PyProof.NeData
import PyProof.StrOps2
import HandS.Star
import KE.KDictList
import HandS.FStr
import HandS.StrMore
import PyProof.StrLawsTight
import HandS.DictComp
import HandS.ExcOwn
import HandS.TryOnly
import KE.KDictZip
import KE.KItemsList
import KE.GoesEnum
import HandS.RaiseMore
import HandS.CallLocal
import HandS.More
import PyProof.Rows.SeqMore
import KE.LtData
import HandS.Dict
import KE.SortData
import KE.DataEq
import HandS.Gcd
import HandS.Walk
import KE.DataMinMax
import HandS.Set
import HandS.SetFor
import PyProof.Rows.SortShellSt
import HandS.Style
import KE.KRevSl
import PySem.Challenge.RW_clipforms_k08_best_chains
import PyProof.ReprLen
import PyProof.Rows.RegFStrParts
import HandS.NestedK
import HandS.Head3
section
set_option Elab.async false
set_option linter.all false
set_option maxRecDepth 100000
set_option maxHeartbeats 4000000
/-! Own layer: defs that are called where no repr runs (FnG), repr of data, unions. -/
namespace Vf
open PySem PySem.Spec PyProof.Rows L2

/-- as FnOk, for calls where no repr is under way -/
structure FnG (P : Program) (w : World) (K : PySem.W.Frag) (mg : Str → Option Value) (base : Heap) (CX : CXT) (k : Nat) (f : Addr) (fd : FuncData) (ps : List Str) (sp : Sp) : Prop where
  len : ∀ vs H Q E, sp vs H Q E → vs.length = ps.length
  run : ∀ (A : Around) (outer : List Env) (s : Shared) (H : Hp) (args : Args) (us : List Value) (vs : List V) (Q : VK) (E : XK), A.guards = some [] → Room k A → Env0 P w K mg base A outer s H →
    BindsTo s fd args (ps.zip us) → Vals vs us → sp vs H Q E → codeAny (model P w) A (.call (.ref f) args) (CR CX outer P w H s Q E) s
section
variable {P : Program} {w : World} {K : PySem.W.Frag} {mg : Str → Option Value} {base : Heap} {CX : CXT} {k : Nat} {f : Addr} {fd : FuncData} {ps : List Str} {sp : Sp}
theorem FnG.of (F : FnOk P w K mg base CX k f fd ps sp) : FnG P w K mg base CX k f fd ps sp :=
  ⟨F.len, fun A outer s H args us vs Q E _ => F.run A outer s H args us vs Q E⟩
theorem deeper_guards {A : Around} {env : Env} (h : A.guards = some []) : (A.deeper env).guards = some [] := h

/-- a def's body where no repr is under way -/
theorem okG {x qual : Str} {params : Arguments} {body : List Stmt} {scope : Scope} {dvs : List V} {kws : List (Str × V)} {N : List Str}
    (F : FunD K x qual params body scope dvs kws f fd) (S : FnScope N ps scope) (len : ∀ vs H Q E, sp vs H Q E → vs.length = ps.length)
    (hbody : ∀ (cdv : Value) (hcv : fd.code = cdv) (A : Around) (outer : List Env) (s : Shared) (H : Hp) (vs : List V) (Q : VK) (E : XK), A.guards = some [] → Room k (A.deeper (envOfC qual scope s.heap.objs.size f cdv)) → sp vs H Q E →
      ∃ t, PSs (cxOf CX P w K mg base N qual scope f cdv A outer s H E) body t ∧ t { nx := fun _ H' => Q .non H', rt := Q } (start N vs) H) :
    FnG P w K mg base CX (k + 1) f fd ps sp := by
  obtain ⟨oc, od, dV, kV, doc, pm, an, cdv, ct, osl, rfl, lk, hcd, _, _⟩ := F.ex
  refine ⟨len, ?_⟩
  intro A outer s H args us vs Q E hg hr e0 hb r hsp
  have inS : K.In s.heap := e0.mod.kin.keeps (fun b o e => (e0.bs b o e).1)
  have noL : s.heap.NoLimit := e0.mod.nolimit.keeps (fun b o e => (e0.bs b o e).1)
  obtain ⟨t, ht, hq⟩ := hbody cdv rfl A outer s H vs Q E hg (hr.deeper _) hsp
  refine codeAny_call_function hr.depth (inS _ _ lk) rfl S.co S.gen rfl (PySem.W.codeRec_of inS hcd) (hb _ _ _ _ (wpAny_newFunctionEnv_cells S.kind ?_ ?_))
  · rintro ⟨n, v⟩ hy
    rcases S.par n (List.of_mem_zip hy).1 with q | q
    · exact Or.inl q
    · exact Or.inr ⟨q, PySem.W.cellsFrom_some _ _ _ (Or.inl q)⟩
  · intro env he s1 x
    subst he
    have I := inv_start (CX := CX) (E := E) (f := f) (cd := cdv) (qual := qual) S hr.hd e0 (len _ _ _ _ hsp) r x
    refine ⟨noL.keeps x.toInCall.keep, codeAny_func (wpAny_mono (ht.run [] s1 (start N vs) H _ I hq) ?_ (fun e s' hs => hs))⟩
    intro fl s' hs
    cases fl with
    | ret u =>
      obtain ⟨v, σ', H', J, rv, q⟩ := hs
      exact ⟨v, H', J.os, J.bare, J.base, J.hok, rv, q⟩
    | next =>
      obtain ⟨σ', H', J, q⟩ := hs
      exact ⟨V.non, H', J.os, J.bare, J.base, J.hok, rfl, q⟩
    | brk => exact hs.elim fun _ z => z.elim fun _ y => y.2.elim
    | cont => exact hs.elim fun _ z => z.elim fun _ y => y.2.elim
end

section
variable {X : Cx} {CX : CXT} {k : Nat} {f : Addr} {fd : FuncData} {ps : List Str} {sp : Sp} {dvs : List V} {ds : List Value} {E : XK} {x : Str} {p pos : Pos} {e : Expr} {es : List Expr} {t : TA}
/-- f(e, ..), f a def of this kind -/
theorem pe_callG (hgu : X.A.guards = some []) (F : FnG X.prog X.w X.K X.mg X.base CX k f fd ps sp) (hr : Room k X.A) (hg : Gl X x) (hm : X.mg x = some (.ref f)) (hk : PySem.W.keepIn X.K (.ref f) = true) (hb : Binds X.K fd ps ds)
    (hd : Vals dvs ds) (hx : Passes CX X E) (ha : PA X (e :: es) t) (hdb : (x == ("__debug__" : Str)) = false := by decide) (he : starEach (e :: es) X.env = (false, eval e X.env) :: starEach es X.env := by rfl)
    (hpl : (backTo pos (starEach es X.env)).any (·.1) = false := by rfl) : PE X (.Call (.Name x p) (e :: es) [] pos) (tCall sp dvs E t) := by
  refine ⟨fun pins s σ H Q I h => wpAny_Call_Name_kw (ld_glob I hg hm ?_ hdb)⟩
  refine PySem.W.callWith_K (h₀ := X.base) I.ok.mod.kin hk (thn (ha.run pos pins s σ H _ I h) ?_) he hpl
  rintro us s1 ⟨vs, H1, I1, r, q⟩
  refine ⟨I1.kIn, ?_⟩
  have r2 : Vals (vs ++ dvs) (us ++ ds) := r.append hd
  have hl : (us ++ ds).length = ps.length := by rw [← r2.length]; exact F.len _ _ _ _ q
  refine wpAny_call (codeAny_mono (F.run X.A X.stack s1 H1 ⟨us, []⟩ (us ++ ds) (vs ++ dvs) Q E hgu hr I1.env0 (hb s1 us I1.kIn hl) r2 q) ?_)
  intro r s' hq
  cases r with
  | error e => exact hx pins σ H1 s1 e s' I1 hq
  | ok fl =>
    cases fl with
    | ret u => exact I1.after hq
    | next => exact hq.elim
    | brk => exact hq.elim
    | cont => exact hq.elim

end
/-! ### data, empty dicts too -/
mutual
inductive Dd (K : PySem.W.Frag) (H : Hp) : V → PyData → Prop
  | non : Dd K H .non .none
  | bl (b : Bool) : Dd K H (.bl b) (.bool b)
  | int (i : Int) : Dd K H (.int i) (.int i)
  | str (x : Str) : Dd K H (.str x) (.str x)
  | lst {a : Addr} {xs : List V} {ds : List PyData} : SqL K H a xs → DdAll K H xs ds → Dd K H (.ref a) (.list ds)
  | tup {a : Addr} {xs : List V} {ds : List PyData} : SqT K H a xs → DdAll K H xs ds → Dd K H (.ref a) (.tuple ds)
  | dct {a : Addr} : H a = some (.dK []) → Dd K H (.ref a) (.dict [])
inductive DdAll (K : PySem.W.Frag) (H : Hp) : List V → List PyData → Prop
  | nil : DdAll K H [] []
  | cons {v : V} {vs : List V} {d : PyData} {ds : List PyData} : Dd K H v d → DdAll K H vs ds → DdAll K H (v :: vs) (d :: ds)
end
mutual
/-- no list within -/
def noLst : PyData → Bool
  | .list _ => false
  | .tuple ds => noLstA ds
  | _ => true
def noLstA : List PyData → Bool
  | [] => true
  | d :: ds => noLst d && noLstA ds
end
section
variable {X : Cx} {pins : List (Addr × Obj)} {σ : L2.St} {H : Hp} {s : Shared}
mutual
theorem Dd.reads (I : Inv X pins σ H s) : ∀ (d : PyData) (v : V) (u : Value), Dd X.K H v d → RelV v u → ∃ as, Reads s.heap u d as ∧ (noLst d = true → sysModules ∉ as)
  | .none, _, _, h, r => by
    cases h; cases r
    exact ⟨_, Reads.none, fun _ => by simp⟩
  | .bool b, _, _, h, r => by
    cases h; cases r
    exact ⟨_, Reads.bool b, fun _ => by simp⟩
  | .int i, _, _, h, r => by
    cases h
    obtain ⟨t, rfl⟩ := r
    exact ⟨_, Reads.int i t, fun _ => by simp⟩
  | .str x, _, _, h, r => by
    cases h
    obtain ⟨t, rfl⟩ := r
    exact ⟨_, Reads.str x t, fun _ => by simp⟩
  | .list ds, _, _, h, r => by
    cases h with
    | lst hs ha =>
      cases r
      obtain ⟨its, rv, ⟨o, n, ho, hc, _, hd⟩, _⟩ := I.list hs
      obtain ⟨as, hr, _⟩ := DdAll.reads I ds _ its ha rv
      exact ⟨_, Reads.list ho hc hd hr, fun z => by simp [noLst] at z⟩
  | .tuple ds, _, _, h, r => by
    cases h with
    | tup hs ha =>
      cases r
      obtain ⟨its, rv, ⟨o, ho, hc, n, hd⟩, _⟩ := I.tuple hs
      obtain ⟨as, hr, hn⟩ := DdAll.reads I ds _ its ha rv
      exact ⟨_, Reads.tuple ho hc hd hr, fun z => hn (by simpa [noLst] using z)⟩
  | .dict kvs, _, _, h, r => by
    cases h with
    | dct hs =>
      cases r
      obtain ⟨_, hne, vs, kv, hd⟩ := I.hok _ _ hs
      cases kv
      obtain ⟨o, es, ep, ho, hx, hda, _, hp, _⟩ := hd
      have e0 : es.toList = [] := by
        generalize es.toList = l at hp
        cases hp
        rfl
      refine ⟨_, Reads.dict (kvs := []) ho hx.1 hda (by rw [e0]; exact ReadsAll.nil) (by rw [e0]; exact ReadsAll.nil), fun _ z => ?_⟩
      simp at z
      rw [← z] at hne
      simp at hne
theorem DdAll.reads (I : Inv X pins σ H s) : ∀ (ds : List PyData) (vs : List V) (us : List Value), DdAll X.K H vs ds → Vals vs us → ∃ as, ReadsAll s.heap us ds as ∧ (noLstA ds = true → sysModules ∉ as)
  | [], _, _, h, r => by
    cases h; cases r
    exact ⟨_, ReadsAll.nil, fun _ => by simp⟩
  | d :: ds, _, _, h, r => by
    cases h with
    | cons h1 h2 =>
      cases r with
      | cons r1 r2 =>
        obtain ⟨as, q1, n1⟩ := Dd.reads I d _ _ h1 r1
        obtain ⟨bs, q2, n2⟩ := DdAll.reads I ds _ _ h2 r2
        refine ⟨_, ReadsAll.cons q1 q2, fun z => ?_⟩
        simp only [noLstA, Bool.and_eq_true] at z
        intro m
        rcases List.mem_append.mp m with m | m
        · exact n1 z.1 m
        · exact n2 z.2 m
end
/-- repr(x) of data -/
theorem call_reprD (hgu : X.A.guards = some []) (hu : X.A.units + 64 < cLine) : CallR X (.builtin "repr") (fun xs H Q => ∃ v d, xs = [v] ∧ Dd X.K H v d ∧ d.showable = true ∧ (d.hasDict = true → noLst d = true) ∧ d.depth < 60 ∧ d.shown.length ≤ sizeLine ∧ Q (.str d.shown) H) := by
  intro pins s σ H xs us Q I r h
  obtain ⟨v, d, rfl, hd, hs, hdd, hdp, hz, q⟩ := h
  obtain ⟨u, rfl, rv⟩ := vals1 r
  have fin : ∀ a as, u = .ref a → Reads s.heap (.ref a) d as → (noLst d = true → sysModules ∉ as) → wpAny (model X.prog X.w) X.A (call (.builtin "repr") [u]) (EP X pins σ Q) X.xe s := by
    rintro a as rfl rd hn
    refine PySem.repr_of_reads' rd hs (fun z => hn (hdd z)) hgu (by omega) (fun _ _ e => e) (fun h' u tk k => ?_) hz
    exact ⟨.str d.shown, H, I.kept k, ⟨_, rfl⟩, q⟩
  cases hd with
  | non => cases rv; exact PySem.P.repr_of_none ⟨.str _, H, I.tok _, ⟨_, rfl⟩, q⟩
  | bl b => cases rv; exact PySem.P.repr_of_bool ⟨.str _, H, I.tok _, ⟨_, rfl⟩, q⟩
  | int i => obtain ⟨t, rfl⟩ := rv; exact PySem.P.repr_of_int (by simpa [PyData.showable] using hs) ⟨.str _, H, I.tok _, ⟨_, rfl⟩, q⟩
  | str y => obtain ⟨t, rfl⟩ := rv; exact PySem.P.repr_of_str ⟨.str _, H, I.tok _, ⟨_, rfl⟩, q⟩ hz
  | lst h1 h2 =>
    obtain ⟨as, rd, hn⟩ := Dd.reads I _ _ _ (Dd.lst h1 h2) rv
    cases rv
    exact fin _ as rfl rd hn
  | tup h1 h2 =>
    obtain ⟨as, rd, hn⟩ := Dd.reads I _ _ _ (Dd.tup h1 h2) rv
    cases rv
    exact fin _ as rfl rd hn
  | dct h1 =>
    obtain ⟨as, rd, hn⟩ := Dd.reads I _ _ _ (Dd.dct h1) rv
    cases rv
    exact fin _ as rfl rd hn
end
end Vf
end
section
set_option Elab.async false
set_option linter.all false
set_option maxRecDepth 100000
set_option maxHeartbeats 4000000
/-! The end of a law's row whose law is such a def. -/
namespace Vf
open PySem PySem.Spec PyProof.Rows L2 GxR
section
variable {P : Program} {w : World} {K : PySem.W.Frag} {mg mb : Str → Option Value} {CX : CXT} {k : Nat} {fa a : Addr} {cs : List (Addr × Addr)} {fd : FuncData} {x : Str} {sp : Sp} {s₁ : Shared} {vs : List Value} {ns : List Int}

/-- the script's own object -/
abbrev lo (vs : List Value) : Obj := { cls := .type "list", data := .seq vs.toArray }
/-- what is tracked where the law is called -/
def H1st (K : PySem.W.Frag) (T : List Addr) (a : Addr) (vs : List Value) (ns : List Int) : Hp := fun b =>
  if b ∈ T then some (.tbl #[]) else if b = a ∧ K.lookup a = none then some (.frz (lo vs) (.lst (ns.map V.int))) else none
theorem H1st_tab {T : List Addr} {b : Addr} (h : b ∈ T) : H1st K T a vs ns b = some (.tbl #[]) := if_pos h
theorem H1st_cases (T : List Addr) (b : Addr) : (b ∈ T ∧ H1st K T a vs ns b = some (.tbl #[])) ∨ (b ∉ T ∧ b = a ∧ K.lookup a = none ∧ H1st K T a vs ns b = some (.frz (lo vs) (.lst (ns.map V.int)))) ∨ (b ∉ T ∧ H1st K T a vs ns b = none) := by
  unfold H1st
  by_cases h1 : b ∈ T
  · exact Or.inl ⟨h1, if_pos h1⟩
  · by_cases h2 : b = a ∧ K.lookup a = none
    · exact Or.inr (Or.inl ⟨h1, h2.1, h2.2, by rw [if_neg h1, if_pos h2]⟩)
    · exact Or.inr (Or.inr ⟨h1, by rw [if_neg h1, if_neg h2]⟩)

theorem law_callG (inK : K.In s₁.heap) (gl : s₁.heap.Ns mainGlobals mg) (bl : s₁.heap.Ns builtinsNs mb) (bb : ∀ x : Str, x ≠ "__name__" → mb x = bootBuiltins x) (nl : s₁.heap.NoLimit) (ge : s₁.gens = #[])
    (tE : ∀ p ∈ cs, s₁.heap.get? p.2 = some { cls := .none, data := .fields #[] }) (tK : ∀ p ∈ cs, K.lookup p.2 = none) (cH : ∀ p ∈ cs, PySem.W.CodeHd s₁.heap p.1 p.2)
    (bM : ∃ (bm : Addr) (ob : Obj), mg "__builtins__" = some (.ref bm) ∧ bm ≠ builtinsNs ∧ s₁.heap.get? bm = some ob ∧ ob.cls = .type "module" ∧ ob.dict = some builtinsNs ∧ ob.data = .plain)
    (aL : s₁.heap.get? a = some (lo vs)) (iA : IntsAre vs ns) (nz : ns.length ≤ sizeLine) (hr : Room k callerA)
    (F : ∀ base : Heap, K.In base → base.Ns mainGlobals mg → (∀ p ∈ cs, TabB base mg p.1 p.2) → FnG P w K mg base CX k fa fd [x] sp) (bnd : ∀ (s : Shared) (u : Value), BindsTo s fd ⟨[u], []⟩ [(x, u)])
    (hsp : ∀ H : Hp, (∀ p ∈ cs, H p.2 = some (.tbl #[])) → (∀ b, H b = none ∨ b ∈ cs.map (·.2) ∨ b = a) → SqL K H a (ns.map V.int) → sp [.ref a] H (fun v _ => v = .bl true) fun _ _ _ => False)
    (nX : ∀ H e s', CX [] H s₁ (fun _ _ _ => False) e s' → False) :
    codeAny (model P w) callerA (.call (.ref fa) ⟨[.ref a], []⟩) (fun r s' => r = .ok (.ret (.bool true)) ∧ OldK s₁.heap s'.heap ∧ s'.os = s₁.os ∧ AllBare s'.gens) s₁ := by
  have vl := vals_ints iA
  have ln := iA.length
  generalize eT : cs.map (·.2) = T at hsp
  have inT : ∀ p ∈ cs, p.2 ∈ T := fun p hp => eT ▸ List.mem_map.mpr ⟨p, hp, rfl⟩
  have ofT : ∀ b ∈ T, ∃ p ∈ cs, p.2 = b := fun b hb => by
    rw [← eT] at hb
    exact List.mem_map.mp hb
  have tO : ∀ b ∈ T, s₁.heap.get? b = some { cls := .none, data := .fields #[] } := fun b hb => by
    obtain ⟨p, hp, rfl⟩ := ofT b hb
    exact tE p hp
  have aT : a ∉ T := fun z => by
    have q := tO a z
    rw [aL] at q
    exact nomatch congrArg Obj.data (Option.some.inj q)
  generalize eH : H1st K T a vs ns = H
  have cas := fun b => eH ▸ H1st_cases (K := K) (a := a) (vs := vs) (ns := ns) T b
  have hT : ∀ b ∈ T, H b = some (.tbl #[]) := fun b hb => eH ▸ H1st_tab hb
  -- an object that is neither a list nor an empty record is not tracked
  have plainO : ∀ {b : Addr} {o : Obj}, s₁.heap.get? b = some o → (∀ ys m, o.data ≠ .seq ys m) → o.data ≠ .fields #[] → H b = none := by
    intro b o e h1 h2
    rcases cas b with ⟨hb, _⟩ | ⟨_, rfl, _, _⟩ | ⟨_, h⟩
    · rw [tO b hb] at e
      exact (h2 (Option.some.inj e ▸ rfl)).elim
    · rw [aL] at e
      cases e
      exact (h1 _ _ rfl).elim
    · exact h
  have nsT : ∀ {b : Addr} {m : Str → Option Value}, s₁.heap.Ns b m → (hidT s₁.heap H).Ns b m := by
    rintro b m ⟨o, es, ep, e, d, r⟩
    exact ⟨o, es, ep, hidT_get e (plainO e (fun ys m z => nomatch d.symm.trans z) fun z => nomatch d.symm.trans z), d, r⟩
  have inB : K.In (hidT s₁.heap H) := fun b o e => by
    refine hidT_get (inK b o e) ?_
    rcases cas b with ⟨hb, _⟩ | ⟨_, rfl, h, _⟩ | ⟨_, h⟩
    · obtain ⟨p, hp, rfl⟩ := ofT b hb
      exact nomatch (tK p hp).symm.trans e
    · exact nomatch h.symm.trans e
    · exact h
  have M : L2.Mod K mg (hidT s₁.heap H) := by
    refine ⟨inB, nsT gl, ⟨mb, nsT bl, bb⟩, ?_⟩
    obtain ⟨mc, h1, h2⟩ := nl
    exact ⟨mc, nsT h1, h2⟩
  have TB : ∀ p ∈ cs, TabB (hidT s₁.heap H) mg p.1 p.2 := by
    intro p hp
    refine ⟨?_, ?_, ?_⟩
    · obtain ⟨o, us, file, tf, flags, tg, inF, text, tt, e1, r1, r2, r3, rest⟩ := cH p hp
      exact ⟨o, us, file, tf, flags, tg, inF, text, tt, hidT_get e1 (plainO e1 (fun ys m z => nomatch r2.symm.trans z) fun z => by
        rw [r2] at z
        injection z with z
        rw [z] at r3
        simp at r3), r1, r2, r3, rest⟩
    · obtain ⟨bm, ob, b1, b2, b3, b4, b5, b6⟩ := bM
      have d1 : ∀ ys m, ob.data ≠ .seq ys m := fun ys m z => nomatch b6.symm.trans z
      have d2 : ob.data ≠ .fields #[] := fun z => nomatch b6.symm.trans z
      refine ⟨bm, ob, b1, b2, ?_, ?_, hidT_get b3 (plainO b3 d1 d2), b4, b5, b6⟩
      · rintro rfl
        obtain ⟨o, es, ep, e, hd, _⟩ := gl
        rw [b3] at e
        rw [Option.some.inj e] at b6
        exact nomatch hd.symm.trans b6
      · rintro rfl
        rw [tE p hp] at b3
        exact d2 (Option.some.inj b3 ▸ rfl)
    · intro z
      obtain ⟨o, es, ep, e, hd, _⟩ := gl
      rw [z, tE p hp] at e
      rw [← Option.some.inj e] at hd
      exact nomatch hd
  have ok : HOk P w H s₁.heap := fun b u e => by
    rcases cas b with ⟨hb, h⟩ | ⟨_, rfl, _, h⟩ | ⟨_, h⟩
    · rw [h] at e
      cases e
      exact tO b hb
    · rw [h] at e
      cases e
      exact ⟨aL, by rw [List.length_map]; exact nz, vs, _, vl, aL⟩
    · rw [h] at e
      cases e
  have SQ : SqL K H a (ns.map V.int) := by
    rcases cas a with ⟨hb, _⟩ | ⟨_, _, _, h⟩ | ⟨_, h⟩
    · exact (aT hb).elim
    · exact Or.inl (Or.inr ⟨_, h⟩)
    · cases q : K.lookup a with
      | none =>
        rw [← eH] at h
        unfold H1st at h
        rw [if_neg aT, if_pos ⟨rfl, q⟩] at h
        cases h
      | some o =>
        have e := inK a o q
        rw [aL] at e
        cases e
        exact Or.inr ⟨_, vs.toArray, _, q, rfl, rfl, rfl, by rw [List.size_toArray, ln]; exact nz, by simpa using vl⟩
  have E0 : Env0 P w K mg (hidT s₁.heap H) callerA [] s₁ H := ⟨rfl, M, fun b o e => of_hidT e, Nat.le_of_eq (hidT_size _ _), trivial, fun b hb => absurd (show b ∈ ([] : List Addr) from hb) (by simp), ok, AllBare.of_eq ge⟩
  have go := (F _ inB (nsT gl) TB).run callerA [] s₁ H ⟨[.ref a], []⟩ [.ref a] [.ref a] _ _ rfl hr E0 (bnd s₁ (.ref a)) (.cons rfl .nil) (hsp H (fun p hp => hT _ (inT p hp)) (fun b => by
    rcases cas b with ⟨hb, _⟩ | ⟨_, h, _, _⟩ | ⟨_, h⟩
    · exact Or.inr (Or.inl hb)
    · exact Or.inr (Or.inr h)
    · exact Or.inl h) SQ)
  refine codeAny_mono go ?_
  intro r s' h
  cases r with
  | error e => exact (nX H e s' h).elim
  | ok fl =>
    cases fl with
    | next => exact h.elim
    | brk => exact h.elim
    | cont => exact h.elim
    | ret u =>
      obtain ⟨v, H', os, bare, un, ok', r', q⟩ := h
      cases (show v = .bl true from q)
      cases (show u = Value.bool true from r')
      have same : ∀ b o, b ∉ T → s₁.heap.get? b = some o → s'.heap.get? b = some o := by
        intro b o nb e
        rcases cas b with ⟨hb, _⟩ | ⟨_, rfl, _, h⟩ | ⟨_, h⟩
        · exact (nb hb).elim
        · rw [aL] at e
          cases e
          exact (ok' b _ (un.frzs b _ _ h)).1
        · exact un.keep b o e h (fun z => absurd (show b ∈ ([] : List Addr) from z) (by simp)) (by simp)
      have grew : ∀ b ∈ T, ∃ more : Array Value, s'.heap.get? b = some { cls := .none, data := .fields more } := fun b hb => by
        obtain ⟨more, z⟩ := un.tbls b #[] (hT b hb)
        exact ⟨_, ok' b _ z⟩
      refine ⟨rfl, ⟨?_, ?_⟩, os, bare⟩
      · intro b o e
        by_cases hb : b ∈ T
        · obtain ⟨more, hm⟩ := grew b hb
          rw [tO b hb] at e
          cases e
          obtain ⟨p, hp, rfl⟩ := ofT b hb
          exact Or.inr (Or.inl ⟨((cH p hp).tab (tE p hp)).isCodeTable, rfl, #[], more, rfl, by rw [Array.empty_append]; exact hm⟩)
        · exact Or.inl (same b o hb e)
      · intro b o e
        by_cases hb : b ∈ T
        · obtain ⟨more, hm⟩ := grew b hb
          exact ⟨_, hm⟩
        · exact ⟨o, same b o hb e⟩
end
/-- what is known of the law at the head's heap -/
def LawAtG (l : PySem.W.OpenLaw) (w : World) (K : PySem.W.Frag) (CX : CXT) (k n : Nat) (x : Str) (mg : Str → Option Value) (fa : Addr) (h : Heap) : Prop :=
  ∃ (fd : FuncData) (cs : List (Addr × Addr)) (sp : Sp), (∀ p ∈ cs, h.get? p.2 = some { cls := .none, data := .fields #[] }) ∧ (∀ p ∈ cs, K.lookup p.2 = none) ∧ (∀ p ∈ cs, PySem.W.CodeHd h p.1 p.2) ∧
    (∀ (s : Shared) (u : Value), BindsTo s fd ⟨[u], []⟩ [(x, u)]) ∧
    (∀ (H : Hp) (a : Addr) (ns : List Int), ns.length ≤ n → (∀ z ∈ ns, Builtin.Int.intBits z ≤ 1048576) → (∀ p ∈ cs, H p.2 = some (.tbl #[])) → (∀ b, H b = none ∨ b ∈ cs.map (·.2) ∨ b = a) → SqL K H a (ns.map V.int) →
      sp [.ref a] H (fun v _ => v = .bl true) fun _ _ _ => False) ∧
    ∀ base : Heap, K.In base → base.Ns mainGlobals mg → (∀ p ∈ cs, TabB base mg p.1 p.2) → FnG l.prog w K mg base CX k fa fd [x] sp
theorem walkG {l : PySem.W.OpenLaw} {n k : Nat} {q : Program} {loose : List Str} {XP : (Str → Option Value) → Heap → Prop} {YP : World → Heap → Prop} {d : DefRec} {CX : World → CXT} {x : Str}
    (hn : l.most = some n) (n2 : n ≤ sizeLine) (nd : d.params.defaults = []) (hr : Room k callerA)
    (F : ∀ (w : World) (mg : Str → Option Value) (fa : Addr) (h : Heap), YP w h → h.Ns mainGlobals mg → mg d.name = some (.ref fa) → ∃ K : PySem.W.Frag, K.In h ∧ LawAtG l w K (CX w) k n x mg fa h)
    (nX : ∀ (w : World) (H : Hp) (s : Shared) (e : Value) (s' : Shared), CX w [] H s (fun _ _ _ => False) e s' → False) :
    PySem.W.WalkO q loose XP YP l.row.toRowW d [] (fun f vs => PySem.call f vs) := by
  refine Att.attach_callB hn nd ?_
  intro w s₀ s₁ mg mb fa o pm cd doc a vs ns G Y ho hd hcd hmg hobj hints hlen hbits hg
  obtain ⟨K, KX, fd, cs, sp, h1, h2, h3, h4, h5, h6⟩ := F w mg fa _ Y G.T.g hmg
  exact law_callG KX G.T.g G.T.b G.T.builtins G.T.nolimit hg h1 h2 h3 G.T.bmain hobj hints (Nat.le_trans hlen n2) hr h6 h4 (fun H hH hO hS => h5 H a ns hlen hbits hH hO hS) fun H e s' => nX w H s₁ e s'
end Vf
end
section
set_option Elab.async false
set_option linter.all false
set_option maxRecDepth 100000
set_option maxHeartbeats 4000000
/-! any, all of a generator expression whose element may call defs. -/
namespace Vf
open PySem PySem.Spec PyProof.Rows L2 GxR

/-- a generator expression's own names, over the names N of the def around (scope sc): own, the slots that it hides -/
structure GOk (N : List Str) (sc scope : Scope) (x : Str) (own : List Nat) : Prop where
  kind : scope.kind = .function
  co : scope.isCoroutine = false
  cell : ∀ y ∈ scope.names, y.2 ≠ .cell
  dot : scope.names.lookup (".0" : Str) = some NameKind.local
  loc : scope.names.lookup x = some .local
  free : ∀ y ∈ scope.names, y.2 = .free → sc.names.lookup y.1 = some .cell ∨ sc.names.lookup y.1 = some .free
  own : ∀ p ∈ N.zipIdx, scope.names.lookup p.1 = some .local → p.2 ∈ own
def gokB (N : List Str) (sc scope : Scope) (x : Str) (own : List Nat) : Bool :=
  (match scope.kind with | .function => true | _ => false) && !scope.isCoroutine && scope.names.all (fun y => decide (y.2 ≠ .cell)) && decide (scope.names.lookup (".0" : Str) = some NameKind.local) && decide (scope.names.lookup x = some .local) &&
  scope.names.all (fun y => decide (y.2 ≠ .free) || decide (sc.names.lookup y.1 = some .cell) || decide (sc.names.lookup y.1 = some .free)) &&
  N.zipIdx.all (fun p => decide (scope.names.lookup p.1 ≠ some .local) || own.contains p.2)
theorem gok_by {N : List Str} {sc scope : Scope} {x : Str} {own : List Nat} (h : gokB N sc scope x own = true) : GOk N sc scope x own := by
  unfold gokB at h
  simp only [Bool.and_eq_true, List.all_eq_true, decide_eq_true_eq, Bool.or_eq_true, Bool.not_eq_true'] at h
  obtain ⟨⟨⟨⟨⟨⟨h1, h2⟩, h3⟩, h4⟩, h5⟩, h6⟩, h7⟩ := h
  refine ⟨?_, h2, h3, h4, h5, fun y hy e => ?_, fun p hp e => ?_⟩
  · split at h1
    · assumption
    · cases h1
  · rcases h6 y hy with (q | q) | q
    · exact absurd e q
    · exact Or.inl q
    · exact Or.inr q
  · rcases h7 p hp with q | q
    · exact absurd e q
    · exact List.contains_iff_mem.mp q

/-- the frame of the generator while it runs: A around it, s and H where it was made, fp its iterator's objects -/
abbrev gcx (X : Cx) (A : Around) (s : Shared) (H : Hp) (genv : Env) (fp : List Addr) : Cx :=
  { X with A := A, s_0 := s, H_0 := H, env := genv, outer := X.stack, stack := genv :: X.stack, ex := fp, fn := fun _ => false, calm := true, pn := [], xe := fun _ _ => False }

theorem over_comp {A : Around} {elt tg iter : Expr} {ifs : List Expr} {scope : Scope} {pos : Pos} {it acc : Value} {env : Env} :
    A.over (.compLoop (.GeneratorExp elt [⟨tg, iter, ifs, 0⟩] scope pos) 0 it acc env) [] = A.deeper env := by
  first
    | rfl
    | (obtain ⟨hd, d, fr, gs, u⟩ := A; simp [Around.over, Around.deeper, marksOver, frameCount, unitsOf, envsOf, guardsOf, pushEnvs, pushGuards, Code.envs, Code.env?, Code.isFrame, Code.guards, Code.isGuard, Code.weight, Code.frames, Code.isCreation, Code.isCaller, Code.cUnits])
theorem over_start {A : Around} {elt tg iter : Expr} {ifs : List Expr} {scope : Scope} {pos : Pos} {it acc : Value} {env : Env} :
    A.over (.compStart (.GeneratorExp elt [⟨tg, iter, ifs, 0⟩] scope pos) 0 it acc env) [] = A.deeper env := by
  first
    | rfl
    | (obtain ⟨hd, d, fr, gs, u⟩ := A; simp [Around.over, Around.deeper, marksOver, frameCount, unitsOf, envsOf, guardsOf, pushEnvs, pushGuards, Code.envs, Code.env?, Code.isFrame, Code.guards, Code.isGuard, Code.weight, Code.frames, Code.isCreation, Code.isCaller, Code.cUnits])

section
variable {X : Cx} {pins : List (Addr × Obj)} {σ : L2.St} {H : Hp} {s : Shared}

/-- the generator's frame as it is made -/
theorem gen_start {A : Around} {scope : Scope} {x : Str} {own : List Nat} {fp : List Addr} {it : Value} {code : Value} {h' h5 : Heap} {g5 : Array GenState} {t5 : Nat} {go : Obj} {a : Addr}
    (hA : A.handled = none) (hAf : A.frames = some (genEnv scope (cloFrom X.env.cells scope.names []) s.heap.objs.size code builtinsNs X.env :: X.stack))
    (I : Inv X pins σ H s) (ok : GOk X.N X.env.scope scope x own) (hfp : ∀ b ∈ fp, FpOk X pins H b ∧ b < s.heap.objs.size)
    (k5 : ∀ b o, s.heap.get? b = some o → h5.get? b = some o) (n5 : h5.Ns s.heap.objs.size (fun y => if y = (".0" : Str) then some it else none)) (b5 : AllBare g5)
    (ha : s.heap.objs.size < a) (ga : h5.get? a = some go) (gd : ∀ v, go.data ≠ .cell v) :
    Inv (gcx X A s H (genEnv scope (cloFrom X.env.cells scope.names []) s.heap.objs.size code builtinsNs X.env) fp) [(a, go)] (wipe σ own) H { s with heap := h5, gens := g5, toks := t5 } := by
  have hfree : ∀ y, (y, NameKind.free) ∈ scope.names → ∃ c, X.env.cells.lookup y = some c := fun y hy => by
    rcases ok.free _ hy rfl with k | k
    · exact I.ok.has _ (.inl k)
    · exact I.ok.has _ (.inr k)
  have cm : ∀ {y c}, (y, c) ∈ cloFrom X.env.cells scope.names [] → X.env.cells.lookup y = some c := fun {y c} hm => by
    rcases cloFrom_mem hm with hm | ⟨h1, rfl⟩
    · cases hm
    · obtain ⟨c, hc⟩ := hfree _ h1
      rw [hc]; rfl
  have cl : ∀ {y c}, (cloFrom X.env.cells scope.names []).lookup y = some c → X.env.cells.lookup y = some c := fun {y c} e => cm (PySem.mem_of_lookup e)
  have lk : ∀ {y}, scope.names.lookup y = some .free → ∃ c, (cloFrom X.env.cells scope.names []).lookup y = some c ∧ X.env.cells.lookup y = some c := fun {y} hl => by
    obtain ⟨c', e'⟩ := mem_lookup (cloFrom_has (cells := X.env.cells) (acc := []) (PySem.mem_of_lookup hl))
    exact ⟨c', e', cl e'⟩
  have nC : ∀ b, b ∈ fp → b ≠ s.heap.objs.size := fun b hb => Nat.ne_of_lt (hfp b hb).2
  refine ⟨⟨I.ok.mod, ok.kind, I.ok.glob, rfl, Nat.le_refl _, fun y z c e1 e2 => I.ok.inj y z c (cl e1) (cl e2), fun y hy => ?_, fun y c e => Bool.noConfusion (show false = true from e), fun _ => hA, hAf, .inr ⟨rfl, rfl⟩, fun b hb => ⟨nC b hb, fun y c e z => ?_⟩, I.bs,
      Nat.le_trans I.ok.bsz I.sz, fun b o e hb => ?_, fun b hb z => ?_, I.stack, I.stkFree⟩, rfl, b5, Un.kept k5, ⟨_, n5, fun i y v e1 e2 e3 => ?_⟩, fun y c e => ?_, I.hok.fresh (Nat.le_refl _), fun y c e => I.freeC y c (cl e), fun p hp => ?_, I.hok.kept k5, by rw [wipe_length]; exact I.len⟩
  · have hy : scope.names.lookup y = some .cell ∨ scope.names.lookup y = some .free := hy
    rcases hy with hy | hy
    · exact absurd rfl (ok.cell _ (PySem.mem_of_lookup hy))
    · obtain ⟨c, h1, _⟩ := lk hy
      exact ⟨c, h1⟩
  · exact (hfp b hb).1.2.2.2.2.1 y c (cl e) z
  · rcases (hfp b hb).1.2.2.2.1 with z | z
    · exact I.ok.noex b o e z
    · exact absurd (Nat.lt_of_lt_of_le (Heap.lt_size e) (Nat.le_trans I.ok.bsz z)) (Nat.lt_irrefl _)
  · rcases List.mem_cons.mp (I.stkSub b z) with z | z
    · exact (hfp b hb).1.2.1 z
    · exact (hfp b hb).1.2.2.1 z
  · obtain ⟨e2, hne⟩ := wipe_some e2
    have e3 : scope.names.lookup y = some .local ∨ scope.names.lookup y = some .cell ∨ scope.names.lookup y = some .free := e3
    have e1' : X.N[i]? = some y := e1
    rcases e3 with e3 | e3 | e3
    · have hm : (y, i) ∈ X.N.zipIdx := by
        rw [List.mem_zipIdx_iff_getElem?]
        exact e1'
      exact absurd (ok.own _ hm e3) hne
    · exact absurd rfl (ok.cell _ (PySem.mem_of_lookup e3))
    · obtain ⟨m, hn, hl⟩ := I.loc
      have hsc := ok.free _ (PySem.mem_of_lookup e3) rfl
      obtain ⟨u, r, q⟩ := hl i y v e1' e2 (hsc.elim (fun k => .inr (.inl k)) fun k => .inr (.inr k))
      obtain ⟨c, h1, h2⟩ := lk e3
      refine ⟨u, r, .inr ⟨.inr e3, c, h1, ?_⟩⟩
      rcases q with ⟨k, _⟩ | ⟨_, c', e', z⟩
      · have k : X.env.scope.names.lookup y = some .local := k
        rcases hsc with k' | k' <;> (have k' : X.env.scope.names.lookup y = _ := k'; rw [k] at k'; cases k')
      · rw [h2] at e'; cases e'
        exact z.keeps k5
  · obtain ⟨v, z⟩ := I.cell y c (cl e)
    exact ⟨v, z.keeps k5⟩
  · have hp : p ∈ ([] : List (Addr × Obj)) ++ [(a, go)] := hp
    simp only [List.nil_append, List.mem_singleton] at hp
    subst hp
    refine ⟨ga, I.hok.fresh (Nat.le_of_lt ha), Nat.ne_of_gt ha, fun z => ?_, gd⟩
    have z : a ∈ frs X.stack := z
    rcases List.mem_cons.mp (I.stkSub a z) with z | z
    · have := I.lt
      rw [← z] at this
      exact absurd (Nat.lt_trans this ha) (Nat.lt_irrefl _)
    · exact I.nofs (Nat.le_of_lt ha) z
end
end Vf
end
section
set_option Elab.async false
set_option linter.all false
set_option maxRecDepth 100000
set_option maxHeartbeats 4000000
namespace Vf
open PySem PySem.Spec PyProof.Rows L2 GxR

/-- while the generator sleeps nothing happens to the heap -/
structure Slp (s s' : Shared) : Prop where
  os : s'.os = s.os
  bare : AllBare s'.gens
  heap : s'.heap = s.heap
theorem Inv.slp {X : Cx} {pins : List (Addr × Obj)} {σ : L2.St} {H : Hp} {s s' : Shared} (I : Inv X pins σ H s) (z : Slp s s') : Inv X pins σ H s' := by
  obtain ⟨h1, h2, h3⟩ := z
  exact I.call' (ch := []) h1 (by rw [h3]; exact Un.refl) (by rw [h3]; exact I.hok) h2 (fun b hb => absurd hb (by simp))

/-- what the turns of an any (cont false), an all (cont true) are to reach -/
def Turns (cont : Bool) (j : Nat) (σ0 : L2.St) (tt : TT) (te : TE) (J : It) (Q : VK) (W : Nat → Nat → Hp → Prop) : Prop :=
  ∀ i m H, W i m H → (J.stop i H ∧ Q (.bl cont) H) ∨ (J.go i H ∧ ∃ Nx : Hp → Prop, (∀ H', Nx H' → ∃ m', m' < m ∧ W (i + 1) m' H') ∧ ∀ y H', J.yld i H y H' →
    tt (σ0.set j (some y)) H' fun b H3 => if b = true then te (σ0.set j (some y)) H3 fun z H4 => ∃ c, z = .bl c ∧ (if c = cont then Nx H4 else Q (.bl (!cont)) H4) else Nx H3)
def GPr (Xg : Cx) (pin : List (Addr × Obj)) (σ0 : L2.St) (Q : VK) (cont : Bool) : Protocol := fun n s₀ v s kap =>
  ∃ c H, v = .bool c ∧ Inv Xg pin σ0 H s ∧ (if c = cont then ∀ s', Slp s s' → kap (.send .none) s' else Q (.bl (!cont)) H)
def GRe (Xg : Cx) (pin : List (Addr × Obj)) (σ0 : L2.St) (Q : VK) (cont : Bool) : GenEnd := fun n s₀ r s => r = .ok .next ∧ ∃ H, Inv Xg pin σ0 H s ∧ Q (.bl cont) H

section
variable {Xg : Cx} {A : Around} {elt iter : Expr} {ifs : List Expr} {x : Str} {px : Pos} {scope : Scope} {pos : Pos} {it : Addr} {fp : List Addr} {tn : Nat → Heap → Prop} {J : It} {pin : List (Addr × Obj)} {j : Nat} {tt : TT} {te : TE} {σ0 : L2.St}
  {Q : VK} {W : Nat → Nat → Hp → Prop} {cont : Bool}
theorem seg_gl (hc : Xg.calm = true) (hov : A.deeper Xg.env = Xg.A) (T : Turn Xg.prog Xg.w Xg.K (.Name x px) J fp it tn) (hpn : Xg.pn = []) (hex : Xg.ex = fp) (hpin : ∀ p ∈ pin, p.1 ∉ fp)
    (pg : PG Xg (.Name x px) (gName j)) (pt : PTs Xg ifs tt) (pe : PE Xg elt te) (h0 : ∀ v, σ0[j]? ≠ some (some v)) (hco : Xg.env.scope.isCoroutine = false) (hxe : Xg.xe = fun _ _ => False) (tu : Turns cont j σ0 tt te J Q W) :
    ∀ (m n i : Nat) (s₀ s : Shared) (H : Hp), m < n → Inv Xg pin σ0 H s → tn i s.heap → (∀ b ∈ fp, H b = none) → W i m H →
      Seg (model Xg.prog Xg.w) A (GRe Xg pin σ0 Q cont) (GPr Xg pin σ0 Q cont) n s₀ (.compLoop (.GeneratorExp elt [⟨.Name x px, iter, ifs, 0⟩] scope pos) 0 (.ref it) .none Xg.env)
        ((model Xg.prog Xg.w).den (.compLoop (.GeneratorExp elt [⟨.Name x px, iter, ifs, 0⟩] scope pos) 0 (.ref it) .none Xg.env)) [] s := by
  have stat : ∀ {σ' : L2.St} {H' : Hp} {s' : Shared}, Inv Xg pin σ' H' s' → (∀ b ∈ fp, H' b = none) → ∀ b ∈ fp, FpOk Xg pin H' b := fun {σ' H' s'} I' hn b hb => by
    have hb' : b ∈ Xg.ex := hex ▸ hb
    refine ⟨hn b hb, (I'.ok.exf b hb').1, I'.ok.exfs b hb', .inl hb', fun x c e => (I'.ok.exf b hb').2 x c e, fun p hp z => ?_⟩
    rw [hpn, List.nil_append] at hp
    exact hpin p hp (z ▸ hb)
  have oA : A.over (.compLoop (.GeneratorExp elt [⟨.Name x px, iter, ifs, 0⟩] scope pos) 0 (.ref it) .none Xg.env) [] = Xg.A := over_comp.trans hov
  intro m
  induction m using Nat.strongRecOn with
  | _ m ih =>
  intro n i s₀ s H hmn I st nf w
  show Seg _ A _ _ _ s₀ _ ((compTurn (.GeneratorExp elt [⟨.Name x px, iter, ifs, 0⟩] scope pos) 0 (.ref it) .none Xg.env).onRaise (leaving Xg.env)) [] s
  rw [compTurn_gen, Sem.onRaise_eq_wrap]
  refine seg_bind_wrap (wpAny_standAt ?_)
  rcases tu i m H w with ⟨stop, qq⟩ | ⟨go, Nx, hNx, step⟩
  · refine seg_bind_wrap ?_
    rw [oA]
    refine thnF (T.done Xg rfl rfl rfl hc i pin s _ H (fun _ _ => False) I (stat I nf) st stop) fun r s1 ⟨hr, I1⟩ => ?_
    subst hr
    exact seg_end (.ok .next) ⟨rfl, H, I1, qq⟩
  · refine seg_bind_wrap ?_
    rw [oA]
    refine thnF (T.item Xg rfl rfl rfl hc i pin s _ H (fun _ _ => False) I (stat I nf) st go) fun r s1 ⟨u, hr, h1⟩ => ?_
    subst hr
    refine seg_bind_wrap ?_
    rw [oA]
    refine thnF h1 fun _ s2 ⟨y, H2, I2, r2, y2, st2, n2⟩ => ?_
    have I2' := I2.pinned (stat I2 n2) (T.obj _ _ st2)
    refine seg_bind_wrap ?_
    rw [oA]
    refine wpAny_mono (pg.run _ s2 _ H2 y u (fun σ' H' => σ' = σ0.set j (some y) ∧ H' = H2) I2' r2 ⟨rfl, rfl⟩) (fun _ s3 ⟨σ3, H3, I3, e3, e4⟩ => ?_) (fun e s' z => by rw [hxe] at z; exact z.elim)
    subst e3
    subst e4
    -- the turn's end
    have fin : ∀ {s' : Shared} {H' : Hp}, Inv Xg (pin ++ pinsAt fp s2.heap) (σ0.set j (some y)) H' s' → Inv Xg pin σ0 H' s' ∧ tn (i + 1) s'.heap ∧ ∀ b ∈ fp, H' b = none := fun {s' H'} I' => by
      have pin' : ∀ b ∈ fp, ∀ o, s2.heap.get? b = some o → s'.heap.get? b = some o ∧ H' b = none := fun b hb o e =>
        let z := I'.pin (b, o) (List.mem_append_right _ (List.mem_append_right _ (mem_pinsAt hb e)))
        ⟨z.1, z.2.1⟩
      refine ⟨I'.unpinned.weak (by rw [List.length_set]) (fun k v e => ?_), T.keep _ _ _ st2 fun b hb o e => (pin' b hb o e).1, fun b hb => ?_⟩
      · by_cases hk : j = k
        · subst hk
          exact absurd e (h0 v)
        · rw [List.getElem?_set_ne hk]
          exact e
      · obtain ⟨o, e, _⟩ := T.obj _ _ st2 b hb
        exact (pin' b hb o e).2
    refine seg_bind_wrap ?_
    rw [oA]
    refine wpAny_mono (pt.run _ s3 _ H3 _ I3 (step y H3 y2)) (fun b s4 ⟨H4, I4, q4⟩ => ?_) (fun e s' z => by rw [hxe] at z; exact z.elim)
    cases b with
    | false =>
      simp only [Bool.false_eq_true, if_false] at q4 ⊢
      obtain ⟨m', hm, w'⟩ := hNx _ q4
      obtain ⟨I5, st5, n5⟩ := fin I4
      exact seg_again rfl (ih m' hm n (i + 1) s₀ s4 H4 (by omega) I5 st5 n5 w')
    | true =>
      simp only [if_true] at q4 ⊢
      have hy : ∀ v, yieldOut Xg.env v = yieldValue v := fun v => by simp only [yieldOut, hco, Bool.false_eq_true, if_false]
      simp only [hy]
      rw [Sem.bind_eq_wrap', Sem.bind_eq_wrap', Sem.wrap_wrap, Sem.wrap_wrap]
      refine seg_wrap ?_
      rw [oA]
      refine wpAny_mono (pe.run _ s4 _ H4 _ I4 q4) (fun v s5 ⟨z, H5, I5, r5, c, hz, q5⟩ => ?_) (fun e s' z => by rw [hxe] at z; exact z.elim)
      subst hz
      cases r5
      obtain ⟨I6, st6, n6⟩ := fin I5
      obtain ⟨n', rfl⟩ : ∃ n', n = n' + 1 := ⟨n - 1, by omega⟩
      refine seg_at (seg_yield rfl rfl rfl ⟨c, H5, rfl, I6, ?_⟩)
      by_cases hcc : c = cont
      · rw [if_pos hcc] at q5 ⊢
        intro s6 z6
        obtain ⟨m', hm, w'⟩ := hNx _ q5
        exact seg_again rfl (ih m' hm n' (i + 1) s6 s6 H5 (by omega) (Inv.slp I6 z6) (by rw [z6.heap]; exact st6) n6 w')
      · rw [if_neg hcc] at q5 ⊢
        exact q5
end
end Vf
end
section
set_option Elab.async false
set_option linter.all false
set_option maxRecDepth 100000
set_option maxHeartbeats 4000000
namespace Vf
open PySem PySem.Spec PyProof.Rows L2 GxR GenW
section
variable {Xg : Cx} {A : Around} {elt iter : Expr} {ifs : List Expr} {x : Str} {px : Pos} {scope : Scope} {pos : Pos} {it : Addr} {fp : List Addr} {tn : Nat → Heap → Prop} {J : It} {pin : List (Addr × Obj)} {j : Nat} {tt : TT} {te : TE} {σ0 : L2.St}
  {Q : VK} {W : Nat → Nat → Hp → Prop} {cont : Bool}
theorem seg_gst (hov : A.deeper Xg.env = Xg.A) (T : Turn Xg.prog Xg.w Xg.K (.Name x px) J fp it tn) {n : Nat} {s₀ s : Shared} (st : tn 0 s.heap)
    (loop : Seg (model Xg.prog Xg.w) A (GRe Xg pin σ0 Q cont) (GPr Xg pin σ0 Q cont) n s₀ (.compLoop (.GeneratorExp elt [⟨.Name x px, iter, ifs, 0⟩] scope pos) 0 (.ref it) .none Xg.env)
        ((model Xg.prog Xg.w).den (.compLoop (.GeneratorExp elt [⟨.Name x px, iter, ifs, 0⟩] scope pos) 0 (.ref it) .none Xg.env)) [] s) :
      Seg (model Xg.prog Xg.w) A (GRe Xg pin σ0 Q cont) (GPr Xg pin σ0 Q cont) n s₀ (.compStart (.GeneratorExp elt [⟨.Name x px, iter, ifs, 0⟩] scope pos) 0 (.ref it) .none Xg.env)
        ((model Xg.prog Xg.w).den (.compStart (.GeneratorExp elt [⟨.Name x px, iter, ifs, 0⟩] scope pos) 0 (.ref it) .none Xg.env)) [] s := by
  show Seg _ A _ _ _ s₀ _ ((compStart (.GeneratorExp elt [⟨.Name x px, iter, ifs, 0⟩] scope pos) 0 (.ref it) .none Xg.env).onRaise (leaving Xg.env)) [] s
  unfold compStart
  rw [Sem.onRaise_eq_wrap]
  show Seg _ A _ _ _ s₀ _ ((ask >>= _).wrap _ _ _ _) [] s
  refine seg_bind_wrap (wpAny_askSetting ?_)
  split
  · exact seg_again rfl loop
  · first
      | exact seg_bind_wrap (wpAny_rule (seg_bind_wrap (wpAny_standAt (seg_bind_wrap (T.self _ 0 s _ _ st (seg_again rfl loop))))))
      | (refine seg_bind_wrap (wpAny_rule ?_); show Seg _ A _ _ _ s₀ _ ((standAt iter.pos >>= _).wrap _ _ _ _) [] s; exact seg_bind_wrap (wpAny_standAt (seg_bind_wrap (T.self _ 0 s _ _ st (seg_again rfl loop)))))

/-- all over such a generator -/
theorem all_loop {R : Result → Shared → Prop} {a : Addr} {g : Nat} {go : Obj} (hh : A.handled = none) (hd : A.depth < recursionLimit) (hgo : ∀ h : Heap, h.get? a = some go → h.IsGen a g)
    (hR : ∀ b H' s', Inv Xg [(a, go)] σ0 H' s' → Q (.bl b) H' → R (.ok (.ret (.bool b))) s') :
    ∀ (n : Nat) (s : Shared) (H : Hp), Inv Xg [(a, go)] σ0 H s →
      (∃ gs, s.gens[g]? = some gs ∧ gs.Goes (model Xg.prog Xg.w) A.in1.in1 (GRe Xg [(a, go)] σ0 Q true) (GPr Xg [(a, go)] σ0 Q true) n (.send .none) (s.setGen g .running)) →
      codeAny (model Xg.prog Xg.w) A (.builtin "all.loop" ⟨[.ref a], []⟩) R s := by
  intro n
  induction n with
  | zero =>
    intro s H I ⟨gs, hgs, go1⟩
    have pa : s.heap.get? a = some go := (I.pin (a, go) (List.mem_append_right _ (List.mem_singleton.mpr rfl))).1
    refine codeAny_builtin F.entry_all_loop ?_
    rw [Around.under_plainId F.plain_all_loop _]
    show wpAny _ A.in1 (pyNext (.ref a) >>= _) _ _ s
    refine wpAny_bind (wpAny_pyNext_genexpQ (A := A.in1) (P := fun n s₀ s₁ => ∃ H', Inv Xg [(a, go)] σ0 H' s₁ ∧ Q (.bl true) H') hh I.nolimit hd (hgo _ pa) hgs go1 (fun v s1 gs' hb hv => ?_) (fun s1 hp h' hk => ?_))
    · obtain ⟨c, H1, rfl, I1, q1⟩ := hv
      by_cases hc : c = true
      · rw [if_pos hc] at q1
        exact (q1 s1 ⟨rfl, I1.bare, rfl⟩).elim
      · rw [if_neg hc] at q1
        have hc' : c = false := by simpa using hc
        subst hc'
        refine wpAny_bind (wpAny_holding (wpAny_truthy_bool ?_))
        refine wpAny_bind (wpAny_letGo ?_)
        simp only [Bool.false_eq_true, if_false]
        exact wpAny_bind (wpAny_rule (wpAny_pure (hR false H1 _ (Inv.slp I1 ⟨rfl, allBare_setGen I1.bare hb, rfl⟩) q1)))
    · obtain ⟨H1, I1, q1⟩ := hp
      refine wpAny_bind (wpAny_rule (wpAny_pure (hR true H1 _ ?_ q1)))
      exact I1.call' (ch := []) rfl (Un.kept hk) (I1.hok.kept hk) (allBare_setGen I1.bare rfl) (fun b hb => absurd hb (by simp))
  | succ m ih =>
    intro s H I ⟨gs, hgs, go1⟩
    have pa : s.heap.get? a = some go := (I.pin (a, go) (List.mem_append_right _ (List.mem_singleton.mpr rfl))).1
    have hgl : g < s.gens.size := (Array.getElem?_eq_some_iff.mp hgs).1
    refine codeAny_builtin F.entry_all_loop ?_
    rw [Around.under_plainId F.plain_all_loop _]
    show wpAny _ A.in1 (pyNext (.ref a) >>= _) _ _ s
    refine wpAny_bind (wpAny_gsz (n := g + 1) hgl (wpAny_pyNext_genexpQ (A := A.in1) (P := fun n s₀ s₁ => ∃ H', Inv Xg [(a, go)] σ0 H' s₁ ∧ Q (.bl true) H') hh I.nolimit hd (hgo _ pa) hgs go1 (fun v s1 gs' hb hv => ?_) (fun s1 hp h' hk => ?_)))
    · intro hsz
      obtain ⟨c, H1, rfl, I1, q1⟩ := hv
      have I2 := Inv.slp I1 (s' := s1.setGen g gs') ⟨rfl, allBare_setGen I1.bare hb, rfl⟩
      by_cases hc : c = true
      · rw [if_pos hc] at q1
        subst hc
        refine wpAny_bind (wpAny_holding (wpAny_truthy_bool ?_))
        refine wpAny_bind (wpAny_letGo ?_)
        simp only [if_true]
        have hsz1 : g < s1.gens.size := by
          have q : (s1.setGen g gs').gens.size = s1.gens.size := setGen_size _ _ _
          have hsz' : g + 1 ≤ (s1.setGen g gs').gens.size := hsz
          omega
        refine wpAny_pure ⟨plainId_quiet F.plain_all_loop _, ih _ H1 I2 ⟨gs', setGen_at hsz1, ?_⟩⟩
        exact q1 _ ⟨rfl, allBare_setGen (s := s1.setGen g gs') (allBare_setGen I1.bare hb) rfl, rfl⟩
      · rw [if_neg hc] at q1
        have hc' : c = false := by simpa using hc
        subst hc'
        refine wpAny_bind (wpAny_holding (wpAny_truthy_bool ?_))
        refine wpAny_bind (wpAny_letGo ?_)
        simp only [Bool.false_eq_true, if_false]
        exact wpAny_bind (wpAny_rule (wpAny_pure (hR false H1 _ I2 q1)))
    · intro _
      obtain ⟨H1, I1, q1⟩ := hp
      refine wpAny_bind (wpAny_rule (wpAny_pure (hR true H1 _ ?_ q1)))
      exact I1.call' (ch := []) rfl (Un.kept hk) (I1.hok.kept hk) (allBare_setGen I1.bare rfl) (fun b hb => absurd hb (by simp))
/-- any over such a generator -/
theorem any_loop {R : Result → Shared → Prop} {a : Addr} {g : Nat} {go : Obj} (hh : A.handled = none) (hd : A.depth < recursionLimit) (hgo : ∀ h : Heap, h.get? a = some go → h.IsGen a g)
    (hR : ∀ b H' s', Inv Xg [(a, go)] σ0 H' s' → Q (.bl b) H' → R (.ok (.ret (.bool b))) s') :
    ∀ (n : Nat) (s : Shared) (H : Hp), Inv Xg [(a, go)] σ0 H s →
      (∃ gs, s.gens[g]? = some gs ∧ gs.Goes (model Xg.prog Xg.w) A.in1.in1 (GRe Xg [(a, go)] σ0 Q false) (GPr Xg [(a, go)] σ0 Q false) n (.send .none) (s.setGen g .running)) →
      codeAny (model Xg.prog Xg.w) A (.builtin "any.loop" ⟨[.ref a], []⟩) R s := by
  intro n
  induction n with
  | zero =>
    intro s H I ⟨gs, hgs, go1⟩
    have pa : s.heap.get? a = some go := (I.pin (a, go) (List.mem_append_right _ (List.mem_singleton.mpr rfl))).1
    refine codeAny_builtin F.entry_any_loop ?_
    rw [Around.under_plainId F.plain_any_loop _]
    show wpAny _ A.in1 (pyNext (.ref a) >>= _) _ _ s
    refine wpAny_bind (wpAny_pyNext_genexpQ (A := A.in1) (P := fun n s₀ s₁ => ∃ H', Inv Xg [(a, go)] σ0 H' s₁ ∧ Q (.bl false) H') hh I.nolimit hd (hgo _ pa) hgs go1 (fun v s1 gs' hb hv => ?_) (fun s1 hp h' hk => ?_))
    · obtain ⟨c, H1, rfl, I1, q1⟩ := hv
      by_cases hc : c = false
      · rw [if_pos hc] at q1
        exact (q1 s1 ⟨rfl, I1.bare, rfl⟩).elim
      · rw [if_neg hc] at q1
        have hc' : c = true := by simpa using hc
        subst hc'
        refine wpAny_bind (wpAny_holding (wpAny_truthy_bool ?_))
        refine wpAny_bind (wpAny_letGo ?_)
        simp only [if_true]
        exact wpAny_bind (wpAny_rule (wpAny_pure (hR true H1 _ (Inv.slp I1 ⟨rfl, allBare_setGen I1.bare hb, rfl⟩) q1)))
    · obtain ⟨H1, I1, q1⟩ := hp
      refine wpAny_bind (wpAny_rule (wpAny_pure (hR false H1 _ ?_ q1)))
      exact I1.call' (ch := []) rfl (Un.kept hk) (I1.hok.kept hk) (allBare_setGen I1.bare rfl) (fun b hb => absurd hb (by simp))
  | succ m ih =>
    intro s H I ⟨gs, hgs, go1⟩
    have pa : s.heap.get? a = some go := (I.pin (a, go) (List.mem_append_right _ (List.mem_singleton.mpr rfl))).1
    have hgl : g < s.gens.size := (Array.getElem?_eq_some_iff.mp hgs).1
    refine codeAny_builtin F.entry_any_loop ?_
    rw [Around.under_plainId F.plain_any_loop _]
    show wpAny _ A.in1 (pyNext (.ref a) >>= _) _ _ s
    refine wpAny_bind (wpAny_gsz (n := g + 1) hgl (wpAny_pyNext_genexpQ (A := A.in1) (P := fun n s₀ s₁ => ∃ H', Inv Xg [(a, go)] σ0 H' s₁ ∧ Q (.bl false) H') hh I.nolimit hd (hgo _ pa) hgs go1 (fun v s1 gs' hb hv => ?_) (fun s1 hp h' hk => ?_)))
    · intro hsz
      obtain ⟨c, H1, rfl, I1, q1⟩ := hv
      have I2 := Inv.slp I1 (s' := s1.setGen g gs') ⟨rfl, allBare_setGen I1.bare hb, rfl⟩
      by_cases hc : c = false
      · rw [if_pos hc] at q1
        subst hc
        refine wpAny_bind (wpAny_holding (wpAny_truthy_bool ?_))
        refine wpAny_bind (wpAny_letGo ?_)
        simp only [Bool.false_eq_true, if_false]
        have hsz1 : g < s1.gens.size := by
          have q : (s1.setGen g gs').gens.size = s1.gens.size := setGen_size _ _ _
          have hsz' : g + 1 ≤ (s1.setGen g gs').gens.size := hsz
          omega
        refine wpAny_pure ⟨plainId_quiet F.plain_any_loop _, ih _ H1 I2 ⟨gs', setGen_at hsz1, ?_⟩⟩
        exact q1 _ ⟨rfl, allBare_setGen (s := s1.setGen g gs') (allBare_setGen I1.bare hb) rfl, rfl⟩
      · rw [if_neg hc] at q1
        have hc' : c = true := by simpa using hc
        subst hc'
        refine wpAny_bind (wpAny_holding (wpAny_truthy_bool ?_))
        refine wpAny_bind (wpAny_letGo ?_)
        simp only [if_true]
        exact wpAny_bind (wpAny_rule (wpAny_pure (hR true H1 _ I2 q1)))
    · intro _
      obtain ⟨H1, I1, q1⟩ := hp
      refine wpAny_bind (wpAny_rule (wpAny_pure (hR false H1 _ ?_ q1)))
      exact I1.call' (ch := []) rfl (Un.kept hk) (I1.hok.kept hk) (allBare_setGen I1.bare rfl) (fun b hb => absurd hb (by simp))
end
end Vf
end
section
set_option Elab.async false
set_option linter.all false
set_option maxRecDepth 100000
set_option maxHeartbeats 4000000
namespace Vf
open PySem PySem.Spec PyProof.Rows L2 GxR GenW
/-- H' is H but for the table at P, which has grown -/
def Tabb (P : Addr) (H H' : Hp) : Prop := ∃ ps more : Array Value, H P = some (.tbl ps) ∧ TriplesOk ps.toList ∧ TriplesOk (ps ++ more).toList ∧ H' = upd H P (.tbl (ps ++ more))
section
variable {X : Cx} {pins : List (Addr × Obj)} {σ : L2.St} {H : Hp} {s : Shared}
/-- a generator that has been made -/
structure GM (X : Cx) (pins : List (Addr × Obj)) (σ : L2.St) (own : List Nat) (elt iter : Expr) (ifs : List Expr) (x : Str) (px gpos : Pos) (scope : Scope) (J : It) (H4 : Hp) (a : Addr) (s5 : Shared) (s4 : Shared) (genv : Env) (fp : List Addr) (tn : Nat → Heap → Prop) (it : Addr) (go : Obj) (g : Nat) : Prop where
  outer : Inv X pins σ H4 s4
  inner : ∀ A : Around, A.handled = none → A.frames = some (genv :: X.stack) → Inv (gcx X A s4 H4 genv fp) [(a, go)] (wipe σ own) H4 s5
  turn : Turn X.prog X.w X.K (.Name x px) J fp it tn
  at0 : tn 0 s5.heap
  fpo : ∀ b ∈ fp, FpOk X pins H4 b
  gen : ∀ h : Heap, h.get? a = some go → h.IsGen a g
  fresh : s5.gens[g]? = some (.fresh (.compStart (.GeneratorExp elt [⟨.Name x px, iter, ifs, 0⟩] scope gpos) 0 (.ref it) .none genv))
  env : ∃ C code, genv = genEnv scope (cloFrom X.env.cells scope.names []) C code builtinsNs X.env
  nfp : a ∉ fp
theorem gen_mk {c P : Addr} {elt iter : Expr} {ifs : List Expr} {x : Str} {px gpos : Pos} {scope : Scope} {own : List Nat} {wi : TI} {k : Nat} {R : It → Hp → Prop}
    (hr : Room k X.A) (TB : TabB X.base X.mg c P) (hcode : X.env.code = .ref c) (ok : GOk X.N X.env.scope scope x own) (hi : PI X (.Name x px) iter wi)
    (hs : ∀ v, genFold iter X.env v = pure v) (I : Inv X pins σ H s) (h : wi σ H fun J H1 => TabG H1 P ∧ ∀ H2, Tabb P H1 H2 → R J H2) :
    wpAny (model X.prog X.w) X.A (eval (.GeneratorExp elt [⟨.Name x px, iter, ifs, 0⟩] scope gpos) X.env)
      (fun gv s5 => ∃ J H4 a s4 genv fp tn it go g, gv = .ref a ∧ R J H4 ∧ GM X pins σ own elt iter ifs x px gpos scope J H4 a s5 s4 genv fp tn it go g) X.xe s := by
  have hfree : ∀ y ∈ scope.names, y.2 = .free → ∃ c, X.env.cells.lookup y.1 = some c := fun y hy e => by
    rcases ok.free y hy e with k | k
    · exact I.ok.has _ (.inl k)
    · exact I.ok.has _ (.inr k)
  refine wpAny_GeneratorExp_make ok.co (closure_ok hfree) ok.cell ok.dot ok.kind (by have := hr.dp; omega) ?_ hs
  refine thn (hi.run pins s σ H _ I h) fun xv s1 hx => thn hx fun itv s2 h2 => ?_
  obtain ⟨it, fp, tn, J, H2, e, I2, T, st2, f2, ⟨ps, hP, ht⟩, hR⟩ := h2
  subst e
  refine ⟨I2.nolimit, ?_⟩
  have oP : s2.heap.get? P = some { cls := .none, data := .fields ps } := I2.hok P _ hP
  have nPfp : ∀ b ∈ fp, b ≠ P := fun b hb z => by
    have q := (f2 b hb).1
    rw [z, hP] at q
    cases q
  have cd : PySem.W.CodeHd s2.heap c P := TB.code.keeps I2.bk
  have fin : ∀ (code : Value) (h3 : Heap) (tk : Nat) (ps' : Array Value), Heap.ExtBut P s2.heap h3 → h3.get? P = some { cls := .none, data := .fields ps' } → (∃ more, ps' = ps ++ more) → TriplesOk ps'.toList →
      wpAny (model X.prog X.w) X.A (builtinsFor X.env.globals X.env.builtins) (fun bi s4 => ∀ h' : Heap, h'.Ns s4.heap.objs.size (fun y => if y = (".0" : Str) then some (.ref it) else none) →
        Heap.SameBut s4.heap.objs.size (s4.heap.push { cls := .type "frame", data := .dict #[] }) h' →
        ∃ J H4 a s4' genv fp tn it' go g, (Value.ref h'.objs.size) = .ref a ∧ R J H4 ∧ GM X pins σ own elt iter ifs x px gpos scope J H4 a { s4 with
            gens := s4.gens.push (.fresh (.compStart (.GeneratorExp elt [⟨.Name x px, iter, ifs, 0⟩] scope gpos) 0 (.ref it) .none (genEnv scope (cloFrom X.env.cells scope.names []) s4.heap.objs.size code bi X.env))), toks := s4.toks + 1 + 1 + 1,
            heap := h'.push { cls := .type "generator", data := .fields #[.int s4.gens.size 0, .str "<genexpr>" (s4.toks + 1), .str (X.env.qual ++ "<genexpr>") (s4.toks + 1 + 1)] } } s4' genv fp tn it' go g) X.xe { s2 with heap := h3, toks := tk } := by
    intro code h3 tk ps' hx hP3 ⟨more, em⟩ ht3
    obtain ⟨bm, ob, e1, e2, e3, e4, e5, e6, e7, e8⟩ := TB.bm
    have kp3 : ∀ b u, b ≠ P → s2.heap.get? b = some u → h3.get? b = some u := fun b u hb q => hx b u hb q
    refine wpAny_builtinsFor (m := X.mg) (by rw [I2.ok.glob]; exact (I2.mod.glob.keeps I2.bk).extBut hx TB.gP) e1 e2 (kp3 _ _ e4 (I2.bk _ _ e5)) e6 e7 e8 ?_
    have I3 : Inv X pins σ (upd H2 P (.tbl ps')) { s2 with heap := h3, toks := tk } := by
      subst em
      exact inv_tab (g' := s2.gens) (d' := s2.drawn) I2 hP kp3 hP3 I2.bare
    generalize hs3 : ({ s2 with heap := h3, toks := tk } : Shared) = s3 at I3
    have eh3 : s3.heap = h3 := by rw [← hs3]
    have st3 : tn 0 s3.heap := by
      rw [eh3]
      exact T.keep _ _ _ st2 fun b hb o e => kp3 b o (nPfp b hb) e
    have f3 : ∀ b ∈ fp, FpOk X pins (upd H2 P (.tbl ps')) b := fun b hb => ⟨by rw [upd_ne (nPfp b hb)]; exact (f2 b hb).1, (f2 b hb).2⟩
    have sz3 : ∀ b ∈ fp, b < s3.heap.objs.size := fun b hb => by
      obtain ⟨o, e, _⟩ := T.obj _ _ st3 b hb
      exact Heap.lt_size e
    intro h' hn' hs'
    have hsz : h'.objs.size = s3.heap.objs.size + 1 := by rw [hs'.1, Heap.size_push]
    have k' : ∀ b o, s3.heap.get? b = some o → h'.get? b = some o := fun b o e => hs'.extBut b o (Nat.ne_of_lt (Heap.lt_size e)) (Heap.get?_push_of_some _ e)
    have gp : ∀ h : Heap, (h.push ({ cls := .type "generator", data := .fields #[.int s3.gens.size 0, .str "<genexpr>" (s3.toks + 1), .str (X.env.qual ++ "<genexpr>") (s3.toks + 1 + 1)] } : Obj)).get? h.objs.size = some ({ cls := .type "generator", data := .fields #[.int s3.gens.size 0, .str "<genexpr>" (s3.toks + 1), .str (X.env.qual ++ "<genexpr>") (s3.toks + 1 + 1)] } : Obj) := fun h => Heap.get?_push_size _ rfl
    have gfd : ∃ nm qn, ({ cls := .type "generator", data := .fields #[.int s3.gens.size 0, .str "<genexpr>" (s3.toks + 1), .str (X.env.qual ++ "<genexpr>") (s3.toks + 1 + 1)] } : Obj).cls = .type "generator" ∧ ({ cls := .type "generator", data := .fields #[.int s3.gens.size 0, .str "<genexpr>" (s3.toks + 1), .str (X.env.qual ++ "<genexpr>") (s3.toks + 1 + 1)] } : Obj).data = .fields #[.int s3.gens.size 0, nm, qn] ∧ ({ cls := .type "generator", data := .fields #[.int s3.gens.size 0, .str "<genexpr>" (s3.toks + 1), .str (X.env.qual ++ "<genexpr>") (s3.toks + 1 + 1)] } : Obj).slots = #[] := ⟨_, _, rfl, rfl, rfl⟩
    generalize ({ cls := .type "generator", data := .fields #[.int s3.gens.size 0, .str "<genexpr>" (s3.toks + 1), .str (X.env.qual ++ "<genexpr>") (s3.toks + 1 + 1)] } : Obj) = go at gp gfd ⊢
    obtain ⟨nm, qn, g1, g2, g3⟩ := gfd
    have ga : (h'.push go).get? h'.objs.size = some go := gp h'
    have k5 : ∀ b o, s3.heap.get? b = some o → (h'.push go).get? b = some o := fun b o e => Heap.get?_push_of_some _ (k' b o e)
    have bare5 : AllBare (s3.gens.push (.fresh (.compStart (.GeneratorExp elt [⟨.Name x px, iter, ifs, 0⟩] scope gpos) 0 (.ref it) .none (genEnv scope (cloFrom X.env.cells scope.names []) s3.heap.objs.size code builtinsNs X.env)))) := I3.bare.push rfl
    refine ⟨J, upd H2 P (.tbl ps'), h'.objs.size, s3, genEnv scope (cloFrom X.env.cells scope.names []) s3.heap.objs.size code builtinsNs X.env, fp, tn, it, go, s3.gens.size, rfl, hR _ (by subst em; exact ⟨ps, more, hP, ht, ht3, rfl⟩), I3, ?_, T, ?_, f3, ?_, ?_, ⟨s3.heap.objs.size, code, rfl⟩, ?_⟩
    · intro A hA hAf
      exact gen_start (h' := h') hA hAf I3 ok (fun b hb => ⟨f3 b hb, sz3 b hb⟩) k5 (hn'.push _) bare5 (by rw [hsz]; exact Nat.lt_succ_self _) ga (fun v q => by rw [g2] at q; cases q)
    · exact T.keep _ _ _ st3 fun b _ o e => k5 b o e
    · intro h e
      exact ⟨go, nm, qn, e, g1, g2, g3⟩
    · exact Array.getElem?_push_size ..
    · intro z
      have q : h'.objs.size < s3.heap.objs.size := sz3 h'.objs.size z
      rw [hsz] at q
      exact absurd q (Nat.not_lt.mpr (Nat.le_succ _))
  cases hf : codeAmong gpos ps.toList with
  | none =>
    refine wpAny_genexprCodeX hcode (cd.code oP ht) (cd.tab oP) hf fun c' h' tk hx hge hlt hco' _ htab' _ => ?_
    obtain ⟨o1, vs, f1, tf, fl, tg, inF, tx, tt, op, _, _, _, _, _, _, _, _, _, htr, _⟩ := hco'
    exact fin _ h' tk _ hx htab'.2 ⟨_, rfl⟩ htr
  | some cv =>
    refine wpAny_genexprCode_hit hcode (cd.code oP ht) hf ?_
    exact fin cv s2.heap s2.toks ps (Heap.ExtBut.refl _ _) oP ⟨#[], by simp⟩ ht

/-- any (cont false), all (cont true) of (elt for x in iter if ..) -/
def tGen (cont : Bool) (P : Addr) (wi : TI) (j : Nat) (own : List Nat) (tt : TT) (te : TE) : TE := fun σ H Q =>
  wi σ H fun J H1 => TabG H1 P ∧ ∀ H2, Tabb P H1 H2 → ∃ W : Nat → Nat → Hp → Prop, (∃ m, W 0 m H2) ∧ Turns cont j (wipe σ own) tt te J Q W
theorem wipe_own {σ : L2.St} {own : List Nat} {j : Nat} (hj : j ∈ own) : ∀ v, (wipe σ own)[j]? ≠ some (some v) := fun v e => (wipe_some e).2 hj
section
variable {c P : Addr} {elt iter : Expr} {ifs : List Expr} {x : Str} {px p pos gpos : Pos} {scope : Scope} {own : List Nat} {wi : TI} {tt : TT} {te : TE} {k j : Nat}
theorem gen_room {A : Around} {genv : Env} (hr : Room (k + 1) A) : Room k (A.in1.in1.deeper genv) :=
  ⟨hr.hd, by have := hr.dp; show A.depth + 1 + 3 * k + 5 < _; omega, by have := hr.un; show A.units + 1 + 1 + 3 + 16 * k + 200 < _; omega⟩
theorem pe_allL (hr : Room (k + 1) X.A) (hg : Gl X "all") (hm : X.mg "all" = none) (hb : bootBuiltins "all" = some (.builtin "all")) (TB : TabB X.base X.mg c P) (hcode : X.env.code = .ref c) (ok : GOk X.N X.env.scope scope x own) (hN : X.N.Nodup) (hj : X.N[j]? = some x) (hjo : j ∈ own) (hi : PI X (.Name x px) iter wi)
    (ht : ∀ (A : Around) (s : Shared) (H : Hp) (C : Addr) (code : Value) (fp : List Addr), Room k A → PTs (gcx X A s H (genEnv scope (cloFrom X.env.cells scope.names []) C code builtinsNs X.env) fp) ifs tt)
    (hel : ∀ (A : Around) (s : Shared) (H : Hp) (C : Addr) (code : Value) (fp : List Addr), Room k A → PE (gcx X A s H (genEnv scope (cloFrom X.env.cells scope.names []) C code builtinsNs X.env) fp) elt te)
    (hs : ∀ v, genFold iter X.env v = pure v := by intro _; rfl)
    (he : starEach [.GeneratorExp elt [⟨.Name x px, iter, ifs, 0⟩] scope gpos] X.env = (false, eval (.GeneratorExp elt [⟨.Name x px, iter, ifs, 0⟩] scope gpos) X.env) :: starEach [] X.env := by rfl) :
    PE X (.Call (.Name "all" p) [.GeneratorExp elt [⟨.Name x px, iter, ifs, 0⟩] scope gpos] [] pos) (tGen true P wi j own tt te) := by
  refine ⟨fun pins s σ H Q I h => ?_⟩
  refine wpAny_Call_Name_kw (ld_blt I hg hm hb ?_)
  refine PyProof.Rows.callWith_builtin1 ?_ he (by rfl)
  rw [he]
  show wpAny _ _ (spliced ((false, eval (.GeneratorExp elt [⟨.Name x px, iter, ifs, 0⟩] scope gpos) X.env) :: backTo pos (starEach [] X.env))) _ _ s
  refine Calls.spliced_cons (thn (gen_mk (R := fun J H2 => ∃ W : Nat → Nat → Hp → Prop, (∃ m, W 0 m H2) ∧ Turns true j (wipe σ own) tt te J Q W) hr TB hcode ok hi hs I h) fun gv s5 ⟨J, H4, a, s4, genv, fp, tn, it, go, g, e, ⟨W, ⟨m, w0⟩, tu⟩, G⟩ => ?_)
  subst e
  refine Calls.spliced_nil ?_
  obtain ⟨C, code, eg⟩ := G.env
  have hAh : (X.A.in1.in1.deeper genv).handled = none := hr.hd
  have hAf : (X.A.in1.in1.deeper genv).frames = some (genv :: X.stack) := Around.frames_deeper (A := X.A.in1.in1) I.ok.frames
  have Ig := G.inner _ hAh hAf
  have room : Room k (X.A.in1.in1.deeper genv) := gen_room hr
  have pgx : PG (gcx X (X.A.in1.in1.deeper genv) s4 H4 genv fp) (.Name x px) (gName j) := pg_name (X := gcx X (X.A.in1.in1.deeper genv) s4 H4 genv fp) hN hj (.inl (by subst eg; exact ok.loc)) (.inr (by subst eg; exact ok.loc))
  have pa : s5.heap.get? a = some go := (Ig.pin (a, go) (List.mem_append_right _ (List.mem_singleton.mpr rfl))).1
  refine call_function_tree F.kind_all F.plain_all F.entry_all (F.args_all1 _) ?_
  unfold Builtin.«all»
  refine wpAny_bind (m := oneArg "all" _) (wpAny_pure ?_)
  refine wpAny_bind (wpAny_pyIter_gen (G.gen _ pa) ?_)
  refine wpAny_pure ⟨plainId_quiet F.plain_all_loop _, ?_⟩
  refine all_loop (Xg := gcx X (X.A.in1.in1.deeper genv) s4 H4 genv fp) (A := X.A) (σ0 := wipe σ own) (Q := Q) hr.hd (by have := hr.dp; omega) G.gen (fun b H' s' Ig' q => ?_) (m + 1) s5 H4 Ig ⟨_, G.fresh, rfl, ?_⟩
  · exact ⟨.bl b, H', G.outer.call' (ch := fp) Ig'.os Ig'.base Ig'.hok Ig'.bare fun b hb => ⟨(G.fpo b hb).2.2.2.1, (G.fpo b hb).2.1, (G.fpo b hb).2.2.2.2.1, (G.fpo b hb).2.2.2.2.2⟩, rfl, q⟩
  · have Ig2 := Inv.slp Ig (s' := s5.setGen g .running) ⟨rfl, allBare_setGen Ig.bare rfl, rfl⟩
    refine seg_gst (Xg := gcx X (X.A.in1.in1.deeper genv) s4 H4 genv fp) (A := X.A.in1.in1) rfl G.turn G.at0 ?_
    refine seg_gl (Xg := gcx X (X.A.in1.in1.deeper genv) s4 H4 genv fp) (A := X.A.in1.in1) rfl rfl G.turn rfl rfl (fun p hp => by rw [List.mem_singleton.mp hp]; exact G.nfp) pgx (by subst eg; exact ht _ s4 H4 C code fp room) (by subst eg; exact hel _ s4 H4 C code fp room) (wipe_own hjo) (by subst eg; exact ok.co) rfl tu m (m + 1) 0 _ _ H4 (Nat.lt_succ_self _) Ig2 G.at0 (fun b hb => (G.fpo b hb).1) w0
theorem pe_anyL (hr : Room (k + 1) X.A) (hg : Gl X "any") (hm : X.mg "any" = none) (TB : TabB X.base X.mg c P) (hcode : X.env.code = .ref c) (ok : GOk X.N X.env.scope scope x own) (hN : X.N.Nodup) (hj : X.N[j]? = some x) (hjo : j ∈ own) (hi : PI X (.Name x px) iter wi)
    (ht : ∀ (A : Around) (s : Shared) (H : Hp) (C : Addr) (code : Value) (fp : List Addr), Room k A → PTs (gcx X A s H (genEnv scope (cloFrom X.env.cells scope.names []) C code builtinsNs X.env) fp) ifs tt)
    (hel : ∀ (A : Around) (s : Shared) (H : Hp) (C : Addr) (code : Value) (fp : List Addr), Room k A → PE (gcx X A s H (genEnv scope (cloFrom X.env.cells scope.names []) C code builtinsNs X.env) fp) elt te)
    (hs : ∀ v, genFold iter X.env v = pure v := by intro _; rfl)
    (he : starEach [.GeneratorExp elt [⟨.Name x px, iter, ifs, 0⟩] scope gpos] X.env = (false, eval (.GeneratorExp elt [⟨.Name x px, iter, ifs, 0⟩] scope gpos) X.env) :: starEach [] X.env := by rfl) :
    PE X (.Call (.Name "any" p) [.GeneratorExp elt [⟨.Name x px, iter, ifs, 0⟩] scope gpos] [] pos) (tGen false P wi j own tt te) := by
  refine ⟨fun pins s σ H Q I h => ?_⟩
  refine wpAny_Call_Name_kw (ld_blt I hg hm boot_any ?_)
  refine PyProof.Rows.callWith_builtin1 ?_ he (by rfl)
  rw [he]
  show wpAny _ _ (spliced ((false, eval (.GeneratorExp elt [⟨.Name x px, iter, ifs, 0⟩] scope gpos) X.env) :: backTo pos (starEach [] X.env))) _ _ s
  refine Calls.spliced_cons (thn (gen_mk (R := fun J H2 => ∃ W : Nat → Nat → Hp → Prop, (∃ m, W 0 m H2) ∧ Turns false j (wipe σ own) tt te J Q W) hr TB hcode ok hi hs I h) fun gv s5 ⟨J, H4, a, s4, genv, fp, tn, it, go, g, e, ⟨W, ⟨m, w0⟩, tu⟩, G⟩ => ?_)
  subst e
  refine Calls.spliced_nil ?_
  obtain ⟨C, code, eg⟩ := G.env
  have hAh : (X.A.in1.in1.deeper genv).handled = none := hr.hd
  have hAf : (X.A.in1.in1.deeper genv).frames = some (genv :: X.stack) := Around.frames_deeper (A := X.A.in1.in1) I.ok.frames
  have Ig := G.inner _ hAh hAf
  have room : Room k (X.A.in1.in1.deeper genv) := gen_room hr
  have pgx : PG (gcx X (X.A.in1.in1.deeper genv) s4 H4 genv fp) (.Name x px) (gName j) := pg_name (X := gcx X (X.A.in1.in1.deeper genv) s4 H4 genv fp) hN hj (.inl (by subst eg; exact ok.loc)) (.inr (by subst eg; exact ok.loc))
  have pa : s5.heap.get? a = some go := (Ig.pin (a, go) (List.mem_append_right _ (List.mem_singleton.mpr rfl))).1
  refine call_function_tree F.kind_any F.plain_any F.entry_any (F.args_any1 _) ?_
  unfold Builtin.«any»
  refine wpAny_bind (m := oneArg "any" _) (wpAny_pure ?_)
  refine wpAny_bind (wpAny_pyIter_gen (G.gen _ pa) ?_)
  refine wpAny_pure ⟨plainId_quiet F.plain_any_loop _, ?_⟩
  refine any_loop (Xg := gcx X (X.A.in1.in1.deeper genv) s4 H4 genv fp) (A := X.A) (σ0 := wipe σ own) (Q := Q) hr.hd (by have := hr.dp; omega) G.gen (fun b H' s' Ig' q => ?_) (m + 1) s5 H4 Ig ⟨_, G.fresh, rfl, ?_⟩
  · exact ⟨.bl b, H', G.outer.call' (ch := fp) Ig'.os Ig'.base Ig'.hok Ig'.bare fun b hb => ⟨(G.fpo b hb).2.2.2.1, (G.fpo b hb).2.1, (G.fpo b hb).2.2.2.2.1, (G.fpo b hb).2.2.2.2.2⟩, rfl, q⟩
  · have Ig2 := Inv.slp Ig (s' := s5.setGen g .running) ⟨rfl, allBare_setGen Ig.bare rfl, rfl⟩
    refine seg_gst (Xg := gcx X (X.A.in1.in1.deeper genv) s4 H4 genv fp) (A := X.A.in1.in1) rfl G.turn G.at0 ?_
    refine seg_gl (Xg := gcx X (X.A.in1.in1.deeper genv) s4 H4 genv fp) (A := X.A.in1.in1) rfl rfl G.turn rfl rfl (fun p hp => by rw [List.mem_singleton.mp hp]; exact G.nfp) pgx (by subst eg; exact ht _ s4 H4 C code fp room) (by subst eg; exact hel _ s4 H4 C code fp room) (wipe_own hjo) (by subst eg; exact ok.co) rfl tu m (m + 1) 0 _ _ H4 (Nat.lt_succ_self _) Ig2 G.at0 (fun b hb => (G.fpo b hb).1) w0
end
end
end Vf
end
section
set_option Elab.async false
set_option linter.all false
set_option maxRecDepth 100000
set_option maxHeartbeats 4000000
/-! Operators that take what kind they meet; defs by their names; heaps that have only grown. -/
namespace Vf
open PySem PySem.Spec PyProof.Rows L2 GxR GenW

/-! ### one rule an operator -/
section
variable {X : Cx}
structure rAdd (K : PySem.W.Frag) (x y : V) (H : Hp) (Q : VK) : Prop where
  h : (∃ i j, x = .int i ∧ y = .int j ∧ Q (.int (i + j)) H) ∨ (∃ i j, x = .str i ∧ y = .str j ∧ i.length + j.length ≤ sizeLine ∧ Q (.str (i ++ j)) H) ∨ rCat x y H Q ∨ rCatA K x y H Q
theorem u_add {K : PySem.W.Frag} (hK : X.K = K) : OpR X (binaryOp .Add) (rAdd K) := by
  subst hK
  exact fun pins s σ H x y v u Q I rx ry h => (OpR.or op_add (OpR.or op_add_str (OpR.or op_cat op_catA))) pins s σ H x y v u Q I rx ry h.h
structure rMd (x y : V) (H : Hp) (Q : VK) : Prop where
  h : ∃ i j, x = .int i ∧ y = .int j ∧ j ≠ 0 ∧ Q (.int (i.fmod j)) H
theorem u_mod : OpR X (binaryOp .Mod) rMd := fun pins s σ H x y v u Q I rx ry h => op_modN pins s σ H x y v u Q I rx ry h.h
structure rPw (x y : V) (H : Hp) (Q : VK) : Prop where
  h : ∃ i j, x = .int i ∧ y = .int j ∧ CPow i j ∧ Q (.int (i ^ j.toNat)) H
theorem u_pow : OpR X (binaryOp .Pow) rPw := fun pins s σ H x y v u Q I rx ry h => op_pow pins s σ H x y v u Q I rx ry h.h
structure rGe (x y : V) (H : Hp) (Q : VK) : Prop where
  h : ∃ i j, x = .int i ∧ y = .int j ∧ Q (.bl (decide (j ≤ i))) H
theorem u_ge : OpR X (compareOp .GtE) rGe := fun pins s σ H x y v u Q I rx ry h => op_ge pins s σ H x y v u Q I rx ry h.h
structure rGt (x y : V) (H : Hp) (Q : VK) : Prop where
  h : ∃ i j, x = .int i ∧ y = .int j ∧ Q (.bl (decide (j < i))) H
theorem u_gt : OpR X (compareOp .Gt) rGt := fun pins s σ H x y v u Q I rx ry h => op_gt pins s σ H x y v u Q I rx ry h.h
structure rSb (x y : V) (H : Hp) (Q : VK) : Prop where
  h : ∃ i j, x = .int i ∧ y = .int j ∧ Q (.int (i - j)) H
theorem u_sub : OpR X (binaryOp .Sub) rSb := fun pins s σ H x y v u Q I rx ry h => op_sub pins s σ H x y v u Q I rx ry h.h
structure rFd (x y : V) (H : Hp) (Q : VK) : Prop where
  h : (∃ i j, x = .int i ∧ y = .int j ∧ CDivN i j ∧ Q (.int (i.fdiv j)) H) ∨ (∃ i j, x = .int i ∧ y = .int j ∧ CDivW i j ∧ Q (.int (i / j)) H)
theorem u_fdiv : OpR X (binaryOp .FloorDiv) rFd := fun pins s σ H x y v u Q I rx ry h => (OpR.or op_fdivN op_fdivW) pins s σ H x y v u Q I rx ry h.h
structure rMu (K : PySem.W.Frag) (x y : V) (H : Hp) (Q : VK) : Prop where
  h : (∃ i j, x = .int i ∧ y = .int j ∧ CMul i j ∧ Q (.int (i * j)) H) ∨ (∃ i j, x = .int i ∧ y = .int j ∧ CMulW i j ∧ Q (.int (i * j)) H) ∨ rRep x y H Q ∨ rRepT K x y H Q
theorem u_mul {K : PySem.W.Frag} (hK : X.K = K) : OpR X (binaryOp .Mult) (rMu K) := by
  subst hK
  exact fun pins s σ H x y v u Q I rx ry h => (OpR.or op_mul (OpR.or op_mulW (OpR.or op_rep op_repT))) pins s σ H x y v u Q I rx ry h.h
structure rEqU (K : PySem.W.Frag) (x y : V) (H : Hp) (Q : VK) : Prop where
  h : rEq x y H Q ∨ rEqD K x y H Q
theorem u_eq {K : PySem.W.Frag} (hK : X.K = K) (hu : X.A.units + 64 < cLine) : OpR X (compareOp .Eq) (rEqU K) := by
  subst hK
  exact fun pins s σ H x y v u Q I rx ry h => (OpR.or op_eq (op_eqD hu)) pins s σ H x y v u Q I rx ry h.h
structure rNeU (K : PySem.W.Frag) (x y : V) (H : Hp) (Q : VK) : Prop where
  h : rNe x y H Q ∨ rNeD K x y H Q
theorem u_ne {K : PySem.W.Frag} (hK : X.K = K) (hu : X.A.units + 64 < cLine) : OpR X (compareOp .NotEq) (rNeU K) := by
  subst hK
  exact fun pins s σ H x y v u Q I rx ry h => (OpR.or op_ne (op_neD hu)) pins s σ H x y v u Q I rx ry h.h
structure rLtU (x y : V) (H : Hp) (Q : VK) : Prop where
  h : (∃ i j, x = .int i ∧ y = .int j ∧ Q (.bl (decide (i < j))) H) ∨ (∃ i j, x = .str i ∧ y = .str j ∧ Q (.bl (decide (i.cps.toList < j.cps.toList))) H)
theorem u_lt : OpR X (compareOp .Lt) rLtU := fun pins s σ H x y v u Q I rx ry h => (OpR.or op_lt op_lt_str) pins s σ H x y v u Q I rx ry h.h
structure rLeU (x y : V) (H : Hp) (Q : VK) : Prop where
  h : (∃ i j, x = .int i ∧ y = .int j ∧ Q (.bl (decide (i ≤ j))) H) ∨ (∃ i j, x = .str i ∧ y = .str j ∧ Q (.bl (!decide (j.cps.toList < i.cps.toList))) H)
theorem u_le : OpR X (compareOp .LtE) rLeU := fun pins s σ H x y v u Q I rx ry h => (OpR.or op_le op_le_str) pins s σ H x y v u Q I rx ry h.h
structure rInU (K : PySem.W.Frag) (x y : V) (H : Hp) (Q : VK) : Prop where
  h : (∃ i j, x = .str i ∧ y = .str j ∧ Q (.bl (!(Builtin.Str.occurrences j i 0 j.length 1).isEmpty)) H) ∨ (∃ (c : Nat) (z : Str), x = .str ⟨#[c]⟩ ∧ y = .str z ∧ Q (.bl (decide (c ∈ z.cps.toList))) H) ∨ rIn K false x y H Q
theorem u_in {K : PySem.W.Frag} (hK : X.K = K) : OpR X (compareOp .In) (rInU K) := by
  subst hK
  exact fun pins s σ H x y v u Q I rx ry h => (OpR.or op_in_str (OpR.or op_in_sign op_in_seq)) pins s σ H x y v u Q I rx ry h.h
structure rNiU (K : PySem.W.Frag) (x y : V) (H : Hp) (Q : VK) : Prop where
  h : (∃ i j, x = .str i ∧ y = .str j ∧ Q (.bl (!(!(Builtin.Str.occurrences j i 0 j.length 1).isEmpty))) H) ∨ (∃ (c : Nat) (z : Str), x = .str ⟨#[c]⟩ ∧ y = .str z ∧ Q (.bl (!decide (c ∈ z.cps.toList))) H) ∨ rIn K true x y H Q
theorem u_ni {K : PySem.W.Frag} (hK : X.K = K) : OpR X (compareOp .NotIn) (rNiU K) := by
  subst hK
  exact fun pins s σ H x y v u Q I rx ry h => (OpR.or op_notin_str (OpR.or op_notIn_sign op_notIn_seq)) pins s σ H x y v u Q I rx ry h.h
structure rSlU (K : PySem.W.Frag) (x : V) (lo hi : Option Int) (H : Hp) (Q : VK) : Prop where
  h : rSlL K x lo hi H Q ∨ rSlA K x lo hi H Q ∨ rSlS x lo hi H Q
theorem u_sl {K : PySem.W.Frag} (hK : X.K = K) : SlR X (rSlU K) := by
  subst hK
  exact fun pins s σ H x v vl vu lo hi sl Q I rx hs pl pu h => (SlR.or sl_list (SlR.or sl_tupA sl_str)) pins s σ H x v vl vu lo hi sl Q I rx hs pl pu h.h
structure rIxU (K : PySem.W.Frag) (x y : V) (H : Hp) (Q : VK) : Prop where
  h : rIx K x y H Q
theorem u_ix {K : PySem.W.Frag} (hK : X.K = K) : IxR X (rIxU K) := by
  subst hK
  exact fun a b pins s σ H x y v u Q I rx ry h hs => ix_seq a b pins s σ H x y v u Q I rx ry h.h hs
end

/-! ### their answers -/
section
variable {K : PySem.W.Frag} {H : Hp} {Q : VK}
theorem a_ii {i j : Int} (q : Q (.int (i + j)) H) : rAdd K (.int i) (.int j) H Q := ⟨.inl ⟨_, _, rfl, rfl, q⟩⟩
theorem a_ss {i j : Str} (h : i.length + j.length ≤ sizeLine) (q : Q (.str (i ++ j)) H) : rAdd K (.str i) (.str j) H Q := ⟨.inr (.inl ⟨_, _, rfl, rfl, h, q⟩)⟩
theorem a_ll {l b : Addr} {xs zs : List V} (h1 : H l = some (.lst xs)) (h2 : H b = some (.lst zs)) (h : xs.length + zs.length ≤ sizeLine) (q : ∀ p, H p = none → Q (.ref p) (upd H p (.lst (xs ++ zs)))) : rAdd K (.ref l) (.ref b) H Q := ⟨.inr (.inr (.inl ⟨_, _, _, _, rfl, rfl, h1, h2, h, q⟩))⟩
theorem a_tt {a b : Addr} {xs ys : List V} (h1 : SqT K H a xs) (h2 : SqT K H b ys) (h : xs.length + ys.length ≤ sizeLine) (q1 : xs = [] → Q (.ref b) H) (q2 : xs ≠ [] → ys = [] → Q (.ref a) H) (q3 : xs ≠ [] → ys ≠ [] → ∀ p, H p = none → Q (.ref p) (upd H p (.tup (xs ++ ys)))) : rAdd K (.ref a) (.ref b) H Q := ⟨.inr (.inr (.inr ⟨_, _, _, _, rfl, rfl, h1, h2, h, q1, q2, q3⟩))⟩
theorem m_ii {i j : Int} (h : CMul i j) (q : Q (.int (i * j)) H) : rMu K (.int i) (.int j) H Q := ⟨.inl ⟨_, _, rfl, rfl, h, q⟩⟩
theorem m_tt {l : Addr} {k : Int} {xs : List V} (h1 : SqT K H l xs) (h2 : xs ≠ []) (h3 : 2 ≤ k) (h4 : k ≤ 1000) (h5 : xs.length ≤ 1000) (q : ∀ p, H p = none → Q (.ref p) (upd H p (.tup (List.replicate k.toNat xs).flatten))) : rMu K (.ref l) (.int k) H Q := ⟨.inr (.inr (.inr ⟨_, _, _, rfl, rfl, h1, h2, h3, h4, h5, q⟩))⟩
theorem md_ii {i j : Int} (h : j ≠ 0) (q : Q (.int (i.fmod j)) H) : rMd (.int i) (.int j) H Q := ⟨_, _, rfl, rfl, h, q⟩
theorem pw_ii {i j : Int} (h : CPow i j) (q : Q (.int (i ^ j.toNat)) H) : rPw (.int i) (.int j) H Q := ⟨_, _, rfl, rfl, h, q⟩
theorem ge_ii {i j : Int} (q : Q (.bl (decide (j ≤ i))) H) : rGe (.int i) (.int j) H Q := ⟨_, _, rfl, rfl, q⟩
theorem gt_ii {i j : Int} (q : Q (.bl (decide (j < i))) H) : rGt (.int i) (.int j) H Q := ⟨_, _, rfl, rfl, q⟩
theorem sb_ii {i j : Int} (q : Q (.int (i - j)) H) : rSb (.int i) (.int j) H Q := ⟨_, _, rfl, rfl, q⟩
theorem f_ii {i j : Int} (h : CDivN i j) (q : Q (.int (i.fdiv j)) H) : rFd (.int i) (.int j) H Q := ⟨.inl ⟨_, _, rfl, rfl, h, q⟩⟩
theorem e_flat {x y : V} (h : scal x y = true) (q : Q (.bl (decide (x = y))) H) : rEqU K x y H Q := ⟨.inl ⟨h, q⟩⟩
theorem e_data {x y : V} {d e : PyData} (h1 : Dp K H x d) (h2 : Dp K H y e) (h3 : SeqAt.shaped d = true) (h4 : SeqAt.shaped e = true) (q : Q (.bl (PyData.eqv d e)) H) : rEqU K x y H Q := ⟨.inr ⟨_, _, h1, h2, h3, h4, q⟩⟩
theorem n_flat {x y : V} (h : scal x y = true) (q : Q (.bl (!decide (x = y))) H) : rNeU K x y H Q := ⟨.inl ⟨h, q⟩⟩
theorem n_data {x y : V} {d e : PyData} (h1 : Dp K H x d) (h2 : Dp K H y e) (h3 : SeqAt.shaped d = true) (h4 : SeqAt.shaped e = true) (q : Q (.bl (!PyData.eqv d e)) H) : rNeU K x y H Q := ⟨.inr ⟨_, _, h1, h2, h3, h4, q⟩⟩
theorem l_ii {i j : Int} (q : Q (.bl (decide (i < j))) H) : rLtU (.int i) (.int j) H Q := ⟨.inl ⟨_, _, rfl, rfl, q⟩⟩
theorem l_ss {i j : Str} (q : Q (.bl (decide (i.cps.toList < j.cps.toList))) H) : rLtU (.str i) (.str j) H Q := ⟨.inr ⟨_, _, rfl, rfl, q⟩⟩
theorem le_ii {i j : Int} (q : Q (.bl (decide (i ≤ j))) H) : rLeU (.int i) (.int j) H Q := ⟨.inl ⟨_, _, rfl, rfl, q⟩⟩
theorem le_ss {i j : Str} (q : Q (.bl (!decide (j.cps.toList < i.cps.toList))) H) : rLeU (.str i) (.str j) H Q := ⟨.inr ⟨_, _, rfl, rfl, q⟩⟩
theorem in_sign {c : Nat} {z : Str} (q : Q (.bl (decide (c ∈ z.cps.toList))) H) : rInU K (.str ⟨#[c]⟩) (.str z) H Q := ⟨.inr (.inl ⟨_, _, rfl, rfl, q⟩)⟩
theorem ni_sign {c : Nat} {z : Str} (q : Q (.bl (!decide (c ∈ z.cps.toList))) H) : rNiU K (.str ⟨#[c]⟩) (.str z) H Q := ⟨.inr (.inl ⟨_, _, rfl, rfl, q⟩)⟩
theorem in_ss {i j : Str} (q : Q (.bl (!(Builtin.Str.occurrences j i 0 j.length 1).isEmpty)) H) : rInU K (.str i) (.str j) H Q := ⟨.inl ⟨_, _, rfl, rfl, q⟩⟩
theorem ni_ss {i j : Str} (q : Q (.bl (!(!(Builtin.Str.occurrences j i 0 j.length 1).isEmpty))) H) : rNiU K (.str i) (.str j) H Q := ⟨.inl ⟨_, _, rfl, rfl, q⟩⟩
theorem in_seq {x : V} {p : Addr} {xs : List V} (h : SqL K H p xs ∨ SqT K H p xs) (h1 : flatV x = true) (h2 : xs.all flatV = true) (q : Q (.bl (inV x xs)) H) : rInU K x (.ref p) H Q := ⟨.inr (.inr ⟨_, _, rfl, h, h1, h2, q⟩)⟩
theorem ni_seq {x : V} {p : Addr} {xs : List V} (h : SqL K H p xs ∨ SqT K H p xs) (h1 : flatV x = true) (h2 : xs.all flatV = true) (q : Q (.bl (!inV x xs)) H) : rNiU K x (.ref p) H Q := ⟨.inr (.inr ⟨_, _, rfl, h, h1, h2, q⟩)⟩
theorem x_l {p : Addr} {xs : List V} {i : Int} {v : V} (h : SqL K H p xs) (e : atI xs i = some v) (q : Q v H) : rIxU K (.ref p) (.int i) H Q := ⟨.inl ⟨_, _, _, _, rfl, rfl, h, e, q⟩⟩
theorem x_t {p : Addr} {xs : List V} {i : Int} {v : V} (h : SqT K H p xs) (e : atI xs i = some v) (q : Q v H) : rIxU K (.ref p) (.int i) H Q := ⟨.inr (.inl ⟨_, _, _, _, rfl, rfl, h, e, q⟩)⟩
theorem x_s {z : Str} {i : Int} {c : Nat} (h : z.length ≤ sizeLine) (e : atI z.cps.toList i = some c) (q : Q (.str ⟨#[c]⟩) H) : rIxU K (.str z) (.int i) H Q := ⟨.inr (.inr ⟨_, _, _, rfl, rfl, h, e, q⟩)⟩
theorem sl_l {a : Addr} {xs : List V} {lo hi : Option Int} (h : SqL K H a xs) (q : ∀ p, H p = none → Q (.ref p) (upd H p (.lst (cutV xs lo hi)))) : rSlU K (.ref a) lo hi H Q := ⟨.inl ⟨_, _, rfl, h, q⟩⟩
theorem sl_t {a : Addr} {xs : List V} {lo hi : Option Int} (h : SqT K H a xs) (q1 : HT.sIx xs.length 0 lo = 0 ∧ HT.sIx xs.length xs.length hi = xs.length → Q (.ref a) H)
    (q2 : ¬ (HT.sIx xs.length 0 lo = 0 ∧ HT.sIx xs.length xs.length hi = xs.length) → ∀ p, H p = none → Q (.ref p) (upd H p (.tup (cutV xs lo hi)))) : rSlU K (.ref a) lo hi H Q := ⟨.inr (.inl ⟨_, _, rfl, h, q1, q2⟩)⟩
end

/-! ### rules with K told apart -/
section
variable {X : Cx} {K : PySem.W.Frag} {tg : Expr}
theorem k_len (hK : X.K = K) : CallR X (.builtin "len") (fun xs H Q => ∃ x n, xs = [x] ∧ LenV K x H n ∧ Q (.int n) H) := by
  subst hK
  exact call_len
theorem k_list {l : Expr} {tl : TE} (hK : X.K = K) (hl : PE X l tl) : PI X tg l (iList K tl) := by
  subst hK
  exact pi_list hl
theorem k_tup {l : Expr} {tl : TE} (hK : X.K = K) (hl : PE X l tl) : PI X tg l (iTup K tl) := by
  subst hK
  exact pi_tup hl
structure rTupU (K : PySem.W.Frag) (x : V) (H : Hp) (Q : VK) : Prop where
  h : kTup K x H Q
theorem k_tuple {a : Expr} {ta : TE} {p pos : Pos} (hK : X.K = K) (hg : Gl X "tuple") (hm : X.mg "tuple" = none) (ha : PE X a ta) (na : starEach [a] X.env = (false, eval a X.env) :: starEach [] X.env := by rfl) :
    PE X (.Call (.Name "tuple" p) [a] [] pos) (fun σ H Q => ta σ H fun x H1 => rTupU K x H1 Q) := by
  subst hK
  refine ⟨fun pins s σ H Q I h => Call_ (ld_blt I hg hm boot_tuple (PyProof.Rows.callWith_type1 ?_ na))⟩
  exact one_arg ha I h (fun v s2 x H2 I2 r q => rl_tuple pins s2 σ H2 x v Q I2 r q.h) na
theorem k_join {o e : Expr} {to te : TE} {apos pos : Pos} (hK : X.K = K) (ho : PE X o to) (he : PE X e te) (hs : starEach [e] X.env = [(false, eval e X.env)] := by rfl) (hbase : attributeBase o "join" X.env (eval o X.env) = eval o X.env := by rfl) (hline : (apos.endLine == pos.line) = true := by rfl) :
    PE X (.Call (.Attribute o "join" apos) [e] [] pos) (tM1 (fun x xs H Q => ∃ a p, ∃ ys : List Str, x = .str a ∧ xs = [.ref p] ∧ (SqL K H p (ys.map V.str) ∨ SqT K H p (ys.map V.str)) ∧
      (ys.map (·.length)).sum + ys.length * a.length ≤ 16777216 ∧ Q (.str (Txt.join a ys)) H) to te) := by
  subst hK
  exact pe_join ho he hs hbase hline
theorem k_any (hK : X.K = K) (hc : X.calm = true) : CallR X (.builtin "any") (rAny K) := by
  subst hK
  exact cr_any hc
theorem k_all (hK : X.K = K) (hc : X.calm = true) : CallR X (.builtin "all") (rAll K) := by
  subst hK
  exact cr_all hc
theorem k_sum (hK : X.K = K) (hc : X.calm = true) : CallR X (.builtin "sum") (rSum K) := by
  subst hK
  exact cr_sum hc
theorem kg_tup {es : List Expr} {k : Nat} {t : TGs} {pos : Pos} (n : Nat) (hK : X.K = K) (hc : X.calm = true) (h : PGs X es t)
    (hn : (assignEach es X.env).length = n := by rfl) (hst : (assignEach es X.env).findIdx? (·.1) = none := by rfl) : PG X (.Tuple es k pos) (gTup K n t) := by
  subst hK
  exact pg_tup hc h hn hst
theorem k_enum {e : Expr} {ta : TA} {p pos tpos : Pos} {elts : List Expr} {kk : Nat} (hK : X.K = K) (hg : Gl X "enumerate") (hm : X.mg "enumerate" = none) (ha : PA X [e] ta) (hs : starEach [e] X.env = [(false, eval e X.env)] := by rfl) :
    PI X (.Tuple elts kk tpos) (.Call (.Name "enumerate" p) [e] [] pos) (iEnum K ta) := by
  subst hK
  exact pi_enum hg hm ha hs
theorem k_zip {e e2 : Expr} {ta : TA} {p pos tpos : Pos} {elts : List Expr} {kk : Nat} (hK : X.K = K) (hg : Gl X "zip") (hm : X.mg "zip" = none) (ha : PA X [e, e2] ta) (hs : starEach [e, e2] X.env = (false, eval e X.env) :: starEach [e2] X.env := by rfl) (hpl : (backTo pos (starEach [e2] X.env)).any (·.1) = false := by rfl) :
    PI X (.Tuple elts kk tpos) (.Call (.Name "zip" p) [e, e2] [] pos) (RZ.iZipA K ta) := by
  subst hK
  exact RZ.pi_zipA hg hm ha hs hpl
end

/-! ### defs by their names -/
/-- the def x of the module keeps the promise sp -/
structure Df (P : Program) (w : World) (K : PySem.W.Frag) (mg : Str → Option Value) (base : Heap) (x : Str) (k : Nat) (ps : List Str) (sp : Sp) : Prop where
  ex : ∃ (f : Addr) (fd : FuncData), FnOk P w K mg base CX0 k f fd ps sp ∧ mg x = some (.ref f) ∧ PySem.W.keepIn K (.ref f) = true ∧ Binds K fd ps []
structure DfG (P : Program) (w : World) (K : PySem.W.Frag) (mg : Str → Option Value) (base : Heap) (x : Str) (k : Nat) (ps : List Str) (sp : Sp) : Prop where
  ex : ∃ (f : Addr) (fd : FuncData), FnG P w K mg base CX0 k f fd ps sp ∧ mg x = some (.ref f) ∧ PySem.W.keepIn K (.ref f) = true ∧ Binds K fd ps []
section
variable {X : Cx} {k j : Nat} {x : Str} {ps : List Str} {sp : Sp} {p pos : Pos} {e : Expr} {es : List Expr} {t : TA}
theorem pe_fn (D : Df X.prog X.w X.K X.mg X.base x k ps sp) (hr : Room j X.A) (hk : k ≤ j) (hg : Gl X x) (ha : PA X (e :: es) t) (hdb : (x == ("__debug__" : Str)) = false := by decide)
    (he : starEach (e :: es) X.env = (false, eval e X.env) :: starEach es X.env := by rfl) (hpl : (backTo pos (starEach es X.env)).any (·.1) = false := by rfl) : PE X (.Call (.Name x p) (e :: es) [] pos) (tCall sp [] E0 t) := by
  obtain ⟨f, fd, F, hm, hkp, hb⟩ := D.ex
  exact pe_call F (hr.mono hk) hg hm hkp hb .nil pass0 ha hdb he hpl
theorem pe_fn0 (D : Df X.prog X.w X.K X.mg X.base x k ps sp) (hr : Room j X.A) (hk : k ≤ j) (hg : Gl X x) (hdb : (x == ("__debug__" : Str)) = false := by decide) : PE X (.Call (.Name x p) [] [] pos) (tCall sp [] E0 tNil) := by
  obtain ⟨f, fd, F, hm, hkp, hb⟩ := D.ex
  exact pe_call0 F (hr.mono hk) hg hm hkp hb .nil pass0 hdb
theorem pe_fnG (hgu : X.A.guards = some []) (D : DfG X.prog X.w X.K X.mg X.base x k ps sp) (hr : Room j X.A) (hk : k ≤ j) (hg : Gl X x) (ha : PA X (e :: es) t) (hdb : (x == ("__debug__" : Str)) = false := by decide)
    (he : starEach (e :: es) X.env = (false, eval e X.env) :: starEach es X.env := by rfl) (hpl : (backTo pos (starEach es X.env)).any (·.1) = false := by rfl) : PE X (.Call (.Name x p) (e :: es) [] pos) (tCall sp [] E0 t) := by
  obtain ⟨f, fd, F, hm, hkp, hb⟩ := D.ex
  exact pe_callG hgu F (hr.mono hk) hg hm hkp hb .nil pass0 ha hdb he hpl
/-- a module's plain constant -/
theorem pe_gl {v : V} {pos : Pos} (h : ∃ u, X.mg x = some u ∧ RelV v u) (hg : Gl X x) (hd : (x == ("__debug__" : Str)) = false := by decide) : PE X (.Name x pos) (tC v) := by
  obtain ⟨u, hm, r⟩ := h
  exact pe_glob hg hm r hd
/-- a module's object -/
theorem pe_ref {a : Addr} {pos : Pos} (hg : Gl X x) (hm : X.mg x = some (.ref a)) (hd : (x == ("__debug__" : Str)) = false := by decide) : PE X (.Name x pos) (tC (.ref a)) := pe_glob hg hm rfl hd
/-- a built-in class's name as a value -/
theorem pe_ty {T : String} {pos : Pos} (hg : Gl X x) (hm : X.mg x = none) (hv : bootBuiltins x = some (.type T)) (hn : x ≠ "__name__" := by decide) (hd : (x == ("__debug__" : Str)) = false := by decide) : PE X (.Name x pos) (tC (.ty T)) :=
  pe_bltn hg hm hv rfl hn hd
end

section
variable {P : Program} {w : World} {K : PySem.W.Frag} {mg : Str → Option Value} {base : Heap} {CX : CXT} {k : Nat} {fd : FuncData} {ps : List Str} {sp : Sp}
  {x qual : Str} {params : Arguments} {body : List Stmt} {scope : Scope} {dvs : List V} {kws : List (Str × V)} {N : List Str} {p : He.Defn}
/-- a def's body, its own code object told -/
theorem okP (F : FunD K x qual params body scope dvs kws (He.fAd K p) fd) (S : FnScope N ps scope) (len : ∀ vs H Q E, sp vs H Q E → vs.length = ps.length)
    (hbody : ∀ (A : Around) (outer : List Env) (s : Shared) (H : Hp) (vs : List V) (Q : VK) (E : XK), Room k (A.deeper (envOfC qual scope s.heap.objs.size (He.fAd K p) (.ref (He.codeOf K p)))) → sp vs H Q E →
      ∃ t, PSs (cxOf CX P w K mg base N qual scope (He.fAd K p) (.ref (He.codeOf K p)) A outer s H E).nox body t ∧ t { nx := fun _ H' => Q .non H', rt := Q } (start N vs) H) : FnOk P w K mg base CX (k + 1) (He.fAd K p) fd ps sp := by
  obtain ⟨oc, od, dV, kV, doc, pm, an, cdv, ct, osl, rfl, lk, hcd, _, _⟩ := F.ex
  obtain ⟨c, rfl⟩ := He.codeIn_ref hcd
  have e : He.codeOf K p = c := He.codeOf_eq lk rfl
  subst e
  refine fn_of lk hcd S len fun A outer s H vs Q E hr hsp => ?_
  obtain ⟨t, h, q⟩ := hbody A outer s H vs Q E hr hsp
  exact ⟨t, h.nox, q⟩
theorem okQ (F : FunD K x qual params body scope dvs kws (He.fAd K p) fd) (S : FnScope N ps scope) (len : ∀ vs H Q E, sp vs H Q E → vs.length = ps.length)
    (hbody : ∀ (A : Around) (outer : List Env) (s : Shared) (H : Hp) (vs : List V) (Q : VK) (E : XK), A.guards = some [] → Room k (A.deeper (envOfC qual scope s.heap.objs.size (He.fAd K p) (.ref (He.codeOf K p)))) → sp vs H Q E →
      ∃ t, PSs (cxOf CX P w K mg base N qual scope (He.fAd K p) (.ref (He.codeOf K p)) A outer s H E).nox body t ∧ t { nx := fun _ H' => Q .non H', rt := Q } (start N vs) H) : FnG P w K mg base CX (k + 1) (He.fAd K p) fd ps sp := by
  obtain ⟨oc, od, dV, kV, doc, pm, an, cdv, ct, osl, rfl, lk, hcd, _, _⟩ := id F.ex
  obtain ⟨c, rfl⟩ := He.codeIn_ref hcd
  have e : He.codeOf K p = c := He.codeOf_eq lk rfl
  subst e
  refine okG F S len fun cdv hcv A outer s H vs Q E hg hr hsp => ?_
  have hcv : cdv = .ref (He.codeOf K p) := hcv.symm
  subst hcv
  obtain ⟨t, h, q⟩ := hbody A outer s H vs Q E hg hr hsp
  exact ⟨t, h.nox, q⟩
end

theorem dvi (a b : Int) : decide (V.int a = V.int b) = decide (a = b) := by
  rw [decide_eq_decide]
  exact ⟨fun h => by injection h, fun h => by rw [h]⟩
theorem dvs (a b : Str) : decide (V.str a = V.str b) = decide (a = b) := by
  rw [decide_eq_decide]
  exact ⟨fun h => by injection h, fun h => by rw [h]⟩
theorem not_true_iff {b : Bool} : (!b) = true ↔ b = false := by cases b <;> simp

/-! ### a heap that has only grown -/
/-- all that was tracked stands, tables perhaps longer -/
def Gr (H H' : Hp) : Prop := ∀ b o, H b = some o → (H' b = some o ∨ ∃ ps more, o = .tbl ps ∧ H' b = some (.tbl (ps ++ more)) ∧ (TriplesOk ps.toList → TriplesOk (ps ++ more).toList))
theorem Gr.refl (H : Hp) : Gr H H := fun _ _ h => .inl h
theorem Gr.trans {H H1 H2 : Hp} (a : Gr H H1) (b : Gr H1 H2) : Gr H H2 := by
  intro c o h
  rcases a c o h with h1 | ⟨ps, m1, rfl, h1, t1⟩
  · exact b c o h1
  · rcases b c _ h1 with h2 | ⟨qs, m2, e, h2, t2⟩
    · exact .inr ⟨ps, m1, rfl, h2, t1⟩
    · cases e
      exact .inr ⟨ps, m1 ++ m2, rfl, by rw [← Array.append_assoc]; exact h2, fun z => by rw [← Array.append_assoc]; exact t2 (t1 z)⟩
theorem Gr.keep {H H' : Hp} (g : Gr H H') {b : Addr} {o : HO} (h : H b = some o) (n : ∀ ps, o ≠ .tbl ps) : H' b = some o := by
  rcases g b o h with h1 | ⟨ps, _, rfl, _⟩
  · exact h1
  · exact absurd rfl (n ps)
theorem Gr.new {H : Hp} {p : Addr} {o : HO} (h : H p = none) : Gr H (upd H p o) := fun b u e => .inl (by rw [upd_ne (ne_of_none e h)]; exact e)
theorem Gr.upd' {H H' : Hp} {p : Addr} {o : HO} (g : Gr H H') (h : H p = none) : Gr H (upd H' p o) := fun b u e => by
  rw [upd_ne (ne_of_none e h)]
  exact g b u e
theorem Gr.free {H H' : Hp} (g : Gr H H') {b : Addr} (h : H' b = none) : H b = none := by
  cases q : H b with
  | none => rfl
  | some o =>
    rcases g b o q with h1 | ⟨_, _, _, h1, _⟩
    · rw [h] at h1; cases h1
    · rw [h] at h1; cases h1
theorem Gr.tabb {P : Addr} {H H' : Hp} (h : Tabb P H H') : Gr H H' := by
  obtain ⟨ps, more, h1, t1, t2, rfl⟩ := h
  intro b o e
  by_cases hb : b = P
  · subst hb
    rw [h1] at e
    cases e
    exact .inr ⟨ps, more, rfl, upd_same, fun _ => t2⟩
  · exact .inl (by rw [upd_ne hb]; exact e)
theorem Gr.tabG {P : Addr} {H H' : Hp} (g : Gr H H') (h : TabG H P) : TabG H' P := by
  obtain ⟨ps, h1, t1⟩ := h
  rcases g P _ h1 with q | ⟨qs, more, e, q, t⟩
  · exact ⟨ps, q, t1⟩
  · cases e
    exact ⟨_, q, t t1⟩
theorem Gr.seqT {K : PySem.W.Frag} {H H' : Hp} (g : Gr H H') {a : Addr} {xs : List V} (h : SqT K H a xs) : SqT K H' a xs := by
  rcases h with (h | ⟨o, h⟩) | h
  · exact .inl (.inl (g.keep h (fun _ z => by cases z)))
  · exact .inl (.inr ⟨o, g.keep h (fun _ z => by cases z)⟩)
  · exact .inr h
theorem Gr.seqL {K : PySem.W.Frag} {H H' : Hp} (g : Gr H H') {a : Addr} {xs : List V} (h : SqL K H a xs) : SqL K H' a xs := by
  rcases h with (h | ⟨o, h⟩) | h
  · exact .inl (.inl (g.keep h (fun _ z => by cases z)))
  · exact .inl (.inr ⟨o, g.keep h (fun _ z => by cases z)⟩)
  · exact .inr h
mutual
theorem Gr.dd {K : PySem.W.Frag} {H H' : Hp} (g : Gr H H') : ∀ (d : PyData) (v : V), Dd K H v d → Dd K H' v d
  | .none, _, h => by cases h; exact .non
  | .bool _, _, h => by cases h; exact .bl _
  | .int _, _, h => by cases h; exact .int _
  | .str _, _, h => by cases h; exact .str _
  | .list ds, _, h => by
    cases h with
    | lst a b => exact .lst (g.seqL a) (Gr.ddA g ds _ b)
  | .tuple ds, _, h => by
    cases h with
    | tup a b => exact .tup (g.seqT a) (Gr.ddA g ds _ b)
  | .dict _, _, h => by
    cases h with
    | dct a => exact .dct (g.keep a (fun _ z => by cases z))
theorem Gr.ddA {K : PySem.W.Frag} {H H' : Hp} (g : Gr H H') : ∀ (ds : List PyData) (vs : List V), DdAll K H vs ds → DdAll K H' vs ds
  | [], _, h => by cases h; exact .nil
  | d :: ds, _, h => by
    cases h with
    | cons a b => exact .cons (Gr.dd g d _ a) (Gr.ddA g ds _ b)
end

/-! ### a walk of enumerate over a list that stays -/
theorem for_enum {K : PySem.W.Frag} {a : Addr} {xs : List V} {g : TG} {tb : TS} {D : Ends} {σ : L2.St} {H : Hp} (Pv : Nat → L2.St → Hp → Prop) (h0 : Pv 0 σ H) (hl : ∀ i σ H, i ≤ xs.length → Pv i σ H → SqL K H a xs)
    (hs : ∀ i x T σ H, xs[i]? = some x → Pv i σ H → H T = none → g (.ref T) σ (upd H T (.tup [.int (i : Nat), x])) fun σ2 H2 => tb { D with nx := Pv (i + 1), ct := Pv (i + 1), bk := D.nx } σ2 H2) (hd : ∀ σ H, Pv xs.length σ H → D.nx σ H) :
    ∃ W : Nat → Nat → L2.St → Hp → Prop, (∃ m, W 0 m σ H) ∧ ∀ i m σ H, W i m σ H →
      ((Ite K a).stop i H ∧ D.nx σ H) ∨ ((Ite K a).go i H ∧ ∃ N : L2.St → Hp → Prop, (∀ σ' H', N σ' H' → ∃ m', m' < m ∧ W (i + 1) m' σ' H') ∧ ∀ x H', (Ite K a).yld i H x H' → g x σ H' fun σ2 H2 => tb { D with nx := N, ct := N, bk := D.nx } σ2 H2) := by
  refine ⟨fun i m σ H => i + m = xs.length ∧ Pv i σ H, ⟨xs.length, Nat.zero_add _, h0⟩, fun i m σ H ⟨hm, p⟩ => ?_⟩
  have hq := hl i σ H (by omega) p
  cases m with
  | zero =>
    have e : i = xs.length := by omega
    subst e
    exact Or.inl ⟨⟨xs, hq, Nat.le_refl _⟩, hd σ H p⟩
  | succ m =>
    have hi : i < xs.length := by omega
    refine Or.inr ⟨⟨xs, xs[i], hq, List.getElem?_eq_getElem hi⟩, Pv (i + 1), fun σ' H' p' => ⟨m, Nat.lt_succ_self _, by omega, p'⟩, ?_⟩
    rintro x H' ⟨T, y, rfl, hT, rfl, hy⟩
    exact hs i y T σ H (hy xs hq) p hT
end Vf
end
section
set_option Elab.async false
set_option linter.all false
set_option maxRecDepth 100000
set_option maxHeartbeats 8000000
/-! How many different texts a list has: len(set(texts)). -/
namespace Vf
open PySem PySem.Spec PyProof.Rows L2 GxR GenW
/-- one more, if it is new -/
def ins1 (acc : List Str) (x : Str) : List Str := if acc.any (· == x) = true then acc else acc ++ [x]
/-- the different ones, in the order they come -/
def mets (xs : List Str) : List Str := xs.foldl ins1 []
theorem mets_snoc (xs : List Str) (x : Str) : mets (xs ++ [x]) = ins1 (mets xs) x := by unfold mets; rw [List.foldl_append]; rfl
theorem ins1_any (acc : List Str) (x k : Str) : (ins1 acc x).any (· == k) = (acc.any (· == k) || decide (k = x)) := by
  unfold ins1
  by_cases h : acc.any (· == x) = true
  · rw [if_pos h]
    by_cases e : k = x
    · subst e; rw [h]; rfl
    · rw [decide_eq_false e, Bool.or_false]
  · rw [if_neg h, List.any_append]
    congr 1
    by_cases e : k = x
    · subst e; simp
    · have hb : (x == k) = false := by rw [beq_eq_false_iff_ne]; exact fun z => e z.symm
      simp [hb, e]
theorem ins1_len (acc : List Str) (x : Str) : (ins1 acc x).length = if acc.any (· == x) = true then acc.length else acc.length + 1 := by
  unfold ins1
  split
  · rfl
  · rw [List.length_append, List.length_singleton]
theorem mets_len_le (xs : List Str) : (mets xs).length ≤ xs.length := by
  have key : ∀ (l acc : List Str), (l.foldl ins1 acc).length ≤ acc.length + l.length := by
    intro l
    induction l with
    | nil => intro acc; exact Nat.le_refl _
    | cons y r ih =>
      intro acc
      have h1 := ih (ins1 acc y)
      have h2 := ins1_len acc y
      rw [List.foldl_cons, List.length_cons]
      split at h2 <;> omega
  have q := key xs []
  rw [List.length_nil, Nat.zero_add] at q
  exact q
section
variable {prog : Program} {w : World} {A : Around} {R : Result → Shared → Prop} {I : Addr} {fp wr : List Addr} {G : Array GenState → Array GenState → Prop} {n : Nat} {P : Nat → Value → Prop} {St : Nat → Shared → Prop}
theorem upd_loop (W : WalksS prog w A.in1 I fp wr G n P St) (S : Addr) (hSf : S ∉ fp) (xs : List Str) (hn : xs.length = n) (hv : ∀ i v, P i v → ∃ t, v = .str (xs.getD i Str.empty) t) (hb : n + 1 < scanBound) :
    ∀ (k i : Nat) (s : Shared), n - i = k → i ≤ n → St i s → s.heap.SetOf (PySem.strKind prog w) S (fun z => (mets (xs.take i)).any (· == z)) (mets (xs.take i)).length →
      (∀ s', Moved (S :: wr) G s s' → s'.heap.SetOf (PySem.strKind prog w) S (fun z => (mets xs).any (· == z)) (mets xs).length → R (.ok (.ret .none)) s') →
      codeAny (model prog w) A (.builtin "set.update.loop" ⟨[.ref S, .ref I], []⟩) R s := by
  have nS : S ∉ wr := fun z => hSf (W.sub _ z)
  have more : ∀ b ∈ wr, b ∈ S :: wr := fun b z => List.mem_cons_of_mem _ z
  have stay : ∀ {s s' : Shared} {f : Str → Bool} {m : Nat}, Moved wr G s s' → s.heap.SetOf (PySem.strKind prog w) S f m → s'.heap.SetOf (PySem.strKind prog w) S f m := by
    rintro s s' f m hm ⟨o, es, ep, t, ho, rest⟩
    exact ⟨o, es, ep, t, hm.heap S _ nS ho, rest⟩
  intro k
  induction k with
  | zero =>
    intro i s hk hi st hS hR
    have e : i = n := by omega
    subst e
    refine codeAny_builtin PyProof.Rows.F.entry_set_update_loop ?_
    rw [Around.under_plainId PyProof.Rows.F.plain_set_update_loop _]
    show wpAny _ A.in1 (pyNext (.ref I) >>= _) _ _ s
    refine wpAny_bind (W.done s _ _ st fun s' hm => ?_)
    show wpAny _ A.in1 (ret Value.none) _ _ s'
    have q := stay hm hS
    rw [← hn, List.take_length] at q
    exact wpAny_pure (hR s' (hm.mono more) q)
  | succ k ih =>
    intro i s hk hi st hS hR
    have lt : i < n := by omega
    refine codeAny_builtin PyProof.Rows.F.entry_set_update_loop ?_
    rw [Around.under_plainId PyProof.Rows.F.plain_set_update_loop _]
    show wpAny _ A.in1 (pyNext (.ref I) >>= _) _ _ s
    refine wpAny_bind (W.item i s _ _ lt st fun v s' hP st' hm => ?_)
    obtain ⟨t, rfl⟩ := hv i v hP
    have lx : i < xs.length := by omega
    have eg : xs.getD i Str.empty = xs[i] := by simp [List.getD, List.getElem?_eq_getElem lx]
    rw [eg]
    show wpAny _ A.in1 (holding [Value.str xs[i] t] (setAdd S (.str xs[i] t)) >>= _) _ _ s'
    refine wpAny_bind (wpAny_holding ?_)
    unfold setAdd
    refine wpAny_holding (wpAny_bind ((PySem.strKind prog w).pyHash (k := xs[i]) (strKind_is _ _ _ _) ?_))
    have hS' := stay hm hS
    have room : (mets (xs.take i)).length + 1 < scanBound := by
      have h1 := mets_len_le (xs.take i)
      rw [List.length_take] at h1
      omega
    refine wpAny_setAddHashed_of (knd := PySem.strKind prog w) (s := { s' with toks := s'.toks + 1 }) (strKind_is _ _ _ _) rfl hS' room fun h' hsb hS2 => ?_
    have et : xs.take (i + 1) = xs.take i ++ [xs[i]] := by rw [List.take_succ, List.getElem?_eq_getElem lx]; rfl
    have hSi : h'.SetOf (PySem.strKind prog w) S (fun z => (mets (xs.take (i + 1))).any (· == z)) (mets (xs.take (i + 1))).length :=
      PyProof.Rows.SetOf_congr hS2 (fun z => by rw [et, mets_snoc, ins1_any]) (by rw [et, mets_snoc, ins1_len])
    have other : ∀ b, b ≠ S → ∀ o, s'.heap.get? b = some o → h'.get? b = some o := fun b hb o e => (hsb.2 b hb).trans e
    refine wpAny_pure ⟨plainId_quiet PyProof.Rows.F.plain_set_update_loop _, ih (i + 1) _ (by omega) lt (W.frame _ s' _ _ st' (Nat.le_succ _) fun b hb o e => other b (fun z => hSf (z ▸ hb)) o e) hSi fun s'' hm2 hS3 => ?_⟩
    exact hR s'' (Moved.trans W.gtrans ((hm.mono more).then_heap (Nat.le_succ _) fun b o hb e => other b (fun z => hb (z ▸ List.mem_cons_self)) o e) hm2) hS3
end
section
variable {prog : Program} {w : World} {A : Around} {E : Value → Shared → Prop} {s : Shared}
theorem set_of_strs {l : Addr} {its : Array Value} {xs : List Str} {Q : Value → Shared → Prop} (hh : A.handled = none) (hl : s.heap.IsList l its) (hi : PyProof.Rows.StrsAre its.toList xs) (hb : its.size + 1 < scanBound)
    (h : ∀ (h' : Heap) (tk : Nat), h'.SetOf (PySem.strKind prog w) s.heap.objs.size (fun z => (mets xs).any (· == z)) (mets xs).length → (∀ b o, b < s.heap.objs.size → s.heap.get? b = some o → h'.get? b = some o) →
      Q (.ref s.heap.objs.size) { s with heap := h', toks := tk }) : wpAny (model prog w) A (call (.type "set") [.ref l]) Q E s := by
  obtain ⟨c, tl, m1⟩ := PySem.F.called_set.mro
  have m2 := PySem.F.called_set.made
  have m3 := PySem.F.called_set.sub
  refine wpAny_call (codeAny_of_tree ?_)
  show wpAny _ _ (callAny (.type "set") _) _ _ _
  refine wpAny_pure ⟨Code.quiet_builtin _ (by decide +kernel), codeAny_builtin PySem.F.entry_type_call ?_⟩
  rw [Around.under_plain (weight_type_call_type "set" [.ref l] []) rfl]
  have m4 := PySem.F.called_set.notType
  have m5 := PySem.F.called_set.canCreate
  have m6 := PySem.F.typeCall_set_1 (.ref l)
  repeat (any_goals (first | assumption | wp_step))
  refine codeAny_mono (code_set_new_1 (.ref l) (E := E) (Q₁ := fun obj s₁ => ∃ led : Bool, obj = .ref s.heap.objs.size ∧ s₁ = { s with heap := s.heap.push { cls := .type "set", dict := none, data := .set #[] 0 (.fresh 0 0 led) } }) fun led => ⟨led, rfl, rfl⟩) fun r s₁ hr => ?_
  cases r with
  | error e => exact hr
  | ok fl =>
    cases fl with
    | ret obj =>
      obtain ⟨led, rfl, rfl⟩ := hr
      have gS : (s.heap.push ({ cls := .type "set", dict := none, data := .set #[] 0 (.fresh 0 0 led) } : Obj)).get? s.heap.objs.size = some ({ cls := .type "set", dict := none, data := .set #[] 0 (.fresh 0 0 led) } : Obj) := Heap.get?_push_size _ rfl
      have tS : Shared.TypeIs { s with heap := s.heap.push ({ cls := .type "set", dict := none, data := .set #[] 0 (.fresh 0 0 led) } : Obj) } (.ref s.heap.objs.size) "set" := ⟨_, gS, rfl⟩
      have m7 := PySem.F.called_set.init.lookup
      have m8 := PySem.F.called_set.init.bind (.ref s.heap.objs.size)
      repeat (any_goals (first | assumption | wp_step))
      refine codeAny_mono (codeAny_call_builtin (R := wants (fun r s₂ => r = .none ∧ ∃ h' tk, s₂ = { s with heap := h', toks := tk } ∧ h'.SetOf (PySem.strKind prog w) s.heap.objs.size (fun z => (mets xs).any (· == z)) (mets xs).length ∧
          (∀ b o, b < s.heap.objs.size → s.heap.get? b = some o → h'.get? b = some o)) E) PySem.F.called_set.init.plain PySem.F.entry_set_init (check_set_init_1 tS ?_)) fun r₂ s₂ hr₂ => ?_
      · obtain ⟨ol, hol, hcl, nl, hdl⟩ := hl
        obtain ⟨ocls, odict, odata, oslots⟩ := ol
        simp only at hcl hdl
        subst hcl; subst hdl
        have k1 : (s.heap.push ({ cls := .type "set", dict := none, data := .set #[] 0 (.fresh 0 0 led) } : Obj)).get? l = some { cls := .type "list", dict := odict, data := .seq its nl, slots := oslots } := Heap.get?_push_of_some _ hol
        have m9 := PySem.F.sub_list_set
        have m10 := PySem.F.sub_list_frozenset
        have m11 : (Value.type "list" == Value.type "dict") = false := by decide
        have k2 : (s.heap.push ({ cls := .type "set", dict := none, data := .set #[] 0 (.fresh 0 0 led) } : Obj)).IsList l its := ⟨_, k1, rfl, nl, rfl⟩
        unfold Builtin.«set.__init__» noKeywords Builtin.Frozenset.updateFrom
        generalize hPI : pyIter = PI
        wp_walk
        subst hPI
        refine wpAny_pyIter_list k2 (wpAny_bind (wpAny_runValue ?_))
        have lS : l < s.heap.objs.size := Heap.lt_size hol
        have size1 : (s.heap.push ({ cls := .type "set", dict := none, data := .set #[] 0 (.fresh 0 0 led) } : Obj)).objs.size = s.heap.objs.size + 1 := Heap.size_push ..
        have h3 : A.in1.in1.in1.handled = none := hh
        have nI : l ≠ (s.heap.push ({ cls := .type "set", dict := none, data := .set #[] 0 (.fresh 0 0 led) } : Obj)).objs.size := by rw [size1]; exact Nat.ne_of_lt (Nat.lt_succ_of_lt lS)
        have nS : s.heap.objs.size ∉ [(s.heap.push ({ cls := .type "set", dict := none, data := .set #[] 0 (.fresh 0 0 led) } : Obj)).objs.size, l] := by
          rw [size1]
          intro z
          rcases List.mem_cons.mp z with z | z
          · exact absurd z (Nat.ne_of_lt (Nat.lt_succ_self _))
          · exact absurd (List.mem_singleton.mp z) (Nat.ne_of_gt lS)
        have len : xs.length = its.size := by rw [← StrsAre.len_eq hi, Array.length_toList]
        refine upd_loop ((Walks.list h3 _ l nI its).toS) s.heap.objs.size nS xs len (fun i v hv => SS.strs_at hi i v (by rw [Array.getElem?_toList]; exact hv)) hb (its.size - 0) 0 _ (by omega) (Nat.zero_le _) ⟨⟨_, Heap.get?_push_size _ rfl, rfl, rfl⟩, (k2.push _)⟩ ?hS0 ?hR
        case hS0 =>
          have g2 : ((s.heap.push ({ cls := .type "set", dict := none, data := .set #[] 0 (.fresh 0 0 led) } : Obj)).push { cls := .type "list_iterator", data := .fields #[.ref l, .int 0 0] }).get? s.heap.objs.size = some ({ cls := .type "set", dict := none, data := .set #[] 0 (.fresh 0 0 led) } : Obj) := Heap.get?_push_of_some _ gS
          exact PyProof.Rows.SetOf_congr ((PyProof.Rows.setObjOf_fresh (knd := PySem.strKind prog w) led).setOf g2 (by unfold scanBound; omega)) (fun _ => rfl) rfl
        case hR =>
          rintro ⟨h', g', d', tk', os'⟩ hm hS'
          obtain rfl : g' = s.gens := hm.gens
          obtain rfl : d' = s.drawn := hm.drawn
          obtain rfl : os' = s.os := hm.os
          show wpAny _ _ _ _ _ _
          refine wpAny_pure ?_
          show wpAny _ _ (ret Value.none) _ _ _
          refine wpAny_pure ⟨rfl, h', tk', rfl, hS', fun b o hb e => ?_⟩
          refine hm.heap b o ?_ (Heap.get?_push_of_some _ (Heap.get?_push_of_some _ e))
          intro z
          rcases List.mem_cons.mp z with z | z
          · exact absurd z (Nat.ne_of_lt hb)
          · rw [List.mem_singleton.mp z, size1] at hb
            exact absurd (Nat.lt_of_succ_lt hb) (Nat.lt_irrefl _)
      · cases r₂ with
        | error e => exact hr₂
        | ok f2 =>
          cases f2 with
          | ret r =>
            obtain ⟨rfl, h', tk, rfl, q1, q2⟩ := hr₂
            repeat (any_goals (first | assumption | wp_step))
            exact h _ _ q1 q2
          | _ => exact hr₂.elim
    | _ => exact hr.elim
end
end Vf
end
section
set_option Elab.async false
set_option linter.all false
set_option maxRecDepth 100000
set_option maxHeartbeats 8000000
namespace Vf
open PySem PySem.Spec PyProof.Rows L2 GxR GenW
section
variable {X : Cx}
/-- len(set(texts)), texts a list -/
def tLenSetS (K : PySem.W.Frag) (ta : TE) : TE := fun σ H Q => ta σ H fun x H1 => ∃ (l : Addr) (xs : List Str), x = .ref l ∧ SqL K H1 l (xs.map V.str) ∧ xs.length ≤ 4000 ∧ Q (.int ((mets xs).length : Nat)) H1
theorem strs_vals : ∀ {xs : List Str} {us : List Value}, Vals (xs.map V.str) us → StrsAre us xs
  | [], us, r => by cases r; exact StrsAre.nil
  | x :: xs, us, r => by
    cases r with
    | cons a b =>
      obtain ⟨t, rfl⟩ := a
      exact StrsAre.cons _ _ (strs_vals b)
theorem pe_lenSetS {K : PySem.W.Frag} {a : Expr} {ta : TE} {p p2 q pos : Pos} (hK : X.K = K) (hg : Gl X "len") (hm : X.mg "len" = none) (hg2 : Gl X "set") (hm2 : X.mg "set" = none) (ha : PE X a ta) (hc : X.calm = true := by rfl)
    (na : starEach [a] X.env = (false, eval a X.env) :: starEach [] X.env := by rfl) : PE X (.Call (.Name "len" p) [.Call (.Name "set" p2) [a] [] q] [] pos) (tLenSetS K ta) := by
  subst hK
  refine ⟨fun pins s σ H Q I h => Call_ (ld_blt I hg hm boot_len ?_)⟩
  refine PyProof.Rows.callWith_builtin1 (PyProof.Rows.args_cons ?_ rfl) rfl rfl
  refine Call_ (ld_blt I hg2 hm2 boot_set ?_)
  refine PyProof.Rows.callWith_type1 (PyProof.Rows.args_cons (thn (ha.run pins s σ H _ I h) ?_) na) na rfl
  rintro v s1 ⟨x, H1, I1, r1, l, xs, rfl, hq, hl, q1⟩
  refine PyProof.Rows.args_nil ?_
  cases r1
  obtain ⟨its, r, pl, hz⟩ := I1.list hq
  have hlen : its.toArray.size = xs.length := by rw [List.size_toArray, ← r.length, List.length_map]
  have hml := mets_len_le xs
  refine set_of_strs (I1.ok.hd hc) pl.isList (xs := xs) (by simpa using strs_vals r) (by rw [hlen]; unfold scanBound; omega) fun h' tk hS hk => ?_
  refine PyProof.Rows.args_nil ?_
  obtain ⟨o, es, ep, t, ho, hex, hd, _, _, _, hf, hn⟩ := hS
  have I2 : Inv X pins σ H1 { s1 with heap := h', toks := tk } := I1.kept fun b o e => hk b o (Heap.lt_size e) e
  exact call_len_set ho hex hd hf (by rw [hn] <;> omega) ⟨.int (mets xs).length, H1, I2.tok _, ⟨_, by rw [hn]⟩, q1⟩
end
end Vf
end
section
set_option Elab.async false
set_option linter.all false
set_option maxRecDepth 100000
set_option maxHeartbeats 4000000
namespace Vf
open PySem PySem.Spec PyProof.Rows L2 GxR GenW RZ
/-! ### isinstance of data -/
def clsOf : PyData → String
  | .none => "NoneType"
  | .bool _ => "bool"
  | .int _ => "int"
  | .str _ => "str"
  | .list _ => "list"
  | .tuple _ => "tuple"
  | .dict _ => "dict"
def isaD (T : String) : PyData → Bool
  | .none => T == "NoneType"
  | .bool _ => T == "bool" || T == "int"
  | .int _ => T == "int"
  | .str _ => T == "str"
  | .list _ => T == "list"
  | .tuple _ => T == "tuple"
  | .dict _ => T == "dict"
theorem kitD (T : String) (h : T = "tuple" ∨ T = "str" ∨ T = "int" ∨ T = "bool" ∨ T = "list") (d : PyData) : kitB (clsOf d) T = some (isaD T d) := by
  rcases h with rfl | rfl | rfl | rfl | rfl <;> cases d <;> (simp only [clsOf, isaD]; decide +kernel)
section
variable {X : Cx}
theorem tyD {K : PySem.W.Frag} {H : Hp} {v : V} {d : PyData} (h : Dd K H v d) : TyX K H v (.type (clsOf d)) := by
  cases h with
  | non => exact .base .non
  | bl b => exact .base (.bl b)
  | int i => exact .base (.int i)
  | str x => exact .base (.str x)
  | lst h1 _ =>
    rcases h1 with (h1 | ⟨o, h1⟩) | ⟨o, its, n, h1, h2, _⟩
    · exact .base (.lst h1)
    · exact .base (.frz h1)
    · exact .kList h1 h2
  | tup h1 _ =>
    rcases h1 with (h1 | ⟨o, h1⟩) | ⟨o, its, n, h1, h2, _⟩
    · exact .base (.tup h1)
    · exact .fTuple h1
    · exact .kTuple h1 h2
  | dct h1 => exact .base (.dK h1)
/-- isinstance(x, T), x data, T a built-in class's name -/
theorem call_isD {K : PySem.W.Frag} (hK : X.K = K) : CallR X (.builtin "isinstance") (fun xs H Q => ∃ (x : V) (d : PyData) (T : String), xs = [x, .ty T] ∧ Dd K H x d ∧ (T = "tuple" ∨ T = "str" ∨ T = "int" ∨ T = "bool" ∨ T = "list") ∧ Q (.bl (isaD T d)) H) := by
  subst hK
  intro pins s σ H xs us Q I r h
  obtain ⟨x, d, T, rfl, hd, hT, q⟩ := h
  exact call_isi pins s σ H _ us Q I r ⟨x, .ty T, _, _, _, rfl, .ty T, tyD hd, kit_ty (kitD T hT d), q⟩
theorem vals_at : ∀ {xs : List V} {us : List Value}, xs.length = us.length → (∀ (i : Nat) (x : V) (u : Value), xs[i]? = some x → us[i]? = some u → RelV x u) → Vals xs us
  | [], [], _, _ => .nil
  | [], _ :: _, h, _ => by simp at h
  | _ :: _, [], h, _ => by simp at h
  | x :: xs, u :: us, h, k => .cons (k 0 x u rfl rfl) (vals_at (by simpa using h) fun i y v h1 h2 => k (i + 1) y v (by simpa using h1) (by simpa using h2))
/-- a text's signs as values -/
abbrev sgn (x : Str) : List V := x.cps.toList.map fun c => V.str ⟨#[c]⟩
theorem sgn_vals {x : Str} {acc : Array Value} (h : ItemsOf (SignAt x) acc x.cps.size) : Vals (sgn x) acc.toList := by
  obtain ⟨h1, h2⟩ := h
  refine vals_at (by rw [List.length_map, Array.length_toList, Array.length_toList]; exact h1.symm) fun i y u hy hu => ?_
  rw [Array.getElem?_toList] at hu
  obtain ⟨c, t, hc, rfl⟩ := h2 i u hu
  rw [List.getElem?_map, Array.getElem?_toList, hc] at hy
  cases hy
  exact ⟨t, rfl⟩
structure rLstU (K : PySem.W.Frag) (xs : List V) (H : Hp) (Q : VK) : Prop where
  h : (∃ p ys, xs = [.ref p] ∧ (SqL K H p ys ∨ SqT K H p ys) ∧ ∀ l, H l = none → Q (.ref l) (upd H l (.lst ys))) ∨ (∃ x : Str, xs = [.str x] ∧ x.length ≤ sizeLine ∧ ∀ l, H l = none → Q (.ref l) (upd H l (.lst (sgn x))))
/-- list(x), x a list, a tuple, a text -/
theorem call_listU {K : PySem.W.Frag} (hK : X.K = K) (hc : X.calm = true) : CallR X (.type "list") (rLstU K) := by
  subst hK
  intro pins s σ H xs us Q I r h
  rcases h.h with h | ⟨x, rfl, hz, q⟩
  · exact call_list_of pins s σ H xs us Q I r h
  · obtain ⟨u, rfl, t, rfl⟩ := vals1 r
    refine call_list_str (I.ok.hd hc) x t (fun h' tk acc c hk hS ha => ?_) hz
    have hn : H s.heap.objs.size = none := I.hok.fresh (Nat.le_refl _)
    exact ⟨.ref s.heap.objs.size, upd H s.heap.objs.size (.lst (sgn x)), I.laid hk (Nat.le_refl _) ⟨by rw [List.length_map, Array.length_toList]; exact hz, acc.toList, c, sgn_vals ha, hS⟩, rfl, q _ hn⟩
theorem lsU_s {K : PySem.W.Frag} {H : Hp} {Q : VK} {x : Str} (hz : x.length ≤ sizeLine) (q : ∀ l, H l = none → Q (.ref l) (upd H l (.lst (sgn x)))) : rLstU K [.str x] H Q := ⟨.inr ⟨x, rfl, hz, q⟩⟩
theorem lsU_q {K : PySem.W.Frag} {H : Hp} {Q : VK} {p : Addr} {ys : List V} (h : SqL K H p ys ∨ SqT K H p ys) (q : ∀ l, H l = none → Q (.ref l) (upd H l (.lst ys))) : rLstU K [.ref p] H Q := ⟨.inl ⟨p, ys, rfl, h, q⟩⟩
end

/-! ### the turns of an any, an all -/
section
variable {cont : Bool} {j : Nat} {σ0 : L2.St} {te : TE} {K : PySem.W.Frag} {a : Addr} {xs : List V} {Q : VK} {H2 : Hp}
theorem turns_T (Pv : Nat → Hp → Prop) (h0 : Pv 0 H2) (hl : ∀ i H, i ≤ xs.length → Pv i H → SqT K H a xs)
    (hs : ∀ i x H, xs[i]? = some x → Pv i H → te (σ0.set j (some x)) H fun z H4 => ∃ c, z = .bl c ∧ (if c = cont then Pv (i + 1) H4 else Q (.bl (!cont)) H4)) (hd : ∀ H, Pv xs.length H → Q (.bl cont) H) :
    ∃ W : Nat → Nat → Hp → Prop, (∃ m, W 0 m H2) ∧ Turns cont j σ0 tYes te (Itt K a) Q W := by
  refine ⟨fun i m H => i + m = xs.length ∧ Pv i H, ⟨xs.length, Nat.zero_add _, h0⟩, fun i m H ⟨hm, p⟩ => ?_⟩
  have q := hl i H (by omega) p
  cases m with
  | zero =>
    have e : i = xs.length := by omega
    subst e
    exact .inl ⟨⟨xs, q, Nat.le_refl _⟩, hd H p⟩
  | succ m =>
    have hi : i < xs.length := by omega
    refine .inr ⟨⟨xs, xs[i], q, List.getElem?_eq_getElem hi⟩, Pv (i + 1), fun H' p' => ⟨m, Nat.lt_succ_self _, by omega, p'⟩, ?_⟩
    rintro y H' ⟨rfl, hy⟩
    exact hs i y _ (hy xs q) p
theorem turns_L (Pv : Nat → Hp → Prop) (h0 : Pv 0 H2) (hl : ∀ i H, i ≤ xs.length → Pv i H → SqL K H a xs)
    (hs : ∀ i x H, xs[i]? = some x → Pv i H → te (σ0.set j (some x)) H fun z H4 => ∃ c, z = .bl c ∧ (if c = cont then Pv (i + 1) H4 else Q (.bl (!cont)) H4)) (hd : ∀ H, Pv xs.length H → Q (.bl cont) H) :
    ∃ W : Nat → Nat → Hp → Prop, (∃ m, W 0 m H2) ∧ Turns cont j σ0 tYes te (Itl K a) Q W := by
  refine ⟨fun i m H => i + m = xs.length ∧ Pv i H, ⟨xs.length, Nat.zero_add _, h0⟩, fun i m H ⟨hm, p⟩ => ?_⟩
  have q := hl i H (by omega) p
  cases m with
  | zero =>
    have e : i = xs.length := by omega
    subst e
    exact .inl ⟨⟨xs, q, Nat.le_refl _⟩, hd H p⟩
  | succ m =>
    have hi : i < xs.length := by omega
    refine .inr ⟨⟨xs, xs[i], q, List.getElem?_eq_getElem hi⟩, Pv (i + 1), fun H' p' => ⟨m, Nat.lt_succ_self _, by omega, p'⟩, ?_⟩
    rintro y H' ⟨rfl, hy⟩
    exact hs i y _ (hy xs q) p
theorem turns_S {x : Str} (Pv : Nat → Hp → Prop) (h0 : Pv 0 H2)
    (hs : ∀ i c H, x.cps.toList[i]? = some c → Pv i H → te (σ0.set j (some (.str ⟨#[c]⟩))) H fun z H4 => ∃ c, z = .bl c ∧ (if c = cont then Pv (i + 1) H4 else Q (.bl (!cont)) H4)) (hd : ∀ H, Pv x.cps.toList.length H → Q (.bl cont) H) :
    ∃ W : Nat → Nat → Hp → Prop, (∃ m, W 0 m H2) ∧ Turns cont j σ0 tYes te (Its x) Q W := by
  refine ⟨fun i m H => i + m = x.cps.toList.length ∧ Pv i H, ⟨_, Nat.zero_add _, h0⟩, fun i m H ⟨hm, p⟩ => ?_⟩
  have e2 : x.cps.toList.length = x.cps.size := Array.length_toList
  cases m with
  | zero =>
    have e : i = x.cps.toList.length := by omega
    subst e
    exact .inl ⟨by show x.cps.size ≤ _; omega, hd H p⟩
  | succ m =>
    refine .inr ⟨by show i < x.cps.size; omega, Pv (i + 1), fun H' p' => ⟨m, Nat.lt_succ_self _, by omega, p'⟩, ?_⟩
    rintro y H' ⟨rfl, c, hc, rfl⟩
    exact hs i c _ (by rw [Array.getElem?_toList]; exact hc) p
end

/-! ### comprehensions over a text, over zip -/
section
variable {K : PySem.W.Frag} {g : TG} {tt : TT} {te : TE} {vs : List Nat} {σ : L2.St} {H1 : Hp} {D : Addr} {Qd : Hp → Prop}
theorem lc_S {x : Str} (Pv : Nat → Hp → Prop) (h0 : Pv 0 (upd H1 D (.lst [])))
    (hs : ∀ i c H, x.cps.toList[i]? = some c → Pv i H → g (.str ⟨#[c]⟩) (wipe σ vs) H fun σ2 H2 => wipe σ2 vs = wipe σ vs ∧ tt σ2 H2 fun b H3 =>
      if b = true then te σ2 H3 fun y H4 => ∃ acc, H4 D = some (.lst acc) ∧ acc.length < sizeLine ∧ Pv (i + 1) (upd H4 D (.lst (acc ++ [y]))) else Pv (i + 1) H3) (hd : ∀ H, Pv x.cps.toList.length H → Qd H) :
    ∃ W : Nat → Nat → Hp → Prop, (∃ m, W 0 m (upd H1 D (.lst []))) ∧ ∀ i m H, W i m H →
      ((Its x).stop i H ∧ Qd H) ∨ ((Its x).go i H ∧ ∃ Nx : Hp → Prop, (∀ H', Nx H' → ∃ m', m' < m ∧ W (i + 1) m' H') ∧ ∀ y H', (Its x).yld i H y H' → g y (wipe σ vs) H' fun σ2 H2 => wipe σ2 vs = wipe σ vs ∧ tt σ2 H2 fun b H3 =>
        if b = true then te σ2 H3 fun y H4 => ∃ acc, H4 D = some (.lst acc) ∧ acc.length < sizeLine ∧ Nx (upd H4 D (.lst (acc ++ [y]))) else Nx H3) := by
  refine ⟨fun i m H => i + m = x.cps.toList.length ∧ Pv i H, ⟨_, Nat.zero_add _, h0⟩, fun i m H ⟨hm, p⟩ => ?_⟩
  have e2 : x.cps.toList.length = x.cps.size := Array.length_toList
  cases m with
  | zero =>
    have e : i = x.cps.toList.length := by omega
    subst e
    exact .inl ⟨by show x.cps.size ≤ _; omega, hd H p⟩
  | succ m =>
    refine .inr ⟨by show i < x.cps.size; omega, Pv (i + 1), fun H' p' => ⟨m, Nat.lt_succ_self _, by omega, p'⟩, ?_⟩
    rintro y H' ⟨rfl, c, hc, rfl⟩
    exact hs i c _ (by rw [Array.getElem?_toList]; exact hc) p
theorem lc_zT {a b : Addr} {xs ys : List V} (hl : xs.length = ys.length) (Pv : Nat → Hp → Prop) (h0 : Pv 0 (upd H1 D (.lst []))) (hq : ∀ i H, Pv i H → SqT K H a xs ∧ SqT K H b ys)
    (hs : ∀ i x y T H, xs[i]? = some x → ys[i]? = some y → Pv i H → H T = none → g (.ref T) (wipe σ vs) (upd H T (.tup [x, y])) fun σ2 H2 => wipe σ2 vs = wipe σ vs ∧ tt σ2 H2 fun b H3 =>
      if b = true then te σ2 H3 fun y H4 => ∃ acc, H4 D = some (.lst acc) ∧ acc.length < sizeLine ∧ Pv (i + 1) (upd H4 D (.lst (acc ++ [y]))) else Pv (i + 1) H3) (hd : ∀ H, Pv xs.length H → Qd H) :
    ∃ W : Nat → Nat → Hp → Prop, (∃ m, W 0 m (upd H1 D (.lst []))) ∧ ∀ i m H, W i m H →
      ((ItzT K a b).stop i H ∧ Qd H) ∨ ((ItzT K a b).go i H ∧ ∃ Nx : Hp → Prop, (∀ H', Nx H' → ∃ m', m' < m ∧ W (i + 1) m' H') ∧ ∀ y H', (ItzT K a b).yld i H y H' → g y (wipe σ vs) H' fun σ2 H2 => wipe σ2 vs = wipe σ vs ∧ tt σ2 H2 fun b H3 =>
        if b = true then te σ2 H3 fun y H4 => ∃ acc, H4 D = some (.lst acc) ∧ acc.length < sizeLine ∧ Nx (upd H4 D (.lst (acc ++ [y]))) else Nx H3) := by
  refine ⟨fun i m H => i + m = xs.length ∧ Pv i H, ⟨_, Nat.zero_add _, h0⟩, fun i m H ⟨hm, p⟩ => ?_⟩
  obtain ⟨q1, q2⟩ := hq i H p
  cases m with
  | zero =>
    have e : i = xs.length := by omega
    subst e
    exact .inl ⟨⟨xs, ys, q1, q2, .inl (Nat.le_refl _)⟩, hd H p⟩
  | succ m =>
    have h1 : i < xs.length := by omega
    have h2 : i < ys.length := by omega
    refine .inr ⟨⟨xs, ys, xs[i], ys[i], q1, q2, List.getElem?_eq_getElem h1, List.getElem?_eq_getElem h2⟩, Pv (i + 1), fun H' p' => ⟨m, Nat.lt_succ_self _, by omega, p'⟩, ?_⟩
    rintro z H' ⟨T, x, y, rfl, hT, rfl, hx, hy⟩
    exact hs i x y T H (hx xs q1) (hy ys q2) p hT
theorem lc_zL {a b : Addr} {xs ys : List V} (hl : xs.length = ys.length) (Pv : Nat → Hp → Prop) (h0 : Pv 0 (upd H1 D (.lst []))) (hq : ∀ i H, Pv i H → SqL K H a xs ∧ SqL K H b ys)
    (hs : ∀ i x y T H, xs[i]? = some x → ys[i]? = some y → Pv i H → H T = none → g (.ref T) (wipe σ vs) (upd H T (.tup [x, y])) fun σ2 H2 => wipe σ2 vs = wipe σ vs ∧ tt σ2 H2 fun b H3 =>
      if b = true then te σ2 H3 fun y H4 => ∃ acc, H4 D = some (.lst acc) ∧ acc.length < sizeLine ∧ Pv (i + 1) (upd H4 D (.lst (acc ++ [y]))) else Pv (i + 1) H3) (hd : ∀ H, Pv xs.length H → Qd H) :
    ∃ W : Nat → Nat → Hp → Prop, (∃ m, W 0 m (upd H1 D (.lst []))) ∧ ∀ i m H, W i m H →
      ((Itz K a b).stop i H ∧ Qd H) ∨ ((Itz K a b).go i H ∧ ∃ Nx : Hp → Prop, (∀ H', Nx H' → ∃ m', m' < m ∧ W (i + 1) m' H') ∧ ∀ y H', (Itz K a b).yld i H y H' → g y (wipe σ vs) H' fun σ2 H2 => wipe σ2 vs = wipe σ vs ∧ tt σ2 H2 fun b H3 =>
        if b = true then te σ2 H3 fun y H4 => ∃ acc, H4 D = some (.lst acc) ∧ acc.length < sizeLine ∧ Nx (upd H4 D (.lst (acc ++ [y]))) else Nx H3) := by
  refine ⟨fun i m H => i + m = xs.length ∧ Pv i H, ⟨_, Nat.zero_add _, h0⟩, fun i m H ⟨hm, p⟩ => ?_⟩
  obtain ⟨q1, q2⟩ := hq i H p
  cases m with
  | zero =>
    have e : i = xs.length := by omega
    subst e
    exact .inl ⟨⟨xs, ys, q1, q2, .inl (Nat.le_refl _)⟩, hd H p⟩
  | succ m =>
    have h1 : i < xs.length := by omega
    have h2 : i < ys.length := by omega
    refine .inr ⟨⟨xs, ys, xs[i], ys[i], q1, q2, List.getElem?_eq_getElem h1, List.getElem?_eq_getElem h2⟩, Pv (i + 1), fun H' p' => ⟨m, Nat.lt_succ_self _, by omega, p'⟩, ?_⟩
    rintro z H' ⟨T, x, y, rfl, hT, rfl, hx, hy⟩
    exact hs i x y T H (hx xs q1) (hy ys q2) p hT
end
end Vf
end
section
set_option Elab.async false
set_option linter.all false
set_option maxRecDepth 100000
set_option maxHeartbeats 4000000
/-! Own exceptions as values: made, asked what they are, their fields read. -/
namespace Vf
open PySem PySem.Spec PyProof.Rows L2 GxR GenW RZ
theorem kin_classO {prog : Program} {w : World} {A : Around} {E : Value → Shared → Prop} {s : Shared} {K : PySem.W.Frag} {x D : Addr} {ox : Obj} {od : Option Obj} {Q : Option Value → Shared → Prop} (hga : PySem.W.findIn K (.ref D) "__getattribute__" = some (some (.builtin "BaseException.__getattribute__"))) (hgt : PySem.W.findIn K (.ref D) "__getattr__" = some none) (hsub : PySem.W.subIn K (.ref D) (.type "BaseException") = some true)
    (hf : PySem.W.findObj K D od "__class__" = some (.bind (.builtin "getset_descriptor.__get__") (.builtin "object.__class__"))) (hm : PySem.W.mroIn K D (.type "object") = some true)
    (X : K.In s.heap) (I : PySem.W.InstAt s.heap x ox D od) (h : Q (some (.ref D)) { s with toks := s.toks + 1 }) : wpAny (model prog w) A (getAttr? (.ref x) "__class__") Q E s := by
  obtain ⟨hp, g, d, t, os⟩ := s
  have L0 := I.type (M := model prog w)
  have L1 := PySem.W.looks_findIn (M := model prog w) X hga
  have L2 := PySem.W.looks_findIn (M := model prog w) X hgt
  have L3 := PySem.W.looks_find (M := model prog w) X I hf
  have sub : PySem.W.Looks (model prog w) hp (isInstance (.ref x) (.type "BaseException")) true := L0.andThen (PySem.W.looks_subIn X hsub)
  have hx0 : (false && onTheHeap (Value.builtin "BaseException.__getattribute__")) = false := rfl
  have hx2 : (Value.builtin "BaseException.__getattribute__" == Value.builtin "object.__getattribute__") = false := by decide +kernel
  have hx1 : (onTheHeap (Value.ref D) && Value.builtin "BaseException.__getattribute__" == Value.builtin "object.__getattribute__") = false := by rw [hx2]; rfl
  unfold getAttr? getAttrBy? getAttrBy
  refine wpAny_bind (wpAny_mkText (wpAny_bind (wpAny_attempt (wpAny_holding (wpAny_bind (L0.at (wpAny_bind (L1.at ?_))))))))
  show wpAny _ _ (if (onTheHeap (Value.ref D) && Value.builtin "BaseException.__getattribute__" == Value.builtin "object.__getattribute__") = true then _ else _) _ _ _
  rw [hx1, if_neg Bool.false_ne_true]
  unfold getAttrByItsOwn hookBefore
  refine wpAny_bind ?_
  rw [if_pos (show onTheHeap (Value.ref D) = true from rfl)]
  refine L2.at ?_
  refine wpAny_bind (wpAny_attempt (wpAny_holding ?_))
  unfold callGetattribute
  rw [hx0, if_neg Bool.false_ne_true]
  unfold boundAndCalled
  rw [PySem.F.excAttr_ValueError.ga.bind (.ref x)]
  refine wpAny_bind (wpAny_pure ?_)
  show wpAny _ _ (call (.builtin "BaseException.__getattribute__") [.ref x, .str "__class__" t]) _ _ _
  refine wpAny_call (codeAny_call_builtin PySem.F.excAttr_ValueError.ga.plain PySem.F.entry_bexc_ga ?_)
  refine @PySem.W.check_slot (model prog w) _ _ ⟨hp, g, d, t + 1, os⟩ "BaseException.__getattribute__" "BaseException" "__getattribute__" (.ref x) [.str "__class__" t] [] _ (by decide +kernel) (by decide +kernel) sub (PySem.F.args_bexc_ga (.ref x) (.str "__class__" t)) ?_
  unfold Builtin.«object.__getattribute__»
  refine wpAny_bind (wpAny_of_eq (a := ((Value.ref x : Value), [Value.str "__class__" t])) (by first | rfl | (simp only [slotArgs]; rfl)) ?_)
  refine wpAny_bind (wpAny_pure (wpAny_bind (L0.at (wpAny_bind (L3.at ?_)))))
  show wpAny _ _ (holding [Value.builtin "object.__class__"] (call (.builtin "getset_descriptor.__get__") [.builtin "object.__class__", .ref x, .ref D]) >>= ret) _ _ _
  refine wpAny_bind (wpAny_holding (wpAny_call (PySem.W.class_get (s := ⟨hp, g, d, t + 1, os⟩) (ox := ox) (od := od) X I hm ?_)))
  refine wpAny_pure ?_
  show wpAny _ _ (handedOut (.ref D)) _ _ _
  rw [PySem.W.handedOut_of (v := .ref D) rfl]
  first
    | exact wpAny_pure (wpAny_pure h)
    | exact wpAny_pure h
    | exact wpAny_pure (wpAny_bind (wpAny_pure (wpAny_pure h)))
theorem ExcC.find {K : PySem.W.Frag} {D : Addr} (c : ExcC K D) (od : Option Obj) : PySem.W.findObj K D od "__class__" = some (.bind (.builtin "getset_descriptor.__get__") (.builtin "object.__class__")) := by
  have hc : (PySem.W.clsIn K D).isSome = true := by
    have h := c.hd
    obtain ⟨cd, hcd, _⟩ := PySem.W.any_some h
    rw [hcd]; rfl
  cases od with
  | none => exact PySem.W.findObj_dataN hc c.ha c.hn c.ht
  | some o => exact PySem.W.findObj_data hc c.ha c.hn c.ht
theorem kitx_excO {K : PySem.W.Frag} {D x : Addr} {ox : Obj} {od : Option Obj} (c : ExcC K D) : PySem.W.KitX K (.ref x) (.ref D) (fun h => PySem.W.InstAt h x ox D od) where
  ty := fun _ _ _ I => I.type
  it := fun _ _ X _ => by
    obtain ⟨cdD, hcD, _⟩ := PySem.W.any_some c.hd
    unfold PySem.W.clsIn at hcD
    split at hcD
    · rename_i c' d' cd' sl' ho
      intro A' Q' E' s' k q
      unfold isType loadHead
      exact wpAny_bind (wpAny_loadPart (k _ _ (X _ _ ho)) (wpAny_pure q))
    · cases hcD
  ne := fun h tp dd its n sl X htp => by
    obtain ⟨cdD, hcD, _⟩ := PySem.W.any_some c.hd
    refine Bool.eq_false_iff.mpr fun q => ?_
    have e : D = tp := Value.ref.inj (beq_iff_eq.mp q)
    subst e
    unfold PySem.W.clsIn at hcD
    split at hcD
    · rename_i c' d' cd' sl' ho
      have z := (X _ _ ho).symm.trans htp
      cases z
    · cases hcD
  ca := fun X I k => kin_classO c.hg c.hk c.hs (ExcC.find c od) c.hm X I k
/-- at a: an exception object of the class at C -/
def IsEx (H : Hp) (a C : Addr) : Prop := H a = some (ExO (.ref C) a) ∨ ∃ d fs, H a = some (exo a C (some d)) ∧ H d = some (exd d fs)
section
variable {X : Cx}
structure rIsX (K : PySem.W.Frag) (xs : List V) (H : Hp) (Q : VK) : Prop where
  h : ∃ (a C : Addr) (c : V) (cv : Value) (b : Bool), xs = [.ref a, c] ∧ IsEx H a C ∧ ExcC K C ∧ ClsV c cv ∧ PySem.W.kitOne K (.ref C) cv = some b ∧ Q (.bl b) H
theorem call_isX {K : PySem.W.Frag} (hK : X.K = K) : CallR X (.builtin "isinstance") (rIsX K) := by
  subst hK
  intro pins s σ H xs us Q I r h
  obtain ⟨a, C, c, cv, b, rfl, hx, ec, kc, e, q⟩ := h.h
  obtain ⟨u1, u2, rfl, r1, r2⟩ := vals2 r
  have e2 := kc.eq r2
  subst e2
  cases r1
  have fin : ∀ (ox : Obj) (od : Option Obj), PySem.W.InstAt s.heap a ox C od → wpAny (model X.prog X.w) X.A (call (.builtin "isinstance") [.ref a, u2]) (EP X pins σ Q) X.xe s := fun ox od J =>
    PySem.W.kia_one (kitx_excO ec) I.kIn J e (fun z => nomatch z) fun tk => ⟨.bl b, H, I.tok tk, rfl, q⟩
  rcases hx with hx | ⟨d, fs, h1, h2⟩
  · obtain ⟨⟨oe, vs, ho, ⟨z1, z2⟩, hd, _⟩, _, _⟩ := I.hok a _ hx
    obtain ⟨oc, od, oda, osl⟩ := oe
    dsimp only at z1 z2 hd
    subst z1 z2 hd
    exact fin _ none ⟨ho, rfl, rfl, trivial⟩
  · obtain ⟨t1, ho⟩ := exo_at I.hok h1
    obtain ⟨mA, ⟨oD, es, ep, hoD, _⟩, _⟩ := exd_at I.hok h2
    exact fin _ (some oD) ⟨ho, rfl, rfl, hoD⟩
/-- e.f, e an exception that is held as a value -/
structure rFld (K : PySem.W.Frag) (f : Str) (x : V) (H : Hp) (Q : VK) : Prop where
  h : ∃ (a C d : Addr) (fs : List (Str × V)) (v : V), x = .ref a ∧ XfC K C ∧ PySem.W.findIn K (.ref C) f = some none ∧ H a = some (exo a C (some d)) ∧ H d = some (exd d fs) ∧ fs.lookup f = some v ∧ Q v H
theorem pe_fldX {K : PySem.W.Frag} {e : Expr} {te : TE} {pos : Pos} {n : Str} (hK : X.K = K) (he : PE X e te) (hb : attributeBase e n X.env (eval e X.env) = eval e X.env := by rfl) :
    PE X (.Attribute e n pos) (fun σ H Q => te σ H fun x H1 => rFld K n x H1 Q) := by
  subst hK
  refine ⟨fun pins s σ H Q I h => ?_⟩
  refine attr_of hb (thn (he.run pins s σ H _ I h) fun u s1 hh => ?_)
  obtain ⟨x, H1, I1, rx, q⟩ := hh
  obtain ⟨a, C, d, fs, v, rfl, T, hno, h1, h2, l, q⟩ := q.h
  cases rx
  obtain ⟨t1, ho⟩ := exo_at I1.hok h1
  obtain ⟨mA, hns, hr⟩ := exd_at I1.hok h2
  obtain ⟨od, hod, hl⟩ := lookIn_ns hns
  obtain ⟨u, hu, ru⟩ := RelO.some_of (v := v) (o := mA n) (by rw [← l]; exact hr n)
  have J : PySem.W.InstAt s1.heap a _ C (some od) := ⟨ho, rfl, rfl, hod⟩
  exact HandSPX.exc_get I1.kIn J T.ga T.gg T.exC (PySem.W.findObj_own T.hdC hno rfl (by rw [hl, hu])) (handed_of ru) ⟨v, H1, I1.tok _, ru, q⟩
/-- C(e, ..), C's own __init__ keeping sp, held as a value -/
def tMkV (C : Addr) (sp : Sp) (ta : TA) : TE := fun σ H Q => ta σ H fun vs H1 => vs.length ≤ 1000 ∧ ∀ a, H1 a = none → sp (.ref a :: vs) (upd H1 a (exo a C none)) (fun v H2 => v = .non ∧ Q (.ref a) H2) (fun _ _ _ => False)
structure DfI (P : Program) (w : World) (K : PySem.W.Frag) (mg : Str → Option Value) (base : Heap) (x : Str) (C : Addr) (k : Nat) (ps : List Str) (sp : Sp) : Prop where
  ex : ∃ (fI : Addr) (fd : FuncData), OexC K C ∧ mg x = some (.ref C) ∧ PySem.W.findIn K (.ref C) "__init__" = some (some (.ref fI)) ∧ PySem.W.typeIn K (.ref fI) = some (.type "function") ∧ FnOk P w K mg base CX0 k fI fd ps sp ∧ Binds K fd ps []
theorem pe_mkV {x : Str} {C : Addr} {k : Nat} {ps : List Str} {sp : Sp} {e : Expr} {es : List Expr} {ta : TA} {p pos : Pos} {j : Nat} (D : DfI X.prog X.w X.K X.mg X.base x C k ps sp) (hr : Room j X.A) (hj : k + 1 ≤ j) (hg : Gl X x) (ha : PA X (e :: es) ta)
    (hdb : (x == ("__debug__" : Str)) = false := by decide) (he : starEach (e :: es) X.env = (false, eval e X.env) :: starEach es X.env := by rfl) (hpl : (backTo pos (starEach es X.env)).any (·.1) = false := by rfl) :
    PE X (.Call (.Name x p) (e :: es) [] pos) (tMkV C sp ta) := by
  obtain ⟨fI, fd, T, hm, iC, tI, F1, hb⟩ := D.ex
  have hr := hr.mono hj
  refine ⟨fun pins s σ H Q I h => ?_⟩
  obtain ⟨nm, q, N, bs, bm, sn, sub, ab, col, dd, k0, k1, k2, k3, k5, hC, hbm⟩ := T.cls
  refine wpAny_Call_Name_kw (ld_glob I hg hm ?_ hdb)
  refine PySem.W.callWith_K (h₀ := X.base) I.ok.mod.kin T.kC (thn (ha.run pos pins s σ H _ I h) fun us s1 ⟨vs, H1, I1, r1, hz, q1⟩ => ⟨I1.kIn, ?_⟩) he hpl
  show wpAny _ _ (call (.ref C) us) _ _ _
  obtain ⟨hp, g, dr, tk, os⟩ := s1
  have hsz : hp.objs.size ≤ hp.objs.size + 1 := Nat.le_succ _
  have hn : H1 (hp.objs.size + 1) = none := I1.hok.fresh hsz
  have hq := q1 (hp.objs.size + 1) hn
  have kk : ∀ b o, hp.get? b = some o → ((hp.push (PySem.W.kdv_tup us)).push (PySem.HandSPX.excO C hp.objs.size)).get? b = some o := fun b o e => Heap.get?_push_of_some _ (Heap.get?_push_of_some _ e)
  have hget : ((hp.push (PySem.W.kdv_tup us)).push (PySem.HandSPX.excO C hp.objs.size)).get? (hp.objs.size + 1) = some (PySem.HandSPX.excO C hp.objs.size) := by heap_get
  have I2 : Inv X pins σ (upd H1 (hp.objs.size + 1) (exo (hp.objs.size + 1) C none)) ⟨(hp.push (PySem.W.kdv_tup us)).push (PySem.HandSPX.excO C hp.objs.size), g, dr, tk, os⟩ :=
    I1.laid (t' := tk) (a := hp.objs.size + 1) (o := exo (hp.objs.size + 1) C none) (h' := (hp.push (PySem.W.kdv_tup us)).push (PySem.HandSPX.excO C hp.objs.size)) kk hsz (exo_ok hget)
  have r2 : Vals (V.ref (hp.objs.size + 1) :: vs) (Value.ref (hp.objs.size + 1) :: us) := .cons rfl r1
  have hl : (Value.ref (hp.objs.size + 1) :: us).length = ps.length := by
    have e := r2.length
    rw [F1.len _ _ _ _ hq] at e
    exact e.symm
  have hus : us.length ≤ sizeLine := by
    rw [← Paired.length r1, sizeLine_eq]
    omega
  have hb' := hb _ (Value.ref (hp.objs.size + 1) :: us) I2.kIn (by rw [List.append_nil]; exact hl)
  rw [List.append_nil] at hb'
  refine wpAny_call (PySem.HandSPX.call_own F.excBase_ValueError (fun Y => PySem.HandSPX.refsVE_contains Y bm hbm) (I1.kIn _ _ hC) (PySem.W.looks_findIn I1.kIn iC) (fun self => PySem.W.bind_fn I1.kIn self tI) hus
    (codeAny_mono (F1.run _ X.stack _ _ ⟨Value.ref (hp.objs.size + 1) :: us, []⟩ (Value.ref (hp.objs.size + 1) :: us) _ _ (fun _ _ _ => False) (hr.make C us []) (I2.env0.make C us []) hb' r2 hq) fun r s' hq' => ?_))
  cases r with
  | error er => exact hq'.elim
  | ok fl =>
    cases fl with
    | ret u =>
      obtain ⟨v, H2, J, rv, ev, q2⟩ := I2.after hq'
      subst ev
      exact ⟨rv, V.ref (hp.objs.size + 1), H2, J, rfl, q2⟩
    | next => exact False.elim hq'
    | brk => exact False.elim hq'
    | cont => exact False.elim hq'
/-- C(e), C without own __init__, held as a value -/
structure DfX (K : PySem.W.Frag) (mg : Str → Option Value) (x : Str) (C : Addr) : Prop where
  m : mg x = some (.ref C)
  x : PySem.W.excIn K C [.type "ValueError", .type "Exception", .type "BaseException", .type "object"] "ValueError.__new__" = true
  k : PySem.W.keepIn K (.ref C) = true
theorem pe_mkX {x : Str} {C : Addr} {e : Expr} {ta : TE} {p pos : Pos} (D : DfX X.K X.mg x C) (hg : Gl X x) (he : PE X e ta) (hs : starEach [e] X.env = (false, eval e X.env) :: starEach [] X.env := by rfl) (hdb : (x == ("__debug__" : Str)) = false := by decide) :
    PE X (.Call (.Name x p) [e] [] pos) (fun σ H Q => ta σ H fun _ H1 => ∀ a, H1 a = none → Q (.ref a) (upd H1 a (ExO (.ref C) a))) :=
  pe_exc1 F.excBase_ValueError D.x D.m D.k hg he hs hdb
theorem k_unl {K : PySem.W.Frag} {es : List Expr} {k : Nat} {t : TGs} {pos : Pos} (n : Nat) (hK : X.K = K) (hc : X.calm = true) (h : PGs X es t)
    (hn : (assignEach es X.env).length = n := by rfl) (hst : (assignEach es X.env).findIdx? (·.1) = none := by rfl) : PG X (.Tuple es k pos) (gUnl K n t) := by
  subst hK
  exact pg_unl hc h hn hst
end
/-- what the class says, as one Bool -/
def oexB (K : PySem.W.Frag) (C : Addr) : Bool := (match K.lookup C with
  | some ⟨.type "type", _, .cls cd, sl⟩ => (match cd.mro, sl.toList with
    | .ref C' :: bm, [_, _, _, _, some (.builtin n), _] => decide (C' = C) && decide (n = "ValueError.__new__") && cd.hasDict && !cd.hasDel && PySem.HandSPX.refsVE bm
    | _, _ => false)
  | _ => false) && decide (PySem.W.findIn K (.ref C) "__setattr__" = some (some (.builtin "object.__setattr__"))) && decide (PySem.W.subIn K (.ref C) (.type "BaseException") = some true) && decide (PySem.W.typeIn K (.ref C) = some (.type "type")) && PySem.W.keepIn K (.ref C)
theorem oexB_ok {K : PySem.W.Frag} {C : Addr} (h : oexB K C = true) : OexC K C := by
  unfold oexB at h
  simp only [Bool.and_eq_true, decide_eq_true_eq] at h
  obtain ⟨⟨⟨⟨h1, h2⟩, h3⟩, h4⟩, h5⟩ := h
  refine ⟨?_, h2, h3, h4, h5⟩
  split at h1
  · rename_i dd cd sl ho
    split at h1
    · rename_i C' bm k0 k1 k2 k3 n k5 hm hs
      simp only [Bool.and_eq_true, decide_eq_true_eq, Bool.not_eq_true'] at h1
      obtain ⟨⟨⟨⟨e1, e2⟩, hd⟩, hdel⟩, hr⟩ := h1
      subst e1 e2
      obtain ⟨nm, bs, mro, ns, qn, hdct, sn, sub, ab, col, del⟩ := cd
      dsimp only at hm hd hdel
      subst hm hd hdel
      have hsl : sl = #[k0, k1, k2, k3, some (.builtin "ValueError.__new__"), k5] := by
        obtain ⟨l⟩ := sl
        simp only at hs
        rw [hs]
      subst hsl
      exact ⟨nm, qn, ns, bs, bm, sn, sub, ab, col, dd, k0, k1, k2, k3, k5, ho, hr⟩
    · cases h1
  · cases h1
def excCB (K : PySem.W.Frag) (D : Addr) : Bool := decide (PySem.W.findIn K (.ref D) "__getattribute__" = some (some (.builtin "BaseException.__getattribute__"))) && decide (PySem.W.findIn K (.ref D) "__getattr__" = some none) && decide (PySem.W.subIn K (.ref D) (.type "BaseException") = some true) && PySem.W.hasDictIn K D &&
  decide (PySem.W.findIn K (.ref D) "__class__" = some (some (.builtin "object.__class__"))) && decide (PySem.W.specialIn K (.builtin "object.__class__") "__get__" = some (some (.builtin "getset_descriptor.__get__"))) && decide (PySem.W.takesIn K (.builtin "object.__class__") = some true) && decide (PySem.W.mroIn K D (.type "object") = some true)
theorem excCB_ok {K : PySem.W.Frag} {D : Addr} (h : excCB K D = true) : ExcC K D := by
  unfold excCB at h
  simp only [Bool.and_eq_true, decide_eq_true_eq] at h
  obtain ⟨⟨⟨⟨⟨⟨⟨h1, h2⟩, h3⟩, h4⟩, h5⟩, h6⟩, h7⟩, h8⟩ := h
  exact ⟨h1, h2, h3, h4, h5, h6, h7, h8⟩
theorem ExcC.xf {K : PySem.W.Frag} {D : Addr} (c : ExcC K D) : XfC K D := ⟨c.hg, c.hk, c.hs, c.hd⟩
end Vf
end
section
set_option Elab.async false
set_option linter.all false
set_option maxRecDepth 100000
set_option maxHeartbeats 4000000
/-! sum(elt for a, b in a tuple of pairs), elt quiet. -/
namespace Vf
open PySem PySem.Spec PyProof.Rows L2 GxR GenW RZ
theorem walkPairsT {prog : Program} {w : World} {A : Around} (hh : A.handled = none) (I ax : Addr) (hne : ax ≠ I) (items : Array Value) (Ts : Nat → Addr) (vals : Nat → Array Value)
    (hit : ∀ j, j < items.size → items[j]? = some (.ref (Ts j))) (hTI : ∀ j, j < items.size → Ts j ≠ I) :
    WalksU prog w A I (I :: ax :: (List.range items.size).map Ts) [I] items.size (fun j v => v = vals j ∧ j < items.size)
      (fun j h => h.IsTupleIter I ax j ∧ h.IsTuple ax items ∧ ∀ k, k < items.size → h.IsTuple (Ts k) (vals k))
      (fun j T h => (j < items.size ∧ T = Ts j) ∧ h.IsTupleIter I ax (j + 1) ∧ h.IsTuple ax items ∧ ∀ k, k < items.size → h.IsTuple (Ts k) (vals k)) where
  sub := fun b hb => by simp at hb; simp [hb]
  frame := fun _ _ _ st hk => ⟨st.1.at fun o e => hk I (by simp) o e, st.2.1.at fun o e => hk ax (by simp) o e,
    fun k hk' => (st.2.2 k hk').at fun o e => hk (Ts k) (List.mem_cons_of_mem _ (List.mem_cons_of_mem _ (List.mem_map.mpr ⟨k, List.mem_range.mpr hk', rfl⟩))) o e⟩
  item := fun i s Q E hi st hQ => by
    refine wpAny_pyNext_tuple_item st.1 st.2.1 (x := .ref (Ts i)) (hit i hi) fun h' hit' hs' => ?_
    have tup : ∀ k, k < items.size → h'.IsTuple (Ts k) (vals k) := fun k hk' => (st.2.2 k hk').extBut hs'.extBut (hTI k hk')
    exact hQ (Ts i) (vals i) h' s.toks ⟨rfl, hi⟩ (tup i hi) ⟨⟨hi, rfl⟩, hit', st.2.1.extBut hs'.extBut hne, tup⟩ fun b o hb e => hs'.extBut b o (fun h => hb (by simp [h])) e
  go := fun _ _ _ _ _ s Q _ hm hQ => letGo_tupleiter hm.2.1 (hQ s.heap hm.2 fun _ _ _ e => e)
  apart := fun j T _ hm hmem => by
    rcases List.mem_cons.mp hmem with e | e
    · exact hTI j hm.1.1 (hm.1.2 ▸ e)
    · cases e
  done := fun s Q E st hQ => wpAny_pyNext_tuple_end hh st.1 st.2.1 (by simp) fun h' he' => hQ h' s.toks fun b o hb e => he' b o (fun h => hb (by simp [h])) e
  self := fun _ _ _ _ st hQ => wpAny_pyIter_tupleiter st.1 hQ

/-- a generator expression's own scope, of two names -/
structure GenS2 (env : Env) (scope : Scope) (xa xb : Str) : Prop where
  kind : scope.kind = .function
  co : scope.isCoroutine = false
  cell : ∀ y ∈ scope.names, y.2 ≠ .cell
  dot : scope.names.lookup (".0" : Str) = some NameKind.local
  locA : scope.names.lookup xa = some .local
  locB : scope.names.lookup xb = some .local
  ne : xa ≠ xb
  free : ∀ y ∈ scope.names, y.2 = .free → ∃ c, env.cells.lookup y.1 = some c
/-- the element: of a pair of which the first is v with Pz the int f v -/
def EltI (prog : Program) (w : World) (mg : Str → Option Value) (scope : Scope) (xa xb : Str) (elt : Expr) (Pz : V → Prop) (f : V → Int) : Prop :=
  ∀ (cenv : Env) (A' : Around) (E' : Value → Shared → Prop) (v : V) (ua ub : Value) (s₂ : Shared) (m₂ mb : Str → Option Value), cenv.scope = scope → cenv.globals = mainGlobals → cenv.builtins = builtinsNs → s₂.heap.Ns mainGlobals mg → s₂.heap.Ns builtinsNs mb → (∀ x : Str, x ≠ "__name__" → mb x = bootBuiltins x) →
    Pz v → RelV v ua → s₂.heap.Ns cenv.locals m₂ → m₂ xa = some ua → m₂ xb = some ub → wpAny (model prog w) A' (eval elt cenv) (fun y s₃ => (∃ t', y = .int (f v) t') ∧ Keeps s₂ s₃) E' s₂
/-- the pairs at the places ps -/
def Prs (K : PySem.W.Frag) (H : Hp) : List V → List (V × V) → Prop
  | [], [] => True
  | x :: xs, p :: ps => (∃ b, x = .ref b ∧ SqT K H b [p.1, p.2]) ∧ Prs K H xs ps
  | _, _ => False
theorem Prs.at {K : PySem.W.Frag} {H : Hp} : ∀ {xs : List V} {ps : List (V × V)}, Prs K H xs ps → ∀ {j : Nat} {x : V}, xs[j]? = some x → ∃ b p, x = .ref b ∧ ps[j]? = some p ∧ SqT K H b [p.1, p.2]
  | [], [], _, j, x, h => by simp at h
  | x :: xs, p :: ps, ⟨⟨b, e, s⟩, _⟩, 0, y, h => ⟨b, p, (Option.some.inj h).symm.trans e, rfl, s⟩
  | x :: xs, p :: ps, ⟨_, r⟩, j + 1, y, h => Prs.at r (show xs[j]? = some y from h)
theorem Prs.len {K : PySem.W.Frag} {H : Hp} : ∀ {xs : List V} {ps : List (V × V)}, Prs K H xs ps → xs.length = ps.length
  | [], [], _ => rfl
  | x :: xs, p :: ps, ⟨_, r⟩ => by
    show xs.length + 1 = ps.length + 1
    rw [Prs.len r]
section
variable {X : Cx} {pins : List (Addr × Obj)} {σ : L2.St} {H : Hp} {s : Shared}
def ReadyI (X : Cx) (pins : List (Addr × Obj)) (σ : L2.St) (H1 : Hp) (P : Addr) (ps : List (V × V)) (f : V → Int) (g : Addr) (s5 : Shared) : Prop :=
  ∃ (fp wr : List Addr) (G : Array GenState → Array GenState → Prop) (F : Nat → Value → Prop) (St : Nat → Shared → Prop),
    WalksS X.prog X.w X.A.in1 g fp wr G ps.length F St ∧ St 0 s5 ∧ (∀ b ∈ fp, b < s5.heap.objs.size) ∧ g ∈ fp ∧ (∀ i s9, St i s9 → s9.TypeIs (.ref g) "generator") ∧
    (∀ j v, F j v → ∃ (p : V × V) (t : Tok), ps[j]? = some p ∧ v = .int (f p.1) t) ∧
    ∀ s', Moved wr G s5 s' → ∃ H2, Tabb P H1 H2 ∧ Inv X pins σ H2 s'
theorem gen_prs {c P : Addr} {elt iter : Expr} {xa xb : Str} {pa pb pt : Pos} {kt : Nat} {gpos : Pos} {scope : Scope} {Pz : V → Prop} {f : V → Int} {te : TE} {k : Nat} {Q' : Value → Shared → Prop} {R : List (V × V) → Hp → Prop}
    (hr : Room k X.A) (TB : GxR.TabB X.base X.mg c P) (hcode : X.env.code = .ref c) (S : GenS2 X.env scope xa xb) (hi : PE X iter te) (hel : EltI X.prog X.w X.mg scope xa xb elt Pz f)
    (hs : ∀ v, genFold iter X.env v = pure v) (I : Inv X pins σ H s) (h : te σ H fun v H1 => ∃ (yl : Addr) (xs : List V) (ps : List (V × V)), v = .ref yl ∧ SqT X.K H1 yl xs ∧ Prs X.K H1 xs ps ∧ (∀ p ∈ ps, Pz p.1) ∧ GxR.TabG H1 P ∧ R ps H1)
    (hQ : ∀ ps H1 g s5, R ps H1 → ReadyI X pins σ H1 P ps f g s5 → Q' (.ref g) s5) :
    wpAny (model X.prog X.w) X.A (eval (.GeneratorExp elt [⟨.Tuple [.Name xa pa, .Name xb pb] kt pt, iter, [], 0⟩] scope gpos) X.env) Q' X.xe s := by
  refine wpAny_GeneratorExp_walksQT hr.hd S.co (closure_ok S.free) S.cell S.dot S.locA S.locB S.ne S.kind (by have := hr.dp; omega) ?_ hs
  refine thn (hi.run pins s σ H _ I h) fun xv s1 ⟨v, H1, I1, r1, q1⟩ => ?_
  obtain ⟨yl, xs, prs, rfl, hyl, hpr, hPz, ⟨ps, hP, ht⟩, q1⟩ := q1
  obtain rfl : xv = Value.ref yl := r1
  obtain ⟨its, rv, hIL, hz⟩ := I1.tuple hyl
  have hlen : its.length = prs.length := by rw [← rv.length, hpr.len]
  have hat : ∀ j, j < its.toArray.size → ∃ (b : Addr) (ua ub : Value) (p : V × V), its.toArray[j]? = some (.ref b) ∧ s1.heap.IsTuple b #[ua, ub] ∧ prs[j]? = some p ∧ RelV p.1 ua := fun j hj => by
    have hj2 : j < xs.length := by
      rw [rv.length]
      simpa using hj
    obtain ⟨b, p, ex, hp, sb⟩ := hpr.at (List.getElem?_eq_getElem hj2)
    obtain ⟨u, hu, ru⟩ := rv.get (List.getElem?_eq_getElem hj2)
    rw [ex] at ru
    cases ru
    obtain ⟨it2, rv2, tb, _⟩ := I1.tuple sb
    cases rv2 with
    | cons ra r2 =>
      cases r2 with
      | cons rb r3 =>
        cases r3
        exact ⟨b, _, _, p, by simpa using hu, tb, hp, ra⟩
  refine wpAny_pyIter_tuple hIL ?_
  generalize ho : ({ cls := .type "tuple_iterator", data := .fields #[.ref yl, .int 0 0] } : Obj) = o
  have hitr : (s1.heap.push o).IsTupleIter s1.heap.objs.size yl 0 := by
    subst ho
    exact ⟨_, Heap.get?_push_size _ rfl, rfl, rfl⟩
  have hylt : yl < s1.heap.objs.size := by
    obtain ⟨_, e, _⟩ := _root_.id hIL
    exact Heap.lt_size e
  have hPs : s1.heap.get? P = some { cls := .none, data := .fields ps } := I1.hok P _ hP
  have hPlt : P < s1.heap.objs.size := Heap.lt_size hPs
  have hP2 : (s1.heap.push o).get? P = some { cls := .none, data := .fields ps } := Heap.get?_push_of_some _ hPs
  have cd : PySem.W.CodeHd (s1.heap.push o) c P := TB.code.keeps fun b u e => Heap.get?_push_of_some _ (I1.bk b u e)
  have lim2 : (s1.heap.push o).NoLimit := I1.nolimit.push o
  -- the pairs' objects
  obtain ⟨Ts, vals, hTs⟩ : ∃ (Ts : Nat → Addr) (vals : Nat → Array Value), ∀ j, j < its.toArray.size → ∃ (ua ub : Value) (p : V × V), its.toArray[j]? = some (.ref (Ts j)) ∧ s1.heap.IsTuple (Ts j) (vals j) ∧ vals j = #[ua, ub] ∧ prs[j]? = some p ∧ RelV p.1 ua := by
    have key : ∀ j, ∃ q : Addr × Array Value, j < its.toArray.size → ∃ (ua ub : Value) (p : V × V), its.toArray[j]? = some (.ref q.1) ∧ s1.heap.IsTuple q.1 q.2 ∧ q.2 = #[ua, ub] ∧ prs[j]? = some p ∧ RelV p.1 ua := fun j => by
      by_cases hj : j < its.toArray.size
      · obtain ⟨b, ua, ub, p, e1, e2, e3, e4⟩ := hat j hj
        exact ⟨(b, #[ua, ub]), fun _ => ⟨ua, ub, p, e1, e2, rfl, e3, e4⟩⟩
      · exact ⟨(0, #[]), fun h => absurd h hj⟩
    exact ⟨fun j => (Classical.choose (key j)).1, fun j => (Classical.choose (key j)).2, fun j hj => Classical.choose_spec (key j) hj⟩
  obtain ⟨mb, bl1, bl2⟩ := I1.mod.blt
  have nsP : ∀ {b : Addr} {m : Str → Option Value}, s1.heap.Ns b m → b ≠ P := fun {b m} hn z => by
    obtain ⟨o', es, ep, e1, e2, _⟩ := hn
    rw [z, hPs] at e1
    cases e1
    cases e2
  have tupP : ∀ {b : Addr} {vs : Array Value}, s1.heap.IsTuple b vs → b ≠ P := fun {b vs} hn z => by
    obtain ⟨o', e1, _, n, e2⟩ := hn
    rw [z, hPs] at e1
    cases e1
    cases e2
  have cont : ∀ (code : Value) (h3 : Heap) (tk : Nat) (ps' : Array Value), Heap.ExtBut P (s1.heap.push o) h3 → (s1.heap.push o).objs.size ≤ h3.objs.size → h3.get? P = some { cls := .none, data := .fields ps' } → (∃ more, ps' = ps ++ more) → TriplesOk ps'.toList →
      wpAny (model X.prog X.w) X.A (builtinsFor X.env.globals X.env.builtins) (fun bi s₄ =>
        ∃ Ia fp wr n₀ Pt St₀ Mid pz F, Value.ref s1.heap.objs.size = .ref Ia ∧ (∀ A' : Around, A'.handled = none → WalksU X.prog X.w A' Ia fp wr n₀ Pt St₀ Mid) ∧ (∀ i vals, Pt i vals → ∃ va vb, vals = #[va, vb]) ∧ St₀ 0 s₄.heap ∧ (∀ b ∈ fp, b < s₄.heap.objs.size) ∧ s₄.heap.NoLimit ∧ cStatics ∉ wr ∧
          (∀ href : Heap, (∀ b o, s₄.heap.get? b = some o → href.get? b = some o) →
            QuietGenT X.prog X.w (genEnv scope (cloFrom X.env.cells scope.names []) s₄.heap.objs.size code bi X.env) xa xb [] elt (List.range s₄.heap.objs.size) wr Pt pz F href) ∧
          (∀ a h₅ tk gs, gs.bare = true → s₄.heap.objs.size < a → h₅.objs.size = a + 1 → (∀ b o, s₄.heap.get? b = some o → h₅.get? b = some o) →
            WalksS X.prog X.w X.A.in4 a (a :: s₄.heap.objs.size :: List.range s₄.heap.objs.size) (s₄.heap.objs.size :: wr) (GenOnlyQ s₄.gens.size) (passing pz n₀ 0).length
              (fun j y => ∃ i, (passing pz n₀ 0)[j]? = some i ∧ F i y) (GenAt X.prog X.w X.A.in4 a s₄.gens.size s₄.heap.objs.size (List.range s₄.heap.objs.size) wr pz n₀ F) →
            GenAt X.prog X.w X.A.in4 a s₄.gens.size s₄.heap.objs.size (List.range s₄.heap.objs.size) wr pz n₀ F 0 { s₄ with gens := s₄.gens.push gs, toks := tk, heap := h₅ } →
            Q' (.ref a) { s₄ with gens := s₄.gens.push gs, toks := tk, heap := h₅ })) X.xe { s1 with heap := h3, toks := tk } := by
    intro code h3 tk ps' hx hsz hP3 hmore ht3
    obtain ⟨bm, ob, e1, e2, e3, e4, e5, e6, e7, e8⟩ := TB.bm
    have hcP : cStatics ≠ P := fun e => by
      obtain ⟨_, hns, _⟩ := I1.nolimit
      obtain ⟨o', es, ep, ho, hd, _⟩ := hns
      rw [e, hPs] at ho
      cases ho
      cases hd
    have hcl : cStatics < s1.heap.objs.size := let ⟨_, hns, _⟩ := I1.nolimit; hns.lt
    have sz2 : (s1.heap.push o).objs.size = s1.heap.objs.size + 1 := Heap.size_push ..
    have keep3 : ∀ b u, b ≠ P → s1.heap.get? b = some u → h3.get? b = some u := fun b u hb e => hx b u hb (Heap.get?_push_of_some _ e)
    refine wpAny_builtinsFor (m := X.mg) (by rw [I1.ok.glob]; exact ((I1.mod.glob.keeps I1.bk).push o).extBut hx TB.gP) e1 e2 (keep3 _ _ e4 (I1.bk _ _ e5)) e6 e7 e8 ?_
    have hIL3 : h3.IsTuple yl its.toArray := by
      obtain ⟨ob, e, r⟩ := _root_.id hIL
      exact ⟨ob, keep3 _ _ (tupP hIL) e, r⟩
    have hTup3 : ∀ j, j < its.toArray.size → h3.IsTuple (Ts j) (vals j) := fun j hj => by
      obtain ⟨_, _, _, _, t2, _⟩ := hTs j hj
      have t2' := t2
      obtain ⟨ob, e, r⟩ := t2
      exact ⟨ob, keep3 _ _ (tupP t2') e, r⟩
    have hItr3 : h3.IsTupleIter s1.heap.objs.size yl 0 := hitr.at fun u e => hx _ u (Nat.ne_of_gt hPlt) e
    have hTlt : ∀ j, j < its.toArray.size → Ts j < s1.heap.objs.size := fun j hj => by
      obtain ⟨_, _, _, _, ⟨ob, e, _⟩, _⟩ := hTs j hj
      exact Heap.lt_size e
    refine ⟨s1.heap.objs.size, s1.heap.objs.size :: yl :: (List.range its.toArray.size).map Ts, [s1.heap.objs.size], its.toArray.size, (fun j v => v = vals j ∧ j < its.toArray.size),
      (fun j h => h.IsTupleIter s1.heap.objs.size yl j ∧ h.IsTuple yl its.toArray ∧ ∀ k, k < its.toArray.size → h.IsTuple (Ts k) (vals k)),
      (fun j T h => (j < its.toArray.size ∧ T = Ts j) ∧ h.IsTupleIter s1.heap.objs.size yl (j + 1) ∧ h.IsTuple yl its.toArray ∧ ∀ k, k < its.toArray.size → h.IsTuple (Ts k) (vals k)), (fun _ => true),
      (fun i y => ∃ (p : V × V) (t : Tok), prs[i]? = some p ∧ y = .int (f p.1) t), rfl, (fun A' hA => walkPairsT hA _ _ (Nat.ne_of_lt hylt) its.toArray Ts vals (fun j hj => (hTs j hj).elim fun _ z => z.elim fun _ z => z.elim fun _ z => z.1) (fun j hj => Nat.ne_of_lt (hTlt j hj))), ?_, ⟨hItr3, hIL3, hTup3⟩, ?_, lim2.extBut hx hcP, ?_, ?_, ?_⟩
    · rintro i vs ⟨rfl, hi⟩
      obtain ⟨ua, ub, _, _, _, e, _⟩ := hTs i hi
      exact ⟨ua, ub, e⟩
    · intro b hb
      rcases List.mem_cons.mp hb with z | z
      · rw [z]
        show s1.heap.objs.size < h3.objs.size
        omega
      · have e9 : s1.heap.objs.size ≤ h3.objs.size := by omega
        rcases List.mem_cons.mp z with z | z
        · rw [z]
          exact Nat.lt_of_lt_of_le hylt e9
        · obtain ⟨j, hj, rfl⟩ := List.mem_map.mp z
          exact Nat.lt_of_lt_of_le (hTlt j (List.mem_range.mp hj)) e9
    · intro z
      rcases List.mem_cons.mp z with z | z
      · exact Nat.ne_of_lt hcl z
      · cases z
    · intro href hhref
      refine ⟨fun A' E' i va vb s₂ m₂ hA hPv hn hma hmb hk => ?_, fun A' E' i va vb s₂ m₂ hA hPv hp hn hma hmb hk => ?_⟩
      · simp only [List.forIn_nil]
        exact wpAny_pure ⟨rfl, GxR.keeps_refl _⟩
      · obtain ⟨ev, hi⟩ := hPv
        obtain ⟨ua, ub, p, _, _, e, hp2, rp⟩ := hTs i hi
        rw [e] at ev
        have ea : va = ua := by
          have := congrArg (fun z : Array Value => z[0]?) ev
          simpa using this
        subst ea
        have stay : ∀ {b : Addr} {m : Str → Option Value}, s1.heap.Ns b m → s₂.heap.Ns b m := fun {b m} hn1 => by
          have hbP := nsP hn1
          have hblt := hn1.lt
          refine hn1.at' fun o' e' => hk b ?_ ?_ o' (hhref b o' (keep3 b o' hbP e'))
          · refine List.mem_range.mpr ?_
            have e9 : s1.heap.objs.size ≤ h3.objs.size := by omega
            exact Nat.lt_of_lt_of_le hblt e9
          · intro z
            rcases List.mem_cons.mp z with z | z
            · rw [z] at hblt
              exact Nat.lt_irrefl _ hblt
            · cases z
        refine wpAny_mono (hel _ A' E' p.1 va vb s₂ m₂ mb rfl (by show X.env.globals = _; rw [I1.ok.glob]) rfl (stay (I1.mod.glob.keeps I1.bk)) (stay (bl1.keeps I1.bk)) bl2 (hPz p (List.mem_of_getElem? hp2)) rp hn hma hmb) (fun y s3 r => ?_) fun _ _ e => e
        obtain ⟨⟨t, e⟩, kp⟩ := r
        exact ⟨⟨p, t, hp2, e⟩, kp⟩
    · intro g h5 tk5 gs hgb hag hsz5 hk5 W5 hgat
      simp only [GxR.passing_true, List.length_range] at W5
      have hn5 : its.toArray.size = prs.length := by rw [List.size_toArray, hlen]
      rw [hn5] at W5 hgat
      refine hQ prs H1 g _ q1 ⟨_, _, _, _, _, W5.in4_1, hgat, ?_, List.mem_cons_self, fun i s9 h9 => ?_, ?_, fun s' hm => ?_⟩
      · intro b hb
        show b < h5.objs.size
        have e5 : h5.objs.size = g + 1 := hsz5
        have h8 : h3.objs.size < g := hag
        rw [e5]
        rcases List.mem_cons.mp hb with z | z
        · rw [z]
          exact Nat.lt_succ_self g
        · rcases List.mem_cons.mp z with z | z
          · rw [z]
            exact Nat.lt_succ_of_lt h8
          · have z2 := List.mem_range.mp z
            have h7 : b < h3.objs.size := z2
            exact Nat.lt_succ_of_lt (Nat.lt_trans h7 h8)
      · obtain ⟨hg9, _⟩ := h9
        exact hg9.typeIs
      · intro j v hv
        obtain ⟨i, hij, a, t, ha, e⟩ := hv
        obtain ⟨hj, ej⟩ := List.getElem?_eq_some_iff.mp hij
        rw [List.getElem_range] at ej
        subst ej
        exact ⟨a, t, ha, e⟩
      · obtain ⟨more, em⟩ := hmore
        have nwr : ∀ b u, s1.heap.get? b = some u → b ∉ h3.objs.size :: [s1.heap.objs.size] := fun b u e hb => by
          have hl := Heap.lt_size e
          rcases List.mem_cons.mp hb with z | z
          · rw [z] at hl
            have h9 : (h3.objs.size : Nat) < s1.heap.objs.size := hl
            omega
          · rcases List.mem_cons.mp z with z | z
            · rw [z] at hl
              exact Nat.lt_irrefl _ hl
            · cases z
        have J := GxR.inv_tab (more := more) (h' := s'.heap) (g' := s'.gens) (d' := s'.drawn) (t' := s'.toks) I1 hP (fun b u hb e => hm.heap b u (nwr b u e) (hk5 b u (keep3 b u hb e)))
          (by rw [← em]; exact hm.heap P _ (nwr P _ hPs) (hk5 P _ hP3)) (AllBare.movedS (I1.bare.push hgb) hm)
        rw [GxR.sh_eta s1 s' hm.os] at J
        exact ⟨upd H1 P (.tbl (ps ++ more)), ⟨ps, more, hP, ht, by rw [← em]; exact ht3, rfl⟩, J⟩
  refine ⟨lim2, ?_⟩
  cases hf : codeAmong gpos ps.toList with
  | none =>
    refine wpAny_genexprCodeX hcode (cd.code hP2 ht) (cd.tab hP2) hf fun c' h' tk hx hge hlt hco' _ htab' _ => ?_
    obtain ⟨o1, vs, f1, tf, fl, tg, inF, tx, tt, op, _, _, _, _, _, _, _, _, _, htr, _⟩ := hco'
    exact cont _ h' tk _ hx (Nat.le_trans hge (Nat.le_of_lt hlt)) htab'.2 ⟨_, rfl⟩ htr
  | some cv =>
    refine wpAny_genexprCode_hit hcode (cd.code hP2 ht) hf ?_
    exact cont cv (s1.heap.push o) s1.toks ps (Heap.ExtBut.refl _ _) (Nat.le_refl _) hP2 ⟨#[], by simp⟩ ht
/-- sum(elt for a, b in iter) -/
def tSumG (K : PySem.W.Frag) (P : Addr) (Pz : V → Prop) (f : V → Int) (te : TE) : TE := fun σ H Q => te σ H fun v H1 => ∃ (yl : Addr) (xs : List V) (ps : List (V × V)), v = .ref yl ∧ SqT K H1 yl xs ∧ Prs K H1 xs ps ∧ (∀ p ∈ ps, Pz p.1) ∧ GxR.TabG H1 P ∧ ∀ H2, Tabb P H1 H2 → Q (.int ((ps.map fun p => f p.1).sum)) H2
theorem preSum_sum (ps : List (V × V)) (f : V → Int) : ∀ n, n ≤ ps.length → preSum (fun j => ((ps[j]?).map fun p => f p.1).getD 0) n = ((ps.take n).map fun p => f p.1).sum
  | 0, _ => rfl
  | n + 1, h => by
    have hn : n < ps.length := h
    rw [List.take_succ, List.getElem?_eq_getElem hn, List.map_append, List.sum_append, ← preSum_sum ps f n (Nat.le_of_lt hn)]
    show preSum _ n + ((ps[n]?).map fun p => f p.1).getD 0 = _
    rw [List.getElem?_eq_getElem hn]
    simp
theorem pe_sumG {P : Addr} {elt iter : Expr} {xa xb : Str} {pa pb pt : Pos} {kt : Nat} {gpos p pos : Pos} {scope : Scope} {Pz : V → Prop} {f : V → Int} {te : TE} {k : Nat} {K : PySem.W.Frag} (hK : X.K = K)
    (hr : Room k X.A) (hg : Gl X "sum") (hm : X.mg "sum" = none) (hb : bootBuiltins "sum" = some (.builtin "sum")) {c : Addr} (TB : GxR.TabB X.base X.mg c P) (hcode : X.env.code = .ref c) (S : GenS2 X.env scope xa xb) (hi : PE X iter te) (hel : EltI X.prog X.w X.mg scope xa xb elt Pz f)
    (hs : ∀ v, genFold iter X.env v = pure v)
    (he : starEach [.GeneratorExp elt [⟨.Tuple [.Name xa pa, .Name xb pb] kt pt, iter, [], 0⟩] scope gpos] X.env = (false, eval (.GeneratorExp elt [⟨.Tuple [.Name xa pa, .Name xb pb] kt pt, iter, [], 0⟩] scope gpos) X.env) :: starEach [] X.env := by rfl)
    (hpl : (backTo pos (starEach [] X.env)).any (·.1) = false := by rfl) :
    PE X (.Call (.Name "sum" p) [.GeneratorExp elt [⟨.Tuple [.Name xa pa, .Name xb pb] kt pt, iter, [], 0⟩] scope gpos] [] pos) (tSumG K P Pz f te) := by
  subst hK
  refine ⟨fun pins s σ H Q I h => ?_⟩
  refine wpAny_Call_Name_kw (ld_blt I hg hm hb ?_ (by decide) (by decide))
  refine PyProof.Rows.callWith_builtin1 ?_ he hpl
  rw [he]
  show wpAny _ _ (spliced ((false, eval (.GeneratorExp elt [⟨.Tuple [.Name xa pa, .Name xb pb] kt pt, iter, [], 0⟩] scope gpos) X.env) :: backTo pos (starEach [] X.env))) _ _ s
  refine Calls.spliced_cons (gen_prs (R := fun (ps : List (V × V)) (H1 : Hp) => ∀ H2, Tabb P H1 H2 → Q (.int ((ps.map fun (z : V × V) => f z.1).sum)) H2) hr TB hcode S hi hel hs I h fun ps H1 g s5 hR hG => ?_)
  refine Calls.spliced_nil ?_
  obtain ⟨fp, wr, G, F, St, W, hst, hfp, hgf, hT, hF, hinv⟩ := hG
  refine call_sum_walkAnyS (W.self 0 _ _ _ hst ⟨g, fp, wr, G, ps.length, F, St, (fun j => ((ps[j]?).map fun p => f p.1).getD 0), rfl, W, hst, hfp, fun i v hv => ?_, fun s' t' hm => ?_⟩)
  · obtain ⟨p, t, hp, rfl⟩ := hF i v hv
    refine ⟨t, ?_⟩
    show Value.int (f p.1) t = Value.int (((ps[i]?).map fun p => f p.1).getD 0) t
    rw [hp]; rfl
  · obtain ⟨H2, ht, J⟩ := hinv s' hm
    rw [preSum_sum ps f _ (Nat.le_refl _), List.take_length]
    exact ⟨.int _, H2, J, ⟨t', rfl⟩, hR H2 ht⟩
end
/-- len(a) of a text -/
def lenI : V → Int
  | .str x => x.length
  | _ => 0
theorem elt_len {prog : Program} {w : World} {mg : Str → Option Value} {scope : Scope} {x xb : Str} {p1 p2 p3 : Pos} (hk : scope.kind = .function) (hl : scope.names.lookup x = some .local) (hgl : scope.names.lookup ("len" : Str) = some .globalImplicit) (hm : mg "len" = none) (hd : (x == ("__debug__" : Str)) = false := by decide)  :
    EltI prog w mg scope x xb (.Call (.Name "len" p1) [.Name x p2] [] p3) (fun v => ∃ y : Str, v = .str y ∧ y.length ≤ sizeLine) lenI := by
  intro cenv A' E' v ua ub s₂ m₂ mb hs hg hb hn1 hn2 hmb hz rv hn hma hmb2
  obtain ⟨y, rfl, hy⟩ := hz
  obtain ⟨t, rfl⟩ := (show ∃ t, ua = Value.str y t from rv)
  have hk' : cenv.scope.kind = .function := by rw [hs]; exact hk
  refine wpAny_Call_Name_kw (Calls.Name_function_global hk' (show cenv.scope.names.lookup ("len" : Str) = some .globalImplicit by rw [hs]; exact hgl) (Calls.loadGlobal_builtin (by rw [hg]; exact hn1) hm (by rw [hb]; exact hn2) ((hmb "len" (by decide)).trans (show bootBuiltins "len" = some (.builtin "len") by decide +kernel)) ?_))
  refine PyProof.Rows.callWith_builtin1 ?_ (by rfl) (by rfl)
  show wpAny _ _ (spliced ((false, eval (.Name x p2) cenv) :: backTo p3 (starEach [] cenv))) _ _ s₂
  refine Calls.spliced_cons (wpAny_Name (wpAny_loadName_local hk' (show cenv.scope.names.lookup x = some .local by rw [hs]; exact hl) hn hma ?_) hd)
  refine Calls.spliced_nil ?_
  have hl63 := line63
  have hsz : sizeLine = 16777216 := sizeLine_eq
  exact len_str (by omega) ⟨⟨_, rfl⟩, keeps_tok _ _⟩
end Vf
end
section
set_option Elab.async false
set_option linter.all false
set_option maxRecDepth 100000
set_option maxHeartbeats 4000000
/-! != of any data with a text. -/
namespace PySem
open PySem.SeqAt PySem.MeetsSeq
theorem vf_dict_ne_declines_str (l : Addr) (x : Str) (t : Tok) (ob : Obj) (hc : ob.cls = .type "dict") :
    Meets (Builtin.«dict.__ne__» ⟨[.ref l, .str x t], []⟩) (fun _ R s => s.heap.get? l = some ob ∧ R (.ok (.ret .notImplemented)) s) :=
  .of_wp fun prog w A R s h => by obtain ⟨hp, g, d, tk, os⟩ := s; obtain ⟨hl, h⟩ := h; obtain ⟨oc, od, oda, osl⟩ := ob; dsimp only at hc; subst hc; have f1 := F.sub_str_dict; wp_walk using wpAny_loadPart' hl; exact ⟨_, rfl, h⟩
end PySem
namespace PySem
open PySem.SeqAt PySem.MeetsSeq
theorem vf_str_ne_declines_dict (l : Addr) (x : Str) (t : Tok) (ob : Obj) {es : Array DictEntry} {ep : Nat} (hc : ob.cls = .type "dict") (hd : ob.data = .dict es ep) :
    Meets (Builtin.«str.__ne__» ⟨[.str x t, .ref l], []⟩) (fun _ R s => s.heap.get? l = some ob ∧ R (.ok (.ret .notImplemented)) s) :=
  .of_wp fun prog w A R s h => by obtain ⟨hp, g, d, tk, os⟩ := s; obtain ⟨hl, h⟩ := h; obtain ⟨oc, od, oda, osl⟩ := ob; dsimp only at hc hd; subst hc hd; have f1 := F.sub_dict_str; wp_walk using wpAny_loadPart' hl, wpAny_load hl; exact ⟨_, rfl, h⟩
theorem vf_ne_dict_str {A : Around} {s : Shared} {l : Addr} {ob : Obj} (b : Str) (u : Tok) (hl : s.heap.get? l = some ob) {es : Array DictEntry} {ep : Nat} (hc : ob.cls = .type "dict") (hd : ob.data = .dict es ep) (hu : A.units < cLine) : RcNeAt A s (.ref l) (.str b u) true := fun prog w E Q h => by
  exact rc_ne_decline_or (k := false) ⟨_, hl, hc⟩ (typeIs_str s b u) (by decide) F.sub_str_dict F.slot_dict_ne F.slot_str_ne_refl
    (fun _ hq => call_meets F.slot_dict_ne ⟨_, hl, hc⟩ F.entry_dict_ne (F.args_dict_ne_2 _ _) (vf_dict_ne_declines_str l b u ob hc) ⟨hl, hq⟩)
    (fun _ hq => call_meets F.slot_str_ne_refl (typeIs_str s b u) F.entry_str_ne (F.args_str_ne_2 _ _) (vf_str_ne_declines_dict l b u ob hc hd) ⟨hl, hq⟩)
    (fun _ hq => wpAny_of_eq (rfl : isSame (.ref l) (.str b u) = pure false) hq) (.inr hu) h
end PySem
namespace Vf
theorem rcne {prog : PySem.Program} {w : PySem.World} {A : PySem.Around} {E : PySem.Value → PySem.Shared → Prop} {s : PySem.Shared} {Q : PySem.Value → PySem.Shared → Prop} {a b : PySem.Value} {k : Bool} (h : PySem.SeqAt.RcNeAt A s a b k) (hq : Q (.bool k) s) : PySem.wpAny (PySem.model prog w) A (PySem.compareOp .NotEq a b) Q E s := h prog w E Q hq
open PySem PySem.Spec PyProof.Rows L2 GxR GenW RZ
def eqS : PyData → Str → Bool
  | .str x, z => decide (V.str x = V.str z)
  | _, _ => false
section
variable {X : Cx}
/-- x != y, x any data, y a text -/
structure rNeS (K : PySem.W.Frag) (x y : V) (H : Hp) (Q : VK) : Prop where
  h : ∃ (d : PyData) (z : Str), Dd K H x d ∧ y = .str z ∧ Q (.bl (!eqS d z)) H
theorem op_neS {K : PySem.W.Frag} (hK : X.K = K) (hu : X.A.units + 64 < cLine) : OpR X (compareOp .NotEq) (rNeS K) := by
  subst hK
  intro pins s σ H x y v u Q I rx ry h
  obtain ⟨d, z, hd, rfl, q⟩ := h.h
  have huu : X.A.units < cLine := by omega
  cases hd with
  | non => exact op_ne pins s σ H _ _ v u Q I rx ry ⟨rfl, by have e : (!eqS (PyData.none) z) = (!decide (V.non = .str z)) := by simp [eqS]
                                                             rw [← e]; exact q⟩
  | bl b => exact op_ne pins s σ H _ _ v u Q I rx ry ⟨rfl, by have e : (!eqS (PyData.bool b) z) = (!decide (V.bl b = .str z)) := by simp [eqS]
                                                              rw [← e]; exact q⟩
  | int i => exact op_ne pins s σ H _ _ v u Q I rx ry ⟨rfl, by have e : (!eqS (PyData.int i) z) = (!decide (V.int i = .str z)) := by simp [eqS]
                                                               rw [← e]; exact q⟩
  | str w => exact op_ne pins s σ H _ _ v u Q I rx ry ⟨rfl, by have e : (!eqS (PyData.str w) z) = (!decide (V.str w = .str z)) := by simp [eqS]
                                                               rw [← e]; exact q⟩
  | @lst a xs ds h1 h2 =>
    cases rx
    obtain ⟨t, rfl⟩ := ry
    obtain ⟨its, rv, hl, _⟩ := I.list h1
    exact rcne (SeqAt.RcNeAt.list_str z t hl.isList huu) ⟨.bl true, H, I, rfl, by simpa [eqS] using q⟩
  | @tup a xs ds h1 h2 =>
    cases rx
    obtain ⟨t, rfl⟩ := ry
    obtain ⟨its, rv, hl, _⟩ := I.tuple h1
    exact rcne (SeqAt.RcNeAt.tuple_str z t hl huu) ⟨.bl true, H, I, rfl, by simpa [eqS] using q⟩
  | @dct a h1 =>
    cases rx
    obtain ⟨t, rfl⟩ := ry
    obtain ⟨_, hne, vs, kv, hdd⟩ := I.hok _ _ h1
    obtain ⟨o, es, ep, ho, hx, hda, _⟩ := hdd
    exact rcne (vf_ne_dict_str z t ho hx.1 hda huu) ⟨.bl true, H, I, rfl, by simpa [eqS] using q⟩
theorem rceq {prog : PySem.Program} {w : PySem.World} {A : PySem.Around} {E : PySem.Value → PySem.Shared → Prop} {s : PySem.Shared} {Q : PySem.Value → PySem.Shared → Prop} {a b : PySem.Value} {k : Bool} (h : PySem.SeqAt.RcAt A s a b k) (hq : Q (.bool k) s) : PySem.wpAny (PySem.model prog w) A (PySem.compareOp .Eq a b) Q E s := h prog w E Q hq
/-- a list against an empty list -/
structure rLstE (K : PySem.W.Frag) (x y : V) (H : Hp) (Q : Bool → Prop) : Prop where
  h : ∃ (a b : Addr) (xs : List V), x = .ref a ∧ y = .ref b ∧ SqL K H a xs ∧ SqL K H b [] ∧ Q (decide (xs = []))
theorem listE {pins : List (Addr × Obj)} {σ : L2.St} {H : Hp} {s : Shared} {a b : Addr} {xs : List V} (I : Inv X pins σ H s) (ha : SqL X.K H a xs) (hb : SqL X.K H b []) : ∃ its its2 : Array Value, s.heap.IsList a its ∧ s.heap.IsList b its2 ∧ its2.size = 0 ∧ its.size = xs.length := by
  obtain ⟨i1, r1, l1, _⟩ := I.list ha
  obtain ⟨i2, r2, l2, _⟩ := I.list hb
  cases r2
  exact ⟨_, _, l1.isList, l2.isList, rfl, by rw [List.size_toArray]; exact r1.length.symm⟩
theorem op_neE {K : PySem.W.Frag} (hK : X.K = K) (hu : X.A.units + 64 < cLine) : OpR X (compareOp .NotEq) (fun x y H Q => rLstE K x y H fun b => Q (.bl (!b)) H) := by
  subst hK
  intro pins s σ H x y v u Q I rx ry h
  obtain ⟨a, b, xs, rfl, rfl, ha, hb, q⟩ := h.h
  cases rx
  cases ry
  have huu : X.A.units < cLine := by omega
  obtain ⟨its, its2, l1, l2, z2, z1⟩ := listE I ha hb
  cases xs with
  | nil =>
    have e : its.size = its2.size := by rw [z1, z2]; rfl
    refine rcne (SeqAt.RcNeAt.lists (e := fun _ => true) l1 l2 e huu fun j h1 _ => absurd h1 (by rw [z1]; exact Nat.not_lt_zero _)) ?_
    have e0 : its.size = 0 := z1
    rw [e0]
    exact ⟨.bl false, H, I, rfl, q⟩
  | cons x xs =>
    have e : (its.size != its2.size) = true := by rw [z1, z2]; rfl
    exact rcne (SeqAt.RcNeAt.lists_lengths l1 l2 e huu) ⟨.bl true, H, I, rfl, q⟩
theorem op_eqE {K : PySem.W.Frag} (hK : X.K = K) (hu : X.A.units + 64 < cLine) : OpR X (compareOp .Eq) (fun x y H Q => rLstE K x y H fun b => Q (.bl b) H) := by
  subst hK
  intro pins s σ H x y v u Q I rx ry h
  obtain ⟨a, b, xs, rfl, rfl, ha, hb, q⟩ := h.h
  cases rx
  cases ry
  have huu : X.A.units < cLine := by omega
  obtain ⟨its, its2, l1, l2, z2, z1⟩ := listE I ha hb
  cases xs with
  | nil =>
    have e : its.size = its2.size := by rw [z1, z2]; rfl
    refine rceq (SeqAt.RcAt.lists (e := fun _ => true) l1 l2 e huu fun j h1 _ => absurd h1 (by rw [z1]; exact Nat.not_lt_zero _)) ?_
    have e0 : its.size = 0 := z1
    rw [e0]
    exact ⟨.bl true, H, I, rfl, q⟩
  | cons x xs =>
    have e : (its.size != its2.size) = true := by rw [z1, z2]; rfl
    exact rceq (SeqAt.RcAt.lists_lengths l1 l2 e huu) ⟨.bl false, H, I, rfl, q⟩
/-- the wider operators -/
structure rNeW (K : PySem.W.Frag) (x y : V) (H : Hp) (Q : VK) : Prop where
  h : rNeU K x y H Q ∨ rNeS K x y H Q ∨ (rLstE K x y H fun b => Q (.bl (!b)) H)
theorem u_neW {K : PySem.W.Frag} (hK : X.K = K) (hu : X.A.units + 64 < cLine) : OpR X (compareOp .NotEq) (rNeW K) :=
  fun pins s σ H x y v u Q I rx ry h => (OpR.or (u_ne hK hu) (OpR.or (op_neS hK hu) (op_neE hK hu))) pins s σ H x y v u Q I rx ry h.h
structure rEqW (K : PySem.W.Frag) (x y : V) (H : Hp) (Q : VK) : Prop where
  h : rEqU K x y H Q ∨ (rLstE K x y H fun b => Q (.bl b) H) ∨ ∃ (b : Bool) (i : Int), x = .bl b ∧ y = .int i ∧ Q (.bl ((if b then 1 else 0) == i)) H
theorem op_eqBI : OpR X (compareOp .Eq) (fun x y H Q => ∃ (b : Bool) (i : Int), x = .bl b ∧ y = .int i ∧ Q (.bl ((if b then 1 else 0) == i)) H) := by
  intro pins s σ H x y v u Q I rx ry h
  obtain ⟨b, i, rfl, rfl, q⟩ := h
  cases rx
  obtain ⟨t, rfl⟩ := ry
  exact PySem.EqBoolInt.eq_bool_int ⟨.bl _, H, I, rfl, q⟩
theorem u_eqW {K : PySem.W.Frag} (hK : X.K = K) (hu : X.A.units + 64 < cLine) : OpR X (compareOp .Eq) (rEqW K) :=
  fun pins s σ H x y v u Q I rx ry h => (OpR.or (u_eq hK hu) (OpR.or (op_eqE hK hu) op_eqBI)) pins s σ H x y v u Q I rx ry h.h
theorem call_strU : CallR X (.type "str") (fun xs H Q => (∃ i : Int, xs = [.int i] ∧ i.natAbs.log2 < 1920 ∧ Q (.str (toString i)) H) ∨ ∃ b : Bool, xs = [.bl b] ∧ Q (.str (if b then "True" else "False")) H) := by
  intro pins s σ H xs us Q I r h
  rcases h with h | ⟨b, rfl, q⟩
  · exact call_str_int pins s σ H xs us Q I r h
  · obtain ⟨u, rfl, rx⟩ := vals1 r
    cases rx
    exact PySem.P.str_of_bool ⟨.str _, H, I.tok _, ⟨_, rfl⟩, q⟩
end
section
variable {K : PySem.W.Frag} {H : Hp} {Q : VK}
theorem wn_flat {x y : V} (h : scal x y = true) (q : Q (.bl (!decide (x = y))) H) : rNeW K x y H Q := ⟨.inl (n_flat h q)⟩
theorem wn_str {x : V} {d : PyData} {z : Str} (h : Dd K H x d) (q : Q (.bl (!eqS d z)) H) : rNeW K x (.str z) H Q := ⟨.inr (.inl ⟨d, z, h, rfl, q⟩)⟩
theorem wn_nil {a b : Addr} {xs : List V} (h1 : SqL K H a xs) (h2 : SqL K H b []) (q : Q (.bl (!decide (xs = []))) H) : rNeW K (.ref a) (.ref b) H Q := ⟨.inr (.inr ⟨a, b, xs, rfl, rfl, h1, h2, q⟩)⟩
theorem we_flat {x y : V} (h : scal x y = true) (q : Q (.bl (decide (x = y))) H) : rEqW K x y H Q := ⟨.inl (e_flat h q)⟩
theorem we_data {x y : V} {d e : PyData} (h1 : Dp K H x d) (h2 : Dp K H y e) (h3 : SeqAt.shaped d = true) (h4 : SeqAt.shaped e = true) (q : Q (.bl (PyData.eqv d e)) H) : rEqW K x y H Q := ⟨.inl (e_data h1 h2 h3 h4 q)⟩
theorem wn_data {x y : V} {d e : PyData} (h1 : Dp K H x d) (h2 : Dp K H y e) (h3 : SeqAt.shaped d = true) (h4 : SeqAt.shaped e = true) (q : Q (.bl (!PyData.eqv d e)) H) : rNeW K x y H Q := ⟨.inl (n_data h1 h2 h3 h4 q)⟩
theorem we_nil {a b : Addr} {xs : List V} (h1 : SqL K H a xs) (h2 : SqL K H b []) (q : Q (.bl (decide (xs = []))) H) : rEqW K (.ref a) (.ref b) H Q := ⟨.inr (.inl ⟨a, b, xs, rfl, rfl, h1, h2, q⟩)⟩
theorem we_bi {b : Bool} {i : Int} (q : Q (.bl ((if b then 1 else 0) == i)) H) : rEqW K (.bl b) (.int i) H Q := ⟨.inr (.inr ⟨b, i, rfl, rfl, q⟩)⟩
end
end Vf
namespace Vf
open PySem PySem.Spec PyProof.Rows L2 GxR GenW RZ
def gs2B (scope : Scope) (xa xb : Str) : Bool := (match scope.kind with | .function => true | _ => false) && !scope.isCoroutine && scope.names.all (fun y => decide (y.2 ≠ .cell) && decide (y.2 ≠ .free)) && decide (scope.names.lookup (".0" : Str) = some NameKind.local) &&
  decide (scope.names.lookup xa = some .local) && decide (scope.names.lookup xb = some .local) && decide (xa ≠ xb)
theorem gs2_by {env : Env} {scope : Scope} {xa xb : Str} (h : gs2B scope xa xb = true) : GenS2 env scope xa xb := by
  unfold gs2B at h
  simp only [Bool.and_eq_true, List.all_eq_true, decide_eq_true_eq, Bool.not_eq_true'] at h
  obtain ⟨⟨⟨⟨⟨⟨h1, h2⟩, h3⟩, h4⟩, h5⟩, h6⟩, h7⟩ := h
  refine ⟨?_, h2, fun y hy => (h3 y hy).1, h4, h5, h6, h7, fun y hy e => absurd e (h3 y hy).2⟩
  split at h1
  · assumption
  · cases h1
end Vf
end
section
set_option Elab.async false
set_option linter.all false
set_option maxRecDepth 100000
set_option maxHeartbeats 4000000
/-! tuple * 0, tuple * 1, text * int. -/
namespace L2
open PySem PySem.Spec PyProof.Rows
theorem vf_tuple_mul1 (l : Addr) (items : Array Value) (n : Nat) (dd : Option Addr) (sl : Array (Option Value)) (x : Int) (u : Tok) (hx : x = 1) :
    Meets (Builtin.«tuple.__mul__» ⟨[.ref l, .int x u], []⟩) (fun _ R s => s.heap.get? l = some { cls := .type "tuple", dict := dd, data := .seq items n, slots := sl } ∧ R (.ok (.ret (Value.ref l))) s) :=
  .of_wp fun prog w A R s h => by
    subst hx
    obtain ⟨hp, g, d, tk, os⟩ := s
    obtain ⟨hl, h⟩ := h
    have f1 := AutoSeq1.idx_int
    wp_walk using wpAny_loadPart' hl
    exact ⟨_, rfl, h⟩
theorem vf_tuple_mul0 (l : Addr) (items : Array Value) (n : Nat) (dd : Option Addr) (sl : Array (Option Value)) (x : Int) (u : Tok) (hx : x = 0) (he : items.isEmpty = false) :
    Meets (Builtin.«tuple.__mul__» ⟨[.ref l, .int x u], []⟩) (fun _ R s => s.heap.get? l = some { cls := .type "tuple", dict := dd, data := .seq items n, slots := sl } ∧
      R (.ok (.ret (Value.ref s.heap.objs.size))) { s with heap := s.heap.push { cls := Value.type "tuple", data := Data.seq #[] }, toks := s.toks }) :=
  .of_wp fun prog w A R s h => by
    subst hx
    obtain ⟨hp, g, d, tk, os⟩ := s
    obtain ⟨hl, h⟩ := h
    have f1 := AutoSeq1.idx_int
    wp_walk using wpAny_loadPart' hl
    repeat (first
      | (refine wpAny_ite_false (decide_eq_false (by rw [he]; decide)) ?_; wp_walk using wpAny_loadPart' hl)
      | (refine wpAny_ite_true (decide_eq_true (by rw [he]; decide)) ?_; wp_walk using wpAny_loadPart' hl))
    exact ⟨_, rfl, h⟩
end L2
namespace L2
open PySem PySem.Spec PyProof.Rows
section
variable {X : Cx}
def rRepT1 (K : PySem.W.Frag) : R2 := fun x y H Q => ∃ l xs, x = .ref l ∧ y = .int 1 ∧ SqT K H l xs ∧ Q (.ref l) H
theorem op_repT1 : OpR X (binaryOp .Mult) (rRepT1 X.K) := by
  intro pins s σ H x y v u Q I rx ry h
  obtain ⟨l, xs, rfl, rfl, hT, q⟩ := h
  cases rx
  obtain ⟨t, rfl⟩ := ry
  obtain ⟨its, r, ⟨⟨cls, dd, data, sl⟩, ho, hc, n, hd⟩, hs⟩ := I.tuple hT
  simp only at hc hd
  subst hc hd
  exact wpAny_binaryOp_repeat_ref (T := "tuple") (U := "int") (by decide) ⟨_, ho, rfl⟩ (fun s' => typeIs_int s' 1 t) noFill_tuple_mul F.fills_int_mul F.slot_int_rmul repeat_tuple F.slot_int_index.lookup
    (call_meets F.slot_int_rmul (typeIs_int s 1 t) F.entry_int_rmul (F.args_int_rmul_2 _ _) (int_rmul_tuple 1 t l its.toArray n dd sl)
      ⟨ho, rfl, ⟨_, ho, rfl⟩, call_meets F.slot_tuple_mul ⟨_, ho, rfl⟩ F.entry_tuple_mul (F.args_tuple_mul_2 _ _) (vf_tuple_mul1 l its.toArray n dd sl 1 t rfl) ⟨ho, .ref _, H, I, rfl, q⟩⟩)
def rRepT0 (K : PySem.W.Frag) : R2 := fun x y H Q => ∃ l xs, x = .ref l ∧ y = .int 0 ∧ SqT K H l xs ∧ xs ≠ [] ∧ ∀ p, H p = none → Q (.ref p) (upd H p (.tup []))
theorem op_repT0 : OpR X (binaryOp .Mult) (rRepT0 X.K) := by
  intro pins s σ H x y v u Q I rx ry h
  obtain ⟨l, xs, rfl, rfl, hT, hne, q⟩ := h
  cases rx
  obtain ⟨t, rfl⟩ := ry
  obtain ⟨its, r, ⟨⟨cls, dd, data, sl⟩, ho, hc, n, hd⟩, hs⟩ := I.tuple hT
  simp only at hc hd
  subst hc hd
  have hle : its.length = xs.length := r.length.symm
  have hi : its.toArray.isEmpty = false := by
    cases its with
    | nil => exact absurd (List.eq_nil_of_length_eq_zero hle.symm) hne
    | cons a b => rfl
  refine wpAny_binaryOp_repeat_ref (T := "tuple") (U := "int") (by decide) ⟨_, ho, rfl⟩ (fun s' => typeIs_int s' 0 t) noFill_tuple_mul F.fills_int_mul F.slot_int_rmul repeat_tuple F.slot_int_index.lookup
    (call_meets F.slot_int_rmul (typeIs_int s 0 t) F.entry_int_rmul (F.args_int_rmul_2 _ _) (int_rmul_tuple 0 t l its.toArray n dd sl)
      ⟨ho, rfl, ⟨_, ho, rfl⟩, call_meets F.slot_tuple_mul ⟨_, ho, rfl⟩ F.entry_tuple_mul (F.args_tuple_mul_2 _ _) (vf_tuple_mul0 l its.toArray n dd sl 0 t rfl hi) ⟨ho, ?_⟩⟩)
  refine ⟨.ref s.heap.objs.size, _, I.laid (t' := s.toks) (o := .tup []) (fun b ob q => Heap.get?_push_of_some _ q) (Nat.le_refl _) ?_, rfl, q _ (I.hok.fresh (Nat.le_refl _))⟩
  exact ⟨Nat.zero_le _, [], .nil, IsTup.new _ _⟩
/-- a text times an int of at least two -/
def rMulS : R2 := fun x y H Q => ∃ (z : Str) (k : Int), x = .str z ∧ y = .int k ∧ 2 ≤ k ∧ k ≤ 1000 ∧ 0 < z.length ∧ z.length ≤ 1000 ∧ Q (.str ⟨(List.replicate k.toNat z.cps).foldl (· ++ ·) #[]⟩) H
theorem op_mulS : OpR X (binaryOp .Mult) rMulS := by
  intro pins s σ H x y v u Q I rx ry h
  obtain ⟨z, k, rfl, rfl, h1, h2, h3, h4, q⟩ := h
  obtain ⟨t, rfl⟩ := rx
  obtain ⟨t', rfl⟩ := ry
  have lz : z.length * k.toNat ≤ 1000000 := Nat.le_trans (Nat.mul_le_mul h4 (show k.toNat ≤ 1000 by omega)) (by decide)
  have c1 : (k == 1 || z.length == 0) = false := by
    rw [beq_eq_false_iff_ne.mpr (show k ≠ 1 by omega), beq_eq_false_iff_ne.mpr (show z.length ≠ 0 by omega)]
    rfl
  refine PySem.P.mul_str ?_ (fun _ _ => ?_) (fun _ _ => ?_) ?_
  · rw [decide_eq_false (by omega), decide_eq_false (by omega)]
    rfl
  · have a1 : (1000 : Int) ≤ (2 ^ 63 - 1) / k := by
      refine Int.le_ediv_of_mul_le (by omega) ?_
      omega
    omega
  · show decide (_ > sizeLine) = false
    rw [sizeLine_eq]
    exact decide_eq_false (by omega)
  · rw [if_neg (by omega), c1]
    refine ⟨?_, .str _, H, I.tok _, ⟨_, rfl⟩, q⟩
    have fl : ∀ (m : Nat) (a : Array Nat), (List.foldl (fun x1 x2 => x1 ++ x2) a (List.replicate m z.cps)).size = a.size + m * z.cps.size := fun m => by
      induction m with
      | zero => intro a; simp
      | succ m ih => intro a; rw [List.replicate_succ, List.foldl_cons, ih, Array.size_append, Nat.succ_mul]; omega
    show (List.foldl (fun x1 x2 => x1 ++ x2) #[] (List.replicate k.toNat z.cps)).size ≤ sizeLine
    rw [fl, sizeLine_eq, Nat.mul_comm]
    show 0 + z.length * k.toNat ≤ _
    omega
end
end L2
namespace Vf
open PySem PySem.Spec PyProof.Rows L2 GxR GenW RZ
section
variable {X : Cx}
structure rMuW (K : PySem.W.Frag) (x y : V) (H : Hp) (Q : VK) : Prop where
  h : rMu K x y H Q ∨ rRepT1 K x y H Q ∨ rRepT0 K x y H Q ∨ rMulS x y H Q
theorem u_mulW {K : PySem.W.Frag} (hK : X.K = K) : OpR X (binaryOp .Mult) (rMuW K) := by
  subst hK
  exact fun pins s σ H x y v u Q I rx ry h => (OpR.or (u_mul rfl) (OpR.or op_repT1 (OpR.or op_repT0 op_mulS))) pins s σ H x y v u Q I rx ry h.h
end
/-- any tuple that is not empty, any number of times -/
theorem m_tA {K : PySem.W.Frag} {H : Hp} {Q : VK} {l : Addr} {k : Nat} {xs : List V} (h1 : SqT K H l xs) (h2 : xs ≠ []) (h4 : k ≤ 1000) (h5 : xs.length ≤ 1000) (q1 : k = 1 → Q (.ref l) H)
    (q : k ≠ 1 → ∀ p, H p = none → Q (.ref p) (upd H p (.tup (List.replicate k xs).flatten))) : rMuW K (.ref l) (.int k) H Q := by
  refine ⟨?_⟩
  match k, h4, q1, q with
  | 0, _, _, q => exact .inr (.inr (.inl ⟨l, xs, rfl, rfl, h1, h2, q (by decide)⟩))
  | 1, _, q1, _ => exact .inr (.inl ⟨l, xs, rfl, rfl, h1, q1 rfl⟩)
  | k + 2, h4, _, q => exact .inl (m_tt h1 h2 (by omega) (by omega) h5 (q (by omega)))
theorem m_ss {K : PySem.W.Frag} {H : Hp} {Q : VK} {z : Str} {k : Int} (h1 : 2 ≤ k) (h2 : k ≤ 1000) (h3 : 0 < z.length) (h4 : z.length ≤ 1000) (q : Q (.str ⟨(List.replicate k.toNat z.cps).foldl (· ++ ·) #[]⟩) H) : rMuW K (.str z) (.int k) H Q :=
  ⟨.inr (.inr (.inr ⟨z, k, rfl, rfl, h1, h2, h3, h4, q⟩))⟩
end Vf
end
section
set_option Elab.async false
set_option linter.all false
set_option maxRecDepth 100000
set_option maxHeartbeats 4000000
/-! Own layer: *d of a dict, tuple(d.values()). -/
namespace Vf
open PySem PySem.Spec PyProof.Rows L2 PySem.W
section
variable {prog : Program} {w : World} {A : Around} {E : Value → Shared → Prop} {s : Shared} {T : String} {r d : Addr} {n : Nat} {P : Nat → Value → Prop} {OK : Heap → Prop}
theorem collect_kdl {Q : List Value → Shared → Prop} (K : KdlSrc prog w T r d n P OK) (hh : A.handled = none) (hok : OK s.heap) (hn : n ≤ sizeLine)
    (hQ : ∀ (h' : Heap) (tk : Nat) (acc : Array Value), (∀ b o, s.heap.get? b = some o → h'.get? b = some o) → ItemsOf P acc n → Q acc.toList { s with heap := h', toks := tk }) :
    wpAny (model prog w) A (collect (.ref r)) Q E s := by
  unfold collect
  refine wpAny_bind (wpAny_runValue (codeAny_builtin F.entry_proto_collect ?_))
  rw [Around.under_plainId F.plain_proto_collect _]
  show wpAny _ A.in1 (newList [] >>= fun l => again (.builtin "list.__iadd__" ⟨[l, .ref r], []⟩)) _ _ s
  refine wpAny_bind (wpAny_newObj_type ?_)
  refine wpAny_pure ⟨plainId_quiet F.plain_list_iadd _, codeAny_builtin F.entry_list_iadd ?_⟩
  rw [Around.under_plainId F.plain_list_iadd _]
  show wpAny _ A.in1 (Builtin.List.listExtendWith (.ref s.heap.objs.size) (.ref r) (.ref s.heap.objs.size)) _ _ _
  have hS : (s.heap.push { cls := .type "list", data := .seq ([] : List Value).toArray }).get? s.heap.objs.size = some { cls := .type "list", data := .seq #[] 0 } := Heap.get?_push_size _ rfl
  have hlt := K.there _ hok
  refine wpAny_mono (kdl_extend (A := A) (s := { s with heap := s.heap.push { cls := .type "list", data := .seq ([] : List Value).toArray } }) (R := fun rr s' => rr = .ok (.ret (.ref s.heap.objs.size)) ∧ ∃ (h' : Heap) (tk : Nat) (acc : Array Value) (c' : Nat), s' = { s with heap := h', toks := tk } ∧
      (∀ b o, s.heap.get? b = some o → h'.get? b = some o) ∧ h'.get? s.heap.objs.size = some { cls := .type "list", dict := none, data := .seq acc c', slots := #[] } ∧ ItemsOf P acc n)
    K hh (K.keep _ _ hok fun b _ o e => Heap.get?_push_of_some _ e) s.heap.objs.size (Nat.ne_of_gt hlt.1) (Nat.ne_of_gt hlt.2) _ 0 hS
    (fun h' tk acc c' hk e hi => ⟨rfl, h', tk, acc, c', rfl, fun b o q => hk b o (Nat.ne_of_lt (Heap.lt_size q)) (Heap.get?_push_of_some _ q), e, hi⟩) hn) (fun fin s' h => ?_) (fun e s' h => ?_)
  · cases fin with
    | done f =>
      obtain ⟨e, h', tk, acc, c', rfl, hk, hS', hi⟩ := h
      cases e
      show wpAny _ A (load s.heap.objs.size >>= _) _ _ _
      exact wpAny_bind (wpAny_load hS' (wpAny_pure (hQ h' tk acc hk hi)))
    | again c' =>
      refine ⟨h.1, codeAny_mono h.2 fun rr s'' hr' => ?_⟩
      obtain ⟨rfl, h', tk, acc, c', rfl, hk, hS', hi⟩ := hr'
      show wpAny _ A (load s.heap.objs.size >>= _) _ _ _
      exact wpAny_bind (wpAny_load hS' (wpAny_pure (hQ h' tk acc hk hi)))
  · exact absurd h.1 (by simp)
theorem code_tuple_new_kdl {Q₁ : Value → Shared → Prop} (K : KdlSrc prog w "dict_values" r d n P OK) (hh : A.handled = none) (hok : OK s.heap) (hn : n ≤ sizeLine)
    (h : ∀ (h' : Heap) (tk : Nat) (acc : Array Value), (∀ b o, s.heap.get? b = some o → h'.get? b = some o) → ItemsOf P acc n →
      Q₁ (.ref h'.objs.size) { s with heap := h'.push { cls := .type "tuple", data := .seq acc }, toks := tk }) :
    codeAny (model prog w) A (.call (.builtin "tuple.__new__") ⟨[.type "tuple", .ref r], []⟩) (wants Q₁ E) s := by
  refine codeAny_of_tree ?_
  show wpAny _ A.in1 (do checkBuiltinCall "tuple.__new__" ⟨[.type "tuple", .ref r], []⟩; again (.builtin "tuple.__new__" ⟨[.type "tuple", .ref r], []⟩)) _ _ s
  refine wpAny_bind (wpAny_of_eq (F.newCall_tuple_1 _) (wpAny_pure ⟨plainId_quiet F.plain_tuple_new _, codeAny_builtin F.entry_tuple_new ?_⟩))
  rw [Around.under_plainId F.plain_tuple_new _]
  have hsub := sub_tuple_self
  have hinit := init_tuple_lookup
  have hmh := madeHere_tuple
  have hTI : s.TypeIs (.ref r) "dict_values" := K.type s hok
  have hh1 : A.in1.handled = none := hh
  wp_walk using wpAny_typeOf hTI, collect_kdl (A := A.in1) K hh1 hok hn
  intro h' tk acc hk hacc
  show wpAny _ _ (Builtin.Tuple.tupleExact acc.toList.toArray >>= fun v => ret v) _ _ _
  unfold Builtin.Tuple.tupleExact
  refine wpAny_bind (wpAny_newObj_type ?_ (by show acc.toList.toArray.size ≤ sizeLine; simp only [Array.toArray_toList]; rw [hacc.1]; omega))
  refine wpAny_pure ?_
  have e : acc.toList.toArray = acc := by simp
  rw [e]
  exact h h' tk acc hk hacc
theorem call_tuple_kdl {Q : Value → Shared → Prop} (K : KdlSrc prog w "dict_values" r d n P OK) (hh : A.handled = none) (hok : OK s.heap) (hn : n ≤ sizeLine)
    (hQ : ∀ (h' : Heap) (tk : Nat) (acc : Array Value), (∀ b o, s.heap.get? b = some o → h'.get? b = some o) → ItemsOf P acc n →
      Q (.ref h'.objs.size) { s with heap := h'.push { cls := .type "tuple", data := .seq acc }, toks := tk }) :
    wpAny (model prog w) A (call (.type "tuple") [.ref r]) Q E s := by
  refine callType_codes (Q₁ := fun obj s₁ => s₁.TypeIs obj "tuple" ∧ Q obj s₁) F.called_tuple (F.typeCall_tuple_1 _) F.entry_object_init
    (code_tuple_new_kdl (A := A.in1) K hh hok hn fun h' tk acc hk hacc => ⟨⟨_, Heap.get?_push_size _ rfl, rfl⟩, hQ h' tk acc hk hacc⟩) fun obj s₁ h₁ => ?_
  exact ⟨h₁.1, F.args_object_init_2 obj _, object_init_meets F.called_tuple.init.lookup F.called_tuple.made (by decide) prog w A.in1 _ s₁ ⟨h₁.1, rfl, h₁.2⟩⟩
end
theorem kv_vals {κ : Type} {kvs : List (κ × V)} {vs : List (κ × Value)} (r : KV kvs vs) : Vals (kvs.map (·.2)) (vs.map (·.2)) := by
  unfold KV at r
  induction r with
  | nil => exact .nil
  | cons h t ih => exact .cons h.2 ih
section
variable {X : Cx} {pins : List (Addr × Obj)} {σ : L2.St} {H : Hp} {s : Shared}
theorem star_dK {a : Addr} {kvs : List (Key × V)} {E : Value → Shared → Prop} {Q : List Value → Shared → Prop} (hc : X.calm = true) (I : Inv X pins σ H s) (h : H a = some (.dK kvs))
    (hQ : ∀ us s', Inv X pins σ H s' → Vals (kvs.map fun kv => kV kv.1) us → Q us s') : PySem.W.StarOf (model X.prog X.w) X.A E (.ref a) Q s := by
  obtain ⟨z, lo, vs, rk, hd⟩ := (show ObjOk X.prog X.w H s.heap a (.dK kvs) from I.hok a _ h)
  obtain ⟨ep, hat⟩ := hd.dictAt
  have hl : kvs.length = vs.length := Paired.length rk
  unfold PySem.W.StarOf notIterableAtAll
  refine wpAny_bind (wpAny_specialOf hat.dictOf.typeIs PySem.F.slot_dict_iter.lookup (wpAny_pure ⟨rfl, ?_⟩))
  refine collect_kdl (PySem.W.kdl_dict (knd := mixKind X.prog X.w) (kvs := vs) (ep := ep) lo) (I.ok.hd hc) hat (by rw [← hl]; exact z) fun h' tk acc hk hacc => ?_
  refine hQ _ _ (I.kept (t' := tk) hk) ?_
  have el : acc.toList.length = acc.size := by simp
  refine vals_of_at (by rw [List.length_map, el, hacc.1, hl]) fun j x w h1 h2 => ?_
  obtain ⟨k, y, hky, hi⟩ := hacc.2 j w (by rw [← Array.getElem?_toList]; exact h2)
  have e1 : (kvs.map (·.1))[j]? = some k := by
    rw [KV.keys rk, List.getElem?_map, hky] <;> rfl
  have e2 : (kvs.map fun kv => kV kv.1)[j]? = some (kV k) := by
    have e3 : (kvs.map fun kv => kV kv.1) = (kvs.map (·.1)).map kV := by rw [List.map_map] <;> rfl
    rw [e3, List.getElem?_map, e1] <;> rfl
  rw [e2] at h1
  cases h1
  exact keyIs_rel hi
end
section
variable {X : Cx} {K : PySem.W.Frag} {e : Expr} {es : List Expr} {te : TE} {t : TA} {p pos apos cpos : Pos}
/-- the items of a list, a tuple, the keys of a dict -/
structure StarV (K : PySem.W.Frag) (H : Hp) (p : Addr) (xs : List V) : Prop where
  h : SqT K H p xs ∨ SqL K H p xs ∨ ∃ kvs : List (Key × V), H p = some (.dK kvs) ∧ xs = kvs.map fun kv => kV kv.1
def tStarD (K : PySem.W.Frag) (te : TE) (t : TA) : TA := fun σ H Q => te σ H fun x H1 => ∃ p xs, x = V.ref p ∧ StarV K H1 p xs ∧ t σ H1 fun ys H2 => Q (xs ++ ys) H2
theorem pa_starD (hK : X.K = K) (hc : X.calm = true) (he : PE X e te) (hr : PA X es t) (hs : starEach (.Starred e p :: es) X.env = (true, eval e X.env) :: starEach es X.env := by rfl) : PA X (.Starred e p :: es) (tStarD K te t) := by
  subst hK
  refine ⟨fun pos pins s σ H Q I h => ?_⟩
  refine PySem.W.items_star (thn (he.run pins s σ H _ I h) fun v s1 ⟨y, H1, I1, ry, a, xs, ey, hx, q⟩ => ?_) hs
  subst ey
  obtain rfl : v = Value.ref a := ry
  have fin : ∀ us s2, Inv X pins σ H1 s2 → Vals xs us → wpAny (model X.prog X.w) X.A (spliced (backTo pos (starEach es X.env))) (fun ws s3 => ∃ vs H3, Inv X pins σ H3 s3 ∧ Vals vs (us ++ ws) ∧ Q vs H3) X.xe s2 := fun us s2 I2 rv =>
    thn (hr.run pos pins s2 σ H1 _ I2 q) fun ws s3 ⟨vs, H3, I3, r3, q3⟩ => ⟨xs ++ vs, H3, I3, rv.append r3, q3⟩
  rcases hx.h with h1 | h1 | ⟨kvs, h1, rfl⟩
  · exact StX.star_any I1 (.inl h1) fin
  · exact StX.star_any I1 (.inr h1) fin
  · exact star_dK hc I1 h1 fin
/-- tuple(d.values()) -/
def tTupVals (te : TE) : TE := fun σ H Q => te σ H fun x H1 => ∃ d kvs, x = V.ref d ∧ H1 d = some (.dK kvs) ∧ ∀ q, H1 q = none → Q (.ref q) (upd H1 q (.tup (kvs.map (·.2))))
theorem pe_tupVals {tp : Pos} (hc : X.calm = true) (hg : Gl X "tuple") (hm : X.mg "tuple" = none) (he : PE X e te) (hbase : attributeBase e "values" X.env (eval e X.env) = eval e X.env := by rfl) (hline : (apos.endLine == cpos.line) = true := by rfl)
    (na : starEach [(.Call (.Attribute e "values" apos) [] [] cpos : Expr)] X.env = (false, eval (.Call (.Attribute e "values" apos) [] [] cpos) X.env) :: starEach [] X.env := by rfl) :
    PE X (.Call (.Name "tuple" tp) [.Call (.Attribute e "values" apos) [] [] cpos] [] pos) (tTupVals te) := by
  refine ⟨fun pins s σ H Q I h => ?_⟩
  refine Call_ (ld_blt I hg hm boot_tuple (PyProof.Rows.callWith_type1 (args_cons ?_ na) na))
  refine wpAny_Call_method (T := "dict") (id := "dict.values") hbase rfl hline F.plainAttrs_dict F.slot_dict_values F.type_dict_values (thn (he.run pins s σ H _ I h) fun u s1 ⟨x, H1, I1, rx, d, kvs, ex, hd, q⟩ => ?_)
  subst ex
  obtain rfl : u = Value.ref d := rx
  obtain ⟨z, lo, vs, rk, hda⟩ := (show ObjOk X.prog X.w H1 s1.heap d (.dK kvs) from I1.hok d _ hd)
  obtain ⟨ep, hm2⟩ := hda.dictAt
  have hl : kvs.length = vs.length := Paired.length rk
  refine ⟨hm2.dictOf.typeIs, hm2.dictOf.mapOf.noDict, ?_⟩
  have I2 : Inv X pins σ H1 { s1 with heap := s1.heap.push { cls := .type "dict_values", data := .fields #[.ref d] } } := I1.kept (t' := s1.toks) fun b ob q => Heap.get?_push_of_some _ q
  show wpAny _ _ (callWith cpos (.builtin "dict.values") [.ref d] [] []) _ X.xe s1
  refine method_meetsIn F.slot_dict_values F.entry_dict_values rfl (PySem.evalArgs_none ⟨rfl, hm2.dictOf.typeIs, F.args_dict_values_1 _, _, meets_dict_values (mixKind X.prog X.w) d lo, ⟨vs, hm2.dictOf⟩, ?_⟩)
  refine args_nil ?_
  refine call_tuple_kdl (PySem.W.kdl_values (knd := mixKind X.prog X.w) (kvs := vs) (ep := ep) (d := d)) (I2.ok.hd hc) ⟨⟨_, Heap.get?_push_size _ rfl, rfl, rfl⟩, hm2.push _⟩ (by rw [← hl]; exact z) fun h' tk acc hk hacc => ?_
  have I3 : Inv X pins σ H1 { s1 with heap := h', toks := tk } := I2.kept (t' := tk) hk
  have ev : acc.toList = vs.map (·.2) := PySem.W.kdl_vals_eq _ (by simp [hacc.1]) fun j v hj => hacc.2 j v (by rw [← Array.getElem?_toList]; exact hj)
  refine ⟨.ref h'.objs.size, upd H1 h'.objs.size (.tup (kvs.map (·.2))), I3.laid (t' := tk) (fun c o e => Heap.get?_push_of_some _ e) (Nat.le_refl _) (show ObjOk X.prog X.w _ _ _ (.tup (kvs.map (·.2))) from ⟨?_, acc.toList, ?_, ?_⟩), rfl, q _ (I3.hok.fresh (Nat.le_refl _))⟩
  · rw [List.length_map]; exact z
  · rw [ev]
    exact kv_vals rk
  · rw [Array.toArray_toList]; exact IsTup.new _ _
end
end Vf
end
section
set_option Elab.async false
set_option linter.all false
set_option maxRecDepth 100000
set_option maxHeartbeats 4000000
/-! Own layer: texts cut at one sign. -/
namespace Vf
open PySem PySem.Builtin PySem.Builtin.Str
abbrev cp (x : Str) : List Nat := x.cps.toList
theorem cp_app (a b : Str) : cp (a ++ b) = cp a ++ cp b := by
  show (a.cps ++ b.cps).toList = _
  exact Array.toList_append
theorem cp_inj {a b : Str} (h : cp a = cp b) : a = b := Str.ext' (Array.toList_inj.mp h)
theorem cp_len (a : Str) : (cp a).length = a.length := Array.length_toList
def ic (c : Nat) : List (List Nat) → List Nat
  | [] => []
  | [x] => x
  | x :: y :: r => x ++ c :: ic c (y :: r)
/-- cut at each c -/
def sp (c : Nat) : List Nat → List (List Nat)
  | [] => [[]]
  | x :: l => if x = c then [] :: sp c l else match sp c l with
    | p :: r => (x :: p) :: r
    | [] => [[x]]
theorem sp_ne (c : Nat) : ∀ l, sp c l ≠ []
  | [] => by simp [sp]
  | x :: l => by
    unfold sp
    split
    · simp
    · split <;> simp
theorem sp_free {c : Nat} : ∀ {w : List Nat}, c ∉ w → sp c w = [w]
  | [], _ => rfl
  | x :: l, h => by
    have h1 : x ≠ c := fun e => h (by rw [e]; exact List.mem_cons_self)
    unfold sp
    rw [if_neg h1, sp_free (fun z => h (List.mem_cons_of_mem _ z))]
theorem sp_app (c : Nat) (m : List Nat) : ∀ l, sp c (l ++ c :: m) = sp c l ++ sp c m
  | [] => by
    show sp c (c :: m) = _
    conv => lhs; unfold sp
    rw [if_pos rfl]; rfl
  | x :: l => by
    show sp c (x :: (l ++ c :: m)) = _
    conv => lhs; unfold sp
    conv => rhs; arg 1; unfold sp
    rw [sp_app c m l]
    split
    · rfl
    · cases e : sp c l with
      | nil => exact absurd e (sp_ne c l)
      | cons p r => rfl
theorem sp_ic (c : Nat) : ∀ ps : List (List Nat), ps ≠ [] → (∀ p ∈ ps, c ∉ p) → sp c (ic c ps) = ps
  | [], h, _ => absurd rfl h
  | [x], _, h => sp_free (h x List.mem_cons_self)
  | x :: y :: r, _, h => by
    show sp c (x ++ c :: ic c (y :: r)) = _
    rw [sp_app, sp_free (h x List.mem_cons_self), sp_ic c (y :: r) (by simp) fun p hp => h p (List.mem_cons_of_mem _ hp)]; rfl
theorem cp_join (c : Nat) : ∀ ps : List Str, cp (Str.join ⟨#[c]⟩ ps) = ic c (ps.map cp)
  | [] => rfl
  | [x] => rfl
  | x :: y :: r => by
    show cp (x ++ ⟨#[c]⟩ ++ Str.join ⟨#[c]⟩ (y :: r)) = _
    rw [cp_app, cp_app, cp_join c (y :: r), List.append_assoc]; rfl
theorem split_ne (x y : Str) : Txt.split x y ≠ [] := by
  unfold Txt.split
  split
  · simp
  · split
    · simp
    · rw [StrLaws.partsBetween_eq]
      obtain ⟨p, r, e⟩ := StrLaws.partsFrom_ne x y.length 0 (Builtin.Str.occurrences x y 0 x.length (x.length + 1))
      rw [e]; simp
theorem split_sp (x : Str) (c : Nat) : (Txt.split x ⟨#[c]⟩).map cp = sp c (cp x) := by
  have h1 := congrArg cp (StrLaws.join_split x ⟨#[c]⟩)
  rw [cp_join] at h1
  rw [← h1]
  refine (sp_ic c _ (fun z => split_ne x ⟨#[c]⟩ (List.map_eq_nil_iff.mp z)) fun p hp => ?_).symm
  obtain ⟨q, hq, rfl⟩ := List.mem_map.mp hp
  exact StrLaws.split_free x c q hq
theorem map_cp_inj : ∀ {a b : List Str}, a.map cp = b.map cp → a = b
  | [], [], _ => rfl
  | [], _ :: _, h => by cases h
  | _ :: _, [], h => by cases h
  | x :: a, y :: b, h => by
    rw [List.map_cons, List.map_cons] at h
    injection h with h1 h2
    rw [cp_inj h1, map_cp_inj h2]
/-- texts that were joined are found again -/
theorem split_join {c : Nat} {ps : List Str} (h : ps ≠ []) (hf : ∀ p ∈ ps, c ∉ cp p) : Txt.split (Txt.join ⟨#[c]⟩ ps) ⟨#[c]⟩ = ps := by
  refine map_cp_inj ?_
  rw [split_sp]
  show sp c (cp (Builtin.Str.glued ⟨#[c]⟩ ps)) = _
  rw [StrLaws.glued_eq_join, cp_join]
  refine sp_ic c _ (fun z => h (List.map_eq_nil_iff.mp z)) fun p hp => ?_
  obtain ⟨q, hq, rfl⟩ := List.mem_map.mp hp
  exact hf q hq
/-- what stands between spaces -/
def wd (l : List Nat) : List (List Nat) := (sp 32 l).filter fun p => !p.isEmpty
theorem wd_nil : wd [] = [] := rfl
theorem wd_app (l m : List Nat) : wd (l ++ 32 :: m) = wd l ++ wd m := by
  unfold wd
  rw [sp_app, List.filter_append]
theorem wd_one {w : List Nat} (h : 32 ∉ w) (h2 : w ≠ []) : wd w = [w] := by
  unfold wd
  rw [sp_free h]
  cases w with
  | nil => exact absurd rfl h2
  | cons a r => rfl
theorem wd_sp (m : List Nat) : wd (32 :: m) = wd m := wd_app [] m
theorem wd_rep (m : List Nat) : ∀ k, wd (List.replicate k 32 ++ m) = wd m
  | 0 => rfl
  | k + 1 => by
    rw [List.replicate_succ, List.cons_append, wd_sp, wd_rep m k]
theorem wd_end (l : List Nat) : ∀ k, wd (l ++ List.replicate k 32) = wd l
  | 0 => by rw [List.replicate_zero, List.append_nil]
  | k + 1 => by
    rw [List.replicate_succ, wd_app]
    have q := wd_rep [] k
    rw [List.append_nil] at q
    rw [q, wd_nil, List.append_nil]
theorem stripBy_eqV (g : Nat → Bool) (l r : Bool) (x : Str) : Txt.stripBy g l r x = stripped g l r x := by
  unfold Txt.stripBy
  split
  · rename_i h
    simp only [stripSame, Bool.and_eq_true, beq_iff_eq] at h
    show x = strSub x (stripLo g l x) (stripHi g r x (stripLo g l x))
    rw [h.2, h.1, StrLaws.sub_whole]
  · rfl
def wdS (x : Str) : List Str := (Txt.split x " ").filter fun p => !decide (L2.V.str p = L2.V.str "")
theorem emp_cp (p : Str) : (cp p).isEmpty = decide (L2.V.str p = L2.V.str "") := by
  rw [dvs]
  by_cases h : p = ""
  · subst h; rfl
  · rw [decide_eq_false h]
    cases e : cp p with
    | nil => exact absurd (cp_inj (b := "") e) h
    | cons a r => rfl
theorem wdS_cp (x : Str) : (wdS x).map cp = wd (cp x) := by
  unfold wdS wd
  rw [← split_sp x 32]
  show ((Txt.split x ⟨#[32]⟩).filter _).map cp = _
  rw [List.filter_map]
  congr 1
  refine List.filter_congr fun p _ => ?_
  show (!decide (L2.V.str p = L2.V.str "")) = !(cp p).isEmpty
  rw [emp_cp]
theorem wdS_of {x : Str} {ws : List Str} (h : wd (cp x) = ws.map cp) : wdS x = ws := map_cp_inj ((wdS_cp x).trans h)
theorem tw_rep (l : List Nat) : ∃ k, l.takeWhile (fun c => decide (c = 32)) = List.replicate k 32 := by
  induction l with
  | nil => exact ⟨0, rfl⟩
  | cons a r ih =>
    obtain ⟨k, e⟩ := ih
    by_cases h : a = 32
    · subst h
      refine ⟨k + 1, ?_⟩
      rw [List.takeWhile_cons_of_pos (by simp), e, List.replicate_succ]
    · exact ⟨0, by rw [List.takeWhile_cons_of_neg (by simpa using h)]; rfl⟩
theorem rstrip_cp (x : Str) : ∃ k, cp x = cp (Txt.rstripChars x " ") ++ List.replicate k 32 := by
  have e : Txt.rstripChars x " " = strSub x 0 (x.length - ((cp x).reverse.takeWhile (fun c => decide (c = 32))).length) := by
    unfold Txt.rstripChars
    rw [stripBy_eqV]
    have g : (fun c : Nat => (" " : Str).cps.contains c) = fun c => decide (c = 32) := funext fun c => by
      show (#[32] : Array Nat).contains c = _
      simp
    show strSub x 0 (x.length - (((cp x).drop 0).reverse.takeWhile (fun c : Nat => (" " : Str).cps.contains c)).length) = _
    rw [g, List.drop_zero]
  obtain ⟨k, hk⟩ := tw_rep (cp x).reverse
  refine ⟨k, ?_⟩
  rw [e]
  have q : cp (strSub x 0 (x.length - ((cp x).reverse.takeWhile (fun c => decide (c = 32))).length)) = (cp x).take ((cp x).length - k) := by
    show (strSub _ _ _).cps.toList = _
    rw [StrLaws.strSub_toList, List.drop_zero, Nat.sub_zero, hk, List.length_replicate, cp_len]
  rw [q]
  have s := (List.takeWhile_append_dropWhile (p := fun c => decide (c = 32)) (l := (cp x).reverse))
  rw [hk] at s
  have s2 := congrArg List.reverse s
  rw [List.reverse_append, List.reverse_reverse, List.reverse_replicate] at s2
  generalize ((cp x).reverse.dropWhile (fun c => decide (c = 32))).reverse = r at s2
  rw [← s2]
  congr 1
  have l2 : (r ++ List.replicate k 32).length - k = r.length := by
    rw [List.length_append, List.length_replicate]; omega
  rw [l2, List.take_left]
theorem wd_rstrip (x : Str) : wd (cp (Txt.rstripChars x " ")) = wd (cp x) := by
  obtain ⟨k, e⟩ := rstrip_cp x
  rw [e, wd_end]
/-- words joined by one space -/
theorem wd_join : ∀ {ws : List Str}, (∀ w ∈ ws, 32 ∉ cp w ∧ cp w ≠ []) → wd (cp (Txt.join ⟨#[32]⟩ ws)) = ws.map cp := by
  intro ws h
  show wd (cp (Builtin.Str.glued ⟨#[32]⟩ ws)) = _
  rw [StrLaws.glued_eq_join, cp_join]
  cases ws with
  | nil => rfl
  | cons w r =>
    unfold wd
    rw [sp_ic 32 _ (by simp) fun p hp => ?_]
    · refine List.filter_eq_self.mpr fun p hp => ?_
      obtain ⟨q, hq, rfl⟩ := List.mem_map.mp hp
      have := (h q hq).2
      cases e : cp q with
      | nil => exact absurd e this
      | cons a b => rfl
    · obtain ⟨q, hq, rfl⟩ := List.mem_map.mp hp
      exact (h q hq).1
/-- a text that was closed by a space: what is behind it has its own words -/
def Cl (t : Str) (ws : List Str) : Prop := ∀ m, wd (cp t ++ m) = ws.map cp ++ wd m
theorem Cl.word {t w : Str} {ws : List Str} {k : Nat} (h : Cl t ws) (h1 : 32 ∉ cp w) (h2 : cp w ≠ []) (hk : 1 ≤ k) {t' : Str} (e : cp t' = cp t ++ cp w ++ List.replicate k 32) : Cl t' (ws ++ [w]) := fun m => by
  obtain ⟨j, rfl⟩ : ∃ j, k = j + 1 := ⟨k - 1, by omega⟩
  rw [e, List.append_assoc, List.append_assoc, h, List.replicate_succ, List.cons_append, wd_app, wd_one h1 h2, wd_rep, List.map_append, List.append_assoc]; rfl
theorem Cl.start {t : Str} {k : Nat} (e : cp t = List.replicate k 32) : Cl t [] := fun m => by rw [e, wd_rep]; rfl
theorem Cl.done {t : Str} {ws : List Str} (h : Cl t ws) : wd (cp t) = ws.map cp := by
  have q := h []
  rw [List.append_nil, wd_nil, List.append_nil] at q
  exact q
end Vf
end
section
set_option Elab.async false
set_option linter.all false
set_option maxRecDepth 100000
set_option maxHeartbeats 4000000
/-! Own layer: methods and classes by their promises; a heap in which some objects change. -/
namespace Vf
open PySem PySem.Spec PyProof.Rows L2 GxR GenW RZ
structure Mf (P : Program) (w : World) (K : PySem.W.Frag) (mg : Str → Option Value) (base : Heap) (C : Addr) (m : Str) (k : Nat) (ps : List Str) (sp : Sp) : Prop where
  ex : ∃ (f : Addr) (fd : FuncData), FnOk P w K mg base CX0 k f fd ps sp ∧ Meth K C m f ∧ Binds K fd ps []
structure Cf (P : Program) (w : World) (K : PySem.W.Frag) (mg : Str → Option Value) (base : Heap) (C : Addr) (x : Str) (k : Nat) (ps : List Str) (sp : Sp) : Prop where
  ex : ∃ (f : Addr) (fd : FuncData), FnOk P w K mg base CX0 k f fd ps sp ∧ Mk K C f ∧ mg x = some (.ref C) ∧ Binds K fd ps []
section
variable {X : Cx} {k j : Nat} {x m : Str} {ps : List Str} {sp : Sp} {p pos apos : Pos} {o e : Expr} {es : List Expr} {to : TE} {t : TA} {C : Addr}
theorem pe_mt {pl : Sem Bool} (c : Cls X.K C) (D : Mf X.prog X.w X.K X.mg X.base C m k ps sp) (hr : Room j X.A) (hk : k ≤ j) (ho : PE X o to) (ha : PA X (e :: es) t)
    (hst : starEach (e :: es) X.env = (false, eval e X.env) :: starEach es X.env := by rfl) (hpl : (backTo pos (starEach es X.env)).any (·.1) = false := by rfl)
    (ht : eval (.Call (.Attribute o m apos) (e :: es) [] pos) X.env = (do
      let ov ← eval o X.env
      standAt apos.atName
      let (f, first) ← holding [ov] (getMethod ov m pl)
      callWith pos f first (backTo pos (starEach (e :: es) X.env)) (backToKw pos (keywordEach [] X.env))) := by rfl) :
    PE X (.Call (.Attribute o m apos) (e :: es) [] pos) (tMeth C m sp [] E0 to t) := by
  obtain ⟨f, fd, F, hm, hb⟩ := D.ex
  exact pe_meth (pl := pl) ho c hm F (hr.mono hk) hb .nil pass0 ha hst hpl ht
theorem pe_mt0 {pl : Sem Bool} (c : Cls X.K C) (D : Mf X.prog X.w X.K X.mg X.base C m k ps sp) (hr : Room j X.A) (hk : k ≤ j) (ho : PE X o to)
    (ht : eval (.Call (.Attribute o m apos) [] [] pos) X.env = (do
      let ov ← eval o X.env
      standAt apos.atName
      let (f, first) ← holding [ov] (getMethod ov m pl)
      callWith pos f first (backTo pos (starEach [] X.env)) (backToKw pos (keywordEach [] X.env))) := by rfl) :
    PE X (.Call (.Attribute o m apos) [] [] pos) (tMeth C m sp [] E0 to tNil) := by
  obtain ⟨f, fd, F, hm, hb⟩ := D.ex
  exact pe_meth0 (pl := pl) ho c hm F (hr.mono hk) hb .nil pass0 ht
theorem pe_mk (D : Cf X.prog X.w X.K X.mg X.base C x k ps sp) (hr : Room j X.A) (hk : k + 1 ≤ j) (hg : Gl X x) (ha : PA X (e :: es) t) (hdb : (x == ("__debug__" : Str)) = false := by decide)
    (he : starEach (e :: es) X.env = (false, eval e X.env) :: starEach es X.env := by rfl) (hpl : (backTo pos (starEach es X.env)).any (·.1) = false := by rfl) : PE X (.Call (.Name x p) (e :: es) [] pos) (tMake C sp [] E0 t) := by
  obtain ⟨f, fd, F, M, hm, hb⟩ := D.ex
  exact pe_make M F (hr.mono hk) hg hm hb .nil pass0 ha hdb he hpl
end
/-! ### a heap in which the objects S change -/
def isFix : HO → Bool
  | .tup _ => true
  | .tbl _ => true
  | _ => false
def GrM (S : List Addr) (H H' : Hp) : Prop := ∀ b o, (b ∉ S ∨ isFix o = true) → H b = some o → (H' b = some o ∨ ∃ ps more, o = .tbl ps ∧ H' b = some (.tbl (ps ++ more)) ∧ (TriplesOk ps.toList → TriplesOk (ps ++ more).toList))
/-- what may change stands there, and is none of those that do not -/
def Mu (H : Hp) (b : Addr) : Prop := ∀ o, H b = some o → isFix o = false
section
variable {S S' : List Addr} {H H' H1 H2 : Hp} {b : Addr} {o : HO}
theorem GrM.refl (S : List Addr) (H : Hp) : GrM S H H := fun _ _ _ h => .inl h
theorem Gr.m (g : Gr H H') : GrM S H H' := fun b o _ h => g b o h
theorem GrM.trans (a : GrM S H H1) (b : GrM S H1 H2) : GrM S H H2 := by
  intro c o hc e
  rcases a c o hc e with h | ⟨ps, more, rfl, h, k⟩
  · exact b c o hc h
  · rcases b c _ (.inr rfl) h with h2 | ⟨ps2, more2, e2, h2, k2⟩
    · exact .inr ⟨ps, more, rfl, h2, k⟩
    · cases e2
      exact .inr ⟨ps, more ++ more2, rfl, by rw [← Array.append_assoc]; exact h2, fun z => by rw [← Array.append_assoc]; exact k2 (k z)⟩
theorem GrM.mono (h : GrM S H H') (hs : ∀ b ∈ S, b ∈ S') : GrM S' H H' := fun b o hb e => h b o (hb.imp (fun z y => z (hs b y)) id) e
theorem GrM.keep (g : GrM S H H') (hb : b ∉ S) (h : H b = some o) (n : ∀ ps, o ≠ .tbl ps) : H' b = some o := by
  rcases g b o (.inl hb) h with e | ⟨ps, _, e, _⟩
  · exact e
  · exact absurd e (n ps)
theorem GrM.tup {xs : List V} (g : GrM S H H') (h : H b = some (.tup xs)) : H' b = some (.tup xs) := by
  rcases g b _ (.inr rfl) h with e | ⟨ps, _, e, _⟩
  · exact e
  · cases e
theorem GrM.upd (g : GrM S H H') (hb : b ∈ S) (hm : Mu H b) : GrM S H (L2.upd H' b o) := by
  intro c w hc e
  by_cases z : c = b
  · subst z
    rcases hc with hc | hc
    · exact absurd hb hc
    · rw [hm w e] at hc; cases hc
  · rw [upd_ne z]
    exact g c w hc e
theorem GrM.new (g : GrM S H H') (hb : H b = none) : GrM S H (L2.upd H' b o) := by
  intro c w hc e
  rw [upd_ne (ne_of_none e hb)]
  exact g c w hc e
theorem GrM.drop (g : GrM S' H H') (hs : ∀ b ∈ S', b ∈ S ∨ H b = none) : GrM S H H' := fun b o hb e => by
  refine g b o ?_ e
  rcases hb with hb | hb
  · refine .inl fun z => ?_
    rcases hs b z with y | y
    · exact hb y
    · rw [e] at y; cases y
  · exact .inr hb
theorem GrM.gr (g : GrM S H H') (hs : ∀ b ∈ S, H b = none) : Gr H H' := fun b o e => by
  refine g b o (.inl fun z => ?_) e
  rw [hs b z] at e; cases e
theorem GrM.free (g : GrM S H H') (hb : b ∉ S) (h : H' b = none) : H b = none := by
  cases q : H b with
  | none => rfl
  | some o =>
    rcases g b o (.inl hb) q with h1 | ⟨_, _, _, h1, _⟩
    · rw [h] at h1; cases h1
    · rw [h] at h1; cases h1
theorem GrM.tabG {P : Addr} (g : GrM S H H') (h : TabG H P) : TabG H' P := by
  obtain ⟨ps, h1, h2⟩ := h
  rcases g P _ (.inr rfl) h1 with e | ⟨ps2, more, e, e2, k⟩
  · exact ⟨ps, e, h2⟩
  · cases e
    exact ⟨_, e2, k h2⟩
theorem GrM.seqT {K : PySem.W.Frag} {a : Addr} {xs : List V} (g : GrM S H H') (h : SqT K H a xs) (hf : ∀ o ys, H a ≠ some (.frz o ys)) : SqT K H' a xs := by
  rcases h with (h | ⟨o, h⟩) | h
  · exact .inl (.inl (g.tup h))
  · exact absurd h (hf _ _)
  · exact .inr h
theorem Mu.ins {C dx : Addr} {fs : List (Str × V)} (h : H b = some (.ins C dx fs)) : Mu H b := fun o e => by rw [h] at e; cases e; rfl
theorem Mu.lst {xs : List V} (h : H b = some (.lst xs)) : Mu H b := fun o e => by rw [h] at e; cases e; rfl
theorem Mu.dk {xs : List (Key × V)} (h : H b = some (.dK xs)) : Mu H b := fun o e => by rw [h] at e; cases e; rfl
theorem Mu.none (h : H b = Option.none) : Mu H b := fun o e => by rw [h] at e; cases e
end
/-- any text, any number of times -/
def rMulA : R2 := fun x y H Q => ∃ (z : Str) (k : Nat), x = .str z ∧ y = .int k ∧ k ≤ 1000 ∧ 0 < z.length ∧ z.length ≤ 1000 ∧ ∀ r : Str, cp r = (List.replicate k (cp z)).flatten → Q (.str r) H
theorem fold_cp (z : Array Nat) : ∀ (k : Nat) (a : Array Nat), ((List.replicate k z).foldl (· ++ ·) a).toList = a.toList ++ (List.replicate k z.toList).flatten
  | 0, a => by simp
  | k + 1, a => by
    rw [List.replicate_succ, List.foldl_cons, fold_cp z k, Array.toList_append, List.replicate_succ, List.flatten_cons, List.append_assoc]
section
variable {X : Cx}
theorem op_mulA : OpR X (binaryOp .Mult) rMulA := by
  intro pins s σ H x y v u Q I rx ry h
  obtain ⟨z, k, rfl, rfl, h2, h3, h4, q⟩ := h
  obtain ⟨t, rfl⟩ := rx
  obtain ⟨t', rfl⟩ := ry
  have lz : z.length * k ≤ 1000000 := Nat.le_trans (Nat.mul_le_mul h4 h2) (by decide)
  have tn : ((k : Int)).toNat = k := Int.toNat_natCast k
  refine PySem.P.mul_str ?_ (fun h1 _ => ?_) (fun _ _ => ?_) ?_
  · rw [decide_eq_false (by omega), decide_eq_false (by omega)]
    rfl
  · have a1 : (1000 : Int) ≤ (2 ^ 63 - 1) / (k : Int) := by
      refine Int.le_ediv_of_mul_le (by omega) ?_
      omega
    omega
  · rw [tn]
    show decide (_ > sizeLine) = false
    rw [sizeLine_eq]
    exact decide_eq_false (by omega)
  · by_cases c0 : (k : Int) < 1
    · rw [if_pos c0]
      have k0 : k = 0 := by omega
      subst k0
      exact ⟨by rw [sizeLine_eq]; decide, .str _, H, I.tok _, ⟨_, rfl⟩, q _ rfl⟩
    · rw [if_neg c0]
      by_cases c1 : k = 1
      · subst c1
        exact ⟨.str z, H, I, ⟨_, rfl⟩, q z (by show cp z = (List.replicate 1 (cp z)).flatten; rw [List.replicate_one, List.flatten_singleton])⟩
      · have c2 : ((k : Int) == 1 || z.length == 0) = false := by
          rw [beq_eq_false_iff_ne.mpr (show (k : Int) ≠ 1 by omega), beq_eq_false_iff_ne.mpr (show z.length ≠ 0 by omega)]
          rfl
        rw [if_neg (by rw [c2]; decide), tn]
        have e : cp (⟨(List.replicate k z.cps).foldl (· ++ ·) #[]⟩ : Str) = (List.replicate k (cp z)).flatten := by
          show ((List.replicate k z.cps).foldl (· ++ ·) #[]).toList = _
          rw [fold_cp]; rfl
        refine ⟨?_, .str _, H, I.tok _, ⟨_, rfl⟩, q _ e⟩
        have l := congrArg List.length e
        rw [cp_len] at l
        rw [l, List.length_flatten, List.map_replicate, List.sum_replicate_nat, cp_len, sizeLine_eq]
        rw [Nat.mul_comm]
        omega
structure rMuX (K : PySem.W.Frag) (x y : V) (H : Hp) (Q : VK) : Prop where
  h : rMuW K x y H Q ∨ rMulA x y H Q
theorem u_mulX {K : PySem.W.Frag} (hK : X.K = K) : OpR X (binaryOp .Mult) (rMuX K) := by
  subst hK
  exact fun pins s σ H x y v u Q I rx ry h => (OpR.or (u_mulW rfl) op_mulA) pins s σ H x y v u Q I rx ry h.h
end
theorem mx_s {K : PySem.W.Frag} {H : Hp} {Q : VK} {z : Str} {k : Nat} (h2 : k ≤ 1000) (h3 : 0 < z.length) (h4 : z.length ≤ 1000) (q : ∀ r : Str, cp r = (List.replicate k (cp z)).flatten → Q (.str r) H) : rMuX K (.str z) (.int k) H Q := ⟨.inr ⟨z, k, rfl, rfl, h2, h3, h4, q⟩⟩
theorem mx_w {K : PySem.W.Frag} {x y : V} {H : Hp} {Q : VK} (h : rMuW K x y H Q) : rMuX K x y H Q := ⟨.inl h⟩
end Vf
end
section
set_option Elab.async false
set_option linter.all false
set_option maxRecDepth 100000
set_option maxHeartbeats 4000000
/-! Own layer: list.extend with a tuple. -/
namespace PySem
theorem vf_extend_tuple (l : Addr) (items : Array Value) (n : Nat) (b : Addr) (ob : Obj) (items2 : Array Value) (n2 : Nat) (hc : ob.cls = .type "tuple") (hd : ob.data = .seq items2 n2) (hs0 : ¬(!items.isEmpty && Builtin.List.listTooLong (items.size + items2.size)) = true) (hs1 : items.size ≤ sizeLine) (hs2 : items.size + items2.size ≤ sizeLine + 1) :
    Meets (Builtin.«list.extend» ⟨[.ref l, .ref b], []⟩) (fun _ R s => s.heap.get? l = some { cls := .type "list", dict := none, data := .seq items n, slots := #[] } ∧ s.heap.get? b = some ob ∧ R (.ok (.ret Value.none)) { s with heap := s.heap.update l (Obj.mapSeq fun x => x ++ items2), toks := s.toks }) :=
  .of_wp fun prog w A R s h => by
    obtain ⟨hp, g, d, tk, os⟩ := s; obtain ⟨hl, hb, h⟩ := h; obtain ⟨oc, od, oda, osl⟩ := ob; dsimp only at hc hd; subst hc hd
    have f1 := F.sub_tuple_tuple; have f5 := F.sub_list_tuple
    have hz' : (items ++ items2).size ≤ sizeLine + 1 := by rw [Array.size_append]; exact hs2
    wp_walk using (wpAny_updateSeq hl rfl (hz := hs1) (_hz' := hz')), wpAny_loadPart' hl, wpAny_loadPart' hb; exact ⟨_, rfl, h⟩
end PySem
namespace Vf
open PySem PySem.Spec PyProof.Rows L2 GxR GenW RZ
section
variable {X : Cx}
def rExtT (K : PySem.W.Frag) : V → List V → Hp → VK → Prop := fun x vs H Q => ∃ l b xs zs, x = .ref l ∧ vs = [.ref b] ∧ H l = some (.lst xs) ∧ SqT K H b zs ∧ xs.length + zs.length ≤ sizeLine ∧ Q .non (upd H l (.lst (xs ++ zs)))
theorem mt_extT : MtR X "list.extend" (rExtT X.K) := by
  intro pins s σ H x vs v us Q I rx rv h
  obtain ⟨l, b, xs, zs, rfl, rfl, hH, hB, hz, q⟩ := h
  cases rx
  obtain ⟨u, rfl, ru⟩ := rv.one
  cases ru
  obtain ⟨z, its, n, r, hl, e⟩ := I.lstM hH
  obtain ⟨its2, r2, ⟨ob, ho, hc, n2, hd⟩, hz2⟩ := I.tuple hB
  have hl2 := r2.length
  have hsz : its.toArray.size + its2.toArray.size ≤ sizeLine := by rw [List.size_toArray, List.size_toArray]; omega
  have hlong : ¬ (!its.toArray.isEmpty && Builtin.List.listTooLong (its.toArray.size + its2.toArray.size)) = true := by
    rw [notLongL hsz, Bool.and_false]
    exact Bool.false_ne_true
  refine call_meets F.slot_list_extend ⟨_, e, rfl⟩ F.entry_list_extend (F.args_list_extend_2 _ _)
    (PySem.vf_extend_tuple l its.toArray n b ob its2.toArray n2 hc hd hlong (by rw [List.size_toArray]; omega) (by omega)) ⟨e, ho, ?_⟩
  refine ⟨.non, _, I.lset (its' := its ++ its2) hH e (by simp) (r.append r2) ?_, rfl, q⟩
  rw [List.length_append]
  omega
end
end Vf
end
section
set_option Elab.async false
set_option linter.all false
set_option maxRecDepth 100000
set_option maxHeartbeats 4000000
/-! Own layer: (a, b, c).index(x), the tuple written where it is asked. -/
namespace Vf
open PySem PySem.Spec PyProof.Rows L2 GxR GenW RZ
def rTupIx (K : PySem.W.Frag) : V → List V → Hp → VK → Prop := fun x xs H Q => ∃ p, ∃ ys : List Str, ∃ z j, x = .ref p ∧ xs = [.str z] ∧ SqT K H p (ys.map V.str) ∧ ys[j]? = some z ∧ (∀ m, m < j → ys[m]? ≠ some z) ∧ Q (.int (j : Nat)) H
section
variable {X : Cx} {K : PySem.W.Frag} {e : Expr} {es : List Expr} {t ta : TA} {x1 : Nat} {tp apos cpos : Pos}
theorem pe_tupIx (hK : X.K = K) (ht : PA X es t) (ha : PA X [e] ta)
    (hbase : attributeBase (.Tuple es x1 tp) "index" X.env (eval (.Tuple es x1 tp) X.env) = eval (.Tuple es x1 tp) X.env := by rfl)
    (hfew : ((backTo cpos (starEach [e] X.env)).all (fun x => !x.1) && (backToKw cpos (keywordEach [] X.env)).all (fun x => x.1.isSome)
      && decide ([e].length + ([] : List Keyword).length + (if ([] : List Keyword).isEmpty then 0 else 1) < 30)) = true := by rfl)
    (hline : (apos.endLine == cpos.line) = true := by rfl) (hs : starEach [e] X.env = (false, eval e X.env) :: starEach [] X.env := by rfl) (hplain : (backTo cpos (starEach [] X.env)).any (·.1) = false := by rfl) :
    PE X (.Call (.Attribute (.Tuple es x1 tp) "index" apos) [e] [] cpos) (fun σ H Q => tTup t σ H fun x H1 => ta σ H1 fun xs H2 => rTupIx K x xs H2 Q) := by
  subst hK
  refine ⟨fun pins s σ H Q I h => ?_⟩
  refine wpAny_Call_method_late hbase hfew hline rfl ?_
  refine wpAny_Tuple_spliced (thn (ht.run tp pins s σ H _ I h) fun us s1 ⟨xs, H1, I1, r, z, q⟩ => ⟨by rw [← r.length]; exact z, ?_⟩)
  have hf : H1 s1.heap.objs.size = none := I1.hok.fresh (Nat.le_refl _)
  have hp : ({ s1 with heap := s1.heap.push { cls := .type "tuple", data := .seq us.toArray } } : Shared).heap.get? s1.heap.objs.size = some { cls := .type "tuple", data := .seq us.toArray } := Heap.get?_push_size _ rfl
  have I2 : Inv X pins σ (upd H1 s1.heap.objs.size (.tup xs)) { s1 with heap := s1.heap.push { cls := .type "tuple", data := .seq us.toArray } } := I1.laid (t' := s1.toks) (fun b u e => Heap.get?_push_of_some _ e) (Nat.le_refl _) ⟨z, us, r, ⟨_, hp, rfl, _, rfl⟩⟩
  refine ⟨"tuple", "tuple.index", F.plainAttrs_tuple, F.slot_tuple_index, F.type_tuple_index, ⟨_, hp, rfl⟩, (fun a e => by cases e; exact ⟨_, hp, rfl⟩), ?_⟩
  have hA := ha.run cpos pins _ σ _ _ I2 (q _ hf)
  rw [hs] at hA ⊢
  refine Calls.callWith_builtin (by show (false || (backTo cpos (starEach [] X.env)).any (·.1)) = false; rw [hplain] <;> rfl) (Calls.evalArgs_plain ?_)
  exact thn hA fun us s2 ⟨vs, H2, I2, r2, q2⟩ => mt_tup_index pins s2 σ H2 (.ref s1.heap.objs.size) vs _ us Q I2 rfl r2 q2
end
end Vf
end
section
set_option Elab.async false
set_option linter.all false
set_option maxRecDepth 100000
set_option maxHeartbeats 4000000
/-! Own layer: any text no times. -/
namespace Vf
open PySem PySem.Spec PyProof.Rows L2 GxR GenW RZ
def rMulZ : R2 := fun x y H Q => ∃ z : Str, x = .str z ∧ y = .int 0 ∧ z.length ≤ 1000 ∧ ∀ r : Str, cp r = [] → Q (.str r) H
section
variable {X : Cx}
theorem op_mulZ : OpR X (binaryOp .Mult) rMulZ := by
  intro pins s σ H x y v u Q I rx ry h
  obtain ⟨z, rfl, rfl, h4, q⟩ := h
  obtain ⟨t, rfl⟩ := rx
  obtain ⟨t', rfl⟩ := ry
  refine PySem.P.mul_str ?_ (fun h1 _ => ?_) (fun _ _ => ?_) ?_
  · rw [decide_eq_false (by omega), decide_eq_false (by omega)]
    rfl
  · omega
  · show decide (_ > sizeLine) = false
    rw [sizeLine_eq]
    exact decide_eq_false (by show ¬ z.length * 0 > _; omega)
  · rw [if_pos (by omega)]
    exact ⟨by rw [sizeLine_eq]; decide, .str _, H, I.tok _, ⟨_, rfl⟩, q _ rfl⟩
structure rMuY (K : PySem.W.Frag) (x y : V) (H : Hp) (Q : VK) : Prop where
  h : rMuX K x y H Q ∨ rMulZ x y H Q
theorem u_mulY {K : PySem.W.Frag} (hK : X.K = K) : OpR X (binaryOp .Mult) (rMuY K) :=
  fun pins s σ H x y v u Q I rx ry h => (OpR.or (u_mulX hK) op_mulZ) pins s σ H x y v u Q I rx ry h.h
end
theorem my_any {K : PySem.W.Frag} {H : Hp} {Q : VK} {z : Str} {k : Nat} (h2 : k ≤ 1000) (h3 : z.length = 0 → k = 0) (h4 : z.length ≤ 1000) (q : ∀ r : Str, cp r = (List.replicate k (cp z)).flatten → Q (.str r) H) : rMuY K (.str z) (.int k) H Q := by
  refine ⟨?_⟩
  by_cases h0 : z.length = 0
  · have k0 := h3 h0
    subst k0
    exact .inr ⟨z, rfl, rfl, h4, fun r hr => q r hr⟩
  · exact .inl (mx_s h2 (by omega) h4 q)
end Vf
end
section
set_option Elab.async false
set_option linter.all false
set_option maxRecDepth 100000
set_option maxHeartbeats 4000000
/-! Own layer: what a test's or a term's word asks grows with its answer (for while). -/
namespace Vf
open PySem PySem.Spec PyProof.Rows L2 GxR GenW RZ
def MoE (t : TE) : Prop := ∀ σ H (Q Q' : VK), (∀ v H1, Q v H1 → Q' v H1) → t σ H Q → t σ H Q'
def MoA (t : TA) : Prop := ∀ σ H (Q Q' : List V → Hp → Prop), (∀ v H1, Q v H1 → Q' v H1) → t σ H Q → t σ H Q'
def MoT (t : TT) : Prop := ∀ σ H (Q Q' : Bool → Hp → Prop), (∀ b H1, Q b H1 → Q' b H1) → t σ H Q → t σ H Q'
def MoR (r : R2) : Prop := ∀ x y H (Q Q' : VK), (∀ v H1, Q v H1 → Q' v H1) → r x y H Q → r x y H Q'
theorem mo_var (i : Nat) : MoE (tVar i) := fun σ H Q Q' h ⟨v, e, q⟩ => ⟨v, e, h _ _ q⟩
theorem mo_c (v : V) : MoE (tC v) := fun σ H Q Q' h q => h _ _ q
theorem mo_op {r : R2} {a b : TE} (hr : MoR r) (ha : MoE a) (hb : MoE b) : MoE (tOp r a b) := fun σ H Q Q' h q => ha σ H _ _ (fun x H1 q1 => hb σ H1 _ _ (fun y H2 q2 => hr x y H2 _ _ h q2) q1) q
theorem mo_nil : MoA tNil := fun σ H Q Q' h q => h _ _ q
theorem mo_cons {a : TE} {t : TA} (ha : MoE a) (ht : MoA t) : MoA (tCons a t) := fun σ H Q Q' h q => ha σ H _ _ (fun x H1 q1 => ht σ H1 _ _ (fun xs H2 q2 => h _ _ q2) q1) q
theorem mo_len {K : PySem.W.Frag} {t : TA} (ht : MoA t) : MoE (tCB (fun xs H Q => ∃ x n, xs = [x] ∧ LenV K x H n ∧ Q (.int n) H) t) := fun σ H Q Q' h q => ht σ H _ _ (fun xs H1 ⟨x, n, e, l, q1⟩ => ⟨x, n, e, l, h _ _ q1⟩) q
theorem mo_test {t : TE} (ht : MoE t) : MoT (tTest t) := fun σ H Q Q' h q => ht σ H _ _ (fun v H1 ⟨k, e, q1⟩ => ⟨k, e, h _ _ q1⟩) q
theorem mo_and {t u : TT} (ht : MoT t) (hu : MoT u) : MoT (tAnd t u) := fun σ H Q Q' h q => ht σ H _ _ (fun c H1 q1 => by
  cases c with
  | true => exact hu σ H1 _ _ h q1
  | false => exact h _ _ q1) q
theorem mo_or {t u : TT} (ht : MoT t) (hu : MoT u) : MoT (tOr t u) := fun σ H Q Q' h q => ht σ H _ _ (fun c H1 q1 => by
  cases c with
  | true => exact h _ _ q1
  | false => exact hu σ H1 _ _ h q1) q
theorem mo_not {t : TT} (ht : MoT t) : MoT (tNot t) := fun σ H Q Q' h q => ht σ H _ _ (fun c H1 q1 => h _ _ q1) q
theorem mo_lt : MoR rLtU := fun x y H Q Q' h q => by
  rcases q.h with ⟨i, j, e1, e2, q⟩ | ⟨i, j, e1, e2, q⟩
  · exact ⟨.inl ⟨i, j, e1, e2, h _ _ q⟩⟩
  · exact ⟨.inr ⟨i, j, e1, e2, h _ _ q⟩⟩
theorem mo_le : MoR rLeU := fun x y H Q Q' h q => by
  rcases q.h with ⟨i, j, e1, e2, q⟩ | ⟨i, j, e1, e2, q⟩
  · exact ⟨.inl ⟨i, j, e1, e2, h _ _ q⟩⟩
  · exact ⟨.inr ⟨i, j, e1, e2, h _ _ q⟩⟩
theorem mo_gt : MoR rGt := fun x y H Q Q' h ⟨⟨i, j, e1, e2, q⟩⟩ => ⟨⟨i, j, e1, e2, h _ _ q⟩⟩
theorem mo_ge : MoR rGe := fun x y H Q Q' h ⟨⟨i, j, e1, e2, q⟩⟩ => ⟨⟨i, j, e1, e2, h _ _ q⟩⟩
theorem mo_eq {K : PySem.W.Frag} : MoR (rEqU K) := fun x y H Q Q' h q => by
  rcases q.h with ⟨e, q⟩ | ⟨d, e, h1, h2, h3, h4, q⟩
  · exact ⟨.inl ⟨e, h _ _ q⟩⟩
  · exact ⟨.inr ⟨d, e, h1, h2, h3, h4, h _ _ q⟩⟩
theorem mo_ne {K : PySem.W.Frag} : MoR (rNeU K) := fun x y H Q Q' h q => by
  rcases q.h with ⟨e, q⟩ | ⟨d, e, h1, h2, h3, h4, q⟩
  · exact ⟨.inl ⟨e, h _ _ q⟩⟩
  · exact ⟨.inr ⟨d, e, h1, h2, h3, h4, h _ _ q⟩⟩
theorem mo_ix {K : PySem.W.Frag} : MoR (rIxU K) := fun x y H Q Q' h q => by
  rcases q.h with ⟨p, xs, i, v, e1, e2, e3, e4, q⟩ | ⟨p, xs, i, v, e1, e2, e3, e4, q⟩ | ⟨z, i, c, e1, e2, e3, e4, q⟩
  · exact ⟨.inl ⟨p, xs, i, v, e1, e2, e3, e4, h _ _ q⟩⟩
  · exact ⟨.inr (.inl ⟨p, xs, i, v, e1, e2, e3, e4, h _ _ q⟩)⟩
  · exact ⟨.inr (.inr ⟨z, i, c, e1, e2, e3, e4, h _ _ q⟩)⟩
end Vf
end
section
set_option Elab.async false
set_option linter.all false
set_option maxRecDepth 100000
set_option maxHeartbeats 4000000
/-! Own layer: dict comprehensions; dicts and sequences of tuples. -/
namespace Vf
open PySem PySem.Spec PyProof.Rows L2 GxR GenW RZ
section
variable {K : PySem.W.Frag} {g : TG} {tt : TT} {tk tv : TE} {vs : List Nat} {σ : L2.St} {H1 : Hp} {D a : Addr} {Qd : Hp → Prop} {xs : List V}
theorem dc_tup (Pv : Nat → Hp → Prop) (h0 : Pv 0 (upd H1 D (.dK []))) (hl : ∀ i H, i ≤ xs.length → Pv i H → SqT K H a xs)
    (hs : ∀ i x H, xs[i]? = some x → Pv i H → g x (wipe σ vs) H fun σ2 H2 => wipe σ2 vs = wipe σ vs ∧ tt σ2 H2 fun b H3 =>
      if b = true then tk σ2 H3 fun y H4 => tv σ2 H4 fun z H5 => ∃ kvs k, y = kV k ∧ H5 D = some (.dK kvs) ∧ kvs.length < sizeLine ∧ Pv (i + 1) (upd H5 D (.dK (putK kvs k z))) else Pv (i + 1) H3) (hd : ∀ H, Pv xs.length H → Qd H) :
    ∃ W : Nat → Nat → Hp → Prop, (∃ m, W 0 m (upd H1 D (.dK []))) ∧ ∀ i m H, W i m H →
      ((Itt K a).stop i H ∧ Qd H) ∨ ((Itt K a).go i H ∧ ∃ Nx : Hp → Prop, (∀ H', Nx H' → ∃ m', m' < m ∧ W (i + 1) m' H') ∧ ∀ x H', (Itt K a).yld i H x H' → g x (wipe σ vs) H' fun σ2 H2 => wipe σ2 vs = wipe σ vs ∧ tt σ2 H2 fun b H3 =>
        if b = true then tk σ2 H3 fun y H4 => tv σ2 H4 fun z H5 => ∃ kvs k, y = kV k ∧ H5 D = some (.dK kvs) ∧ kvs.length < sizeLine ∧ Nx (upd H5 D (.dK (putK kvs k z))) else Nx H3) := by
  refine ⟨fun i m H => m = xs.length - i ∧ i ≤ xs.length ∧ Pv i H, ⟨xs.length, by simp, Nat.zero_le _, h0⟩, ?_⟩
  rintro i m H ⟨rfl, hi, p⟩
  have q := hl i H hi p
  by_cases hlt : i < xs.length
  · refine .inr ⟨⟨xs, xs[i], q, by simp [hlt]⟩, Pv (i + 1), fun H' p' => ⟨xs.length - (i + 1), by omega, rfl, hlt, p'⟩, fun x H' y => ?_⟩
    obtain ⟨e, y⟩ := y
    subst e
    exact hs i x _ (y xs q) p
  · have e : i = xs.length := by omega
    subst e
    exact .inl ⟨⟨xs, q, Nat.le_refl _⟩, hd H p⟩
end
/-! ### dicts of tuples, sequences of tuples -/
section
variable {α : Type}
/-- the dict's items are the things F, by their keys -/
def KB (K : PySem.W.Frag) (key : α → Str) (val : α → List V) (H : Hp) (kvs : List (Key × V)) (F : List α) : Prop := kvs.length = F.length ∧ ∀ (j : Nat) (a : α), F[j]? = some a → ∃ t : Addr, kvs[j]? = some ((Sum.inr (key a) : Key), V.ref t) ∧ SqT K H t (val a)
/-- the sequence's items are the things F -/
def RB (K : PySem.W.Frag) (val : α → List V) (H : Hp) (xs : List V) (F : List α) : Prop := xs.length = F.length ∧ ∀ (j : Nat) (a : α), F[j]? = some a → ∃ t : Addr, xs[j]? = some (V.ref t) ∧ SqT K H t (val a)
variable {K : PySem.W.Frag} {key : α → Str} {val : α → List V} {H H' : Hp} {kvs : List (Key × V)} {F : List α} {xs : List V}
theorem KB.nil : KB K key val H [] [] := ⟨rfl, fun j a e => by simp at e⟩
theorem KB.mono (h : KB K key val H kvs F) (g : ∀ t ys, SqT K H t ys → SqT K H' t ys) : KB K key val H' kvs F := ⟨h.1, fun j a e => by
  obtain ⟨t, e1, e2⟩ := h.2 j a e
  exact ⟨t, e1, g _ _ e2⟩⟩
theorem KB.gr (h : KB K key val H kvs F) (g : Gr H H') : KB K key val H' kvs F := h.mono fun _ _ q => g.seqT q
theorem KB.snoc {t : Addr} {a : α} (h : KB K key val H kvs F) (ht : SqT K H t (val a)) : KB K key val H (kvs ++ [((Sum.inr (key a) : Key), V.ref t)]) (F ++ [a]) := by
  refine ⟨by rw [List.length_append, List.length_append, h.1]; rfl, fun j b e => ?_⟩
  by_cases hj : j < F.length
  · rw [List.getElem?_append_left hj] at e
    obtain ⟨t, e1, e2⟩ := h.2 j b e
    exact ⟨t, by rw [List.getElem?_append_left (by rw [h.1]; exact hj)]; exact e1, e2⟩
  · have je : j = F.length := by
      have := (List.getElem?_eq_some_iff.mp e).1
      rw [List.length_append, List.length_singleton] at this
      omega
    subst je
    rw [List.getElem?_append_right (Nat.le_refl _), Nat.sub_self] at e
    cases e
    exact ⟨t, by rw [List.getElem?_append_right (by rw [h.1]; exact Nat.le_refl _), h.1, Nat.sub_self]; rfl, ht⟩
theorem KB.keys (h : KB K key val H kvs F) : kvs.map (·.1) = (F.map key).map (fun x => (Sum.inr x : Key)) := by
  refine List.ext_getElem? fun j => ?_
  rw [List.getElem?_map, List.getElem?_map, List.getElem?_map]
  cases e : F[j]? with
  | none =>
    have hn : kvs[j]? = none := by
      rw [List.getElem?_eq_none_iff, h.1]
      exact List.getElem?_eq_none_iff.mp e
    rw [hn]; rfl
  | some a =>
    obtain ⟨t, e1, _⟩ := h.2 j a e
    rw [e1]; rfl
theorem valV_at {kvs : List (Key × V)} {k : Key} {v : V} : ∀ {j : Nat}, kvs[j]? = some (k, v) → (∀ i, i < j → ∀ p, kvs[i]? = some p → p.1 ≠ k) → valV kvs k = some v := by
  induction kvs with
  | nil => intro j h; simp at h
  | cons p kvs ih =>
    intro j h hn
    cases j with
    | zero =>
      cases h
      exact valV_pos rfl
    | succ j =>
      rw [valV_neg (hn 0 (Nat.succ_pos j) p rfl)]
      exact ih h fun i hi q hq => hn (i + 1) (by omega) q hq
theorem nodup_at {β : Type} : ∀ {l : List β}, l.Nodup → ∀ {i j : Nat} {x : β}, l[i]? = some x → l[j]? = some x → i = j
  | [], _, i, j, x, h, _ => by simp at h
  | a :: l, nd, i, j, x, h1, h2 => by
    have nd2 := List.nodup_cons.mp nd
    cases i with
    | zero =>
      cases h1
      cases j with
      | zero => rfl
      | succ j => exact absurd (List.mem_of_getElem? (show l[j]? = some a from h2)) nd2.1
    | succ i =>
      cases j with
      | zero =>
        cases h2
        exact absurd (List.mem_of_getElem? (show l[i]? = some a from h1)) nd2.1
      | succ j => rw [nodup_at nd2.2 (show l[i]? = some x from h1) (show l[j]? = some x from h2)]
theorem KB.get (h : KB K key val H kvs F) (nd : (F.map key).Nodup) {a : α} (ha : a ∈ F) : ∃ t : Addr, valV kvs (Sum.inr (key a) : Key) = some (V.ref t) ∧ SqT K H t (val a) := by
  obtain ⟨j, hj⟩ := List.getElem?_of_mem ha
  obtain ⟨t, e1, e2⟩ := h.2 j a hj
  refine ⟨t, valV_at e1 fun i hi p hp => ?_, e2⟩
  have il : i < F.length := by
    have := (List.getElem?_eq_some_iff.mp hj).1
    omega
  obtain ⟨t2, e3, _⟩ := h.2 i F[i] (List.getElem?_eq_getElem il)
  rw [e3] at hp
  cases hp
  intro z
  have q := Sum.inr.inj z
  have q1 : (F.map key)[i]? = some (key a) := by rw [List.getElem?_map, List.getElem?_eq_getElem il]; exact congrArg some q
  have q2 : (F.map key)[j]? = some (key a) := by rw [List.getElem?_map, hj]; rfl
  have := nodup_at nd q1 q2
  omega
theorem putK_new {kvs : List (Key × V)} {k : Key} {v : V} (h : valV kvs k = none) : putK kvs k v = kvs ++ [(k, v)] := by
  unfold putK
  rw [valV_any, h]
  rfl
theorem KB.none (h : KB K key val H kvs F) {x : Str} (hx : ∀ a ∈ F, key a ≠ x) : valV kvs (Sum.inr x : Key) = Option.none := by
  unfold valV
  rw [List.find?_eq_none.mpr ?_]
  · rfl
  · intro p hp
    obtain ⟨j, hj⟩ := List.getElem?_of_mem hp
    have jl : j < F.length := by rw [← h.1]; exact (List.getElem?_eq_some_iff.mp hj).1
    obtain ⟨t, e1, _⟩ := h.2 j F[j] (List.getElem?_eq_getElem jl)
    rw [hj] at e1
    cases e1
    have n := hx F[j] (List.getElem_mem jl)
    simp only [decide_eq_true_eq]
    exact fun z => n (Sum.inr.inj z)
theorem RB.nil : RB K val H [] [] := ⟨rfl, fun j a e => by simp at e⟩
theorem RB.mono (h : RB K val H xs F) (g : ∀ t ys, SqT K H t ys → SqT K H' t ys) : RB K val H' xs F := ⟨h.1, fun j a e => by
  obtain ⟨t, e1, e2⟩ := h.2 j a e
  exact ⟨t, e1, g _ _ e2⟩⟩
theorem RB.gr (h : RB K val H xs F) (g : Gr H H') : RB K val H' xs F := h.mono fun _ _ q => g.seqT q
theorem RB.snoc {t : Addr} {a : α} (h : RB K val H xs F) (ht : SqT K H t (val a)) : RB K val H (xs ++ [V.ref t]) (F ++ [a]) := by
  refine ⟨by rw [List.length_append, List.length_append, h.1]; rfl, fun j b e => ?_⟩
  by_cases hj : j < F.length
  · rw [List.getElem?_append_left hj] at e
    obtain ⟨t, e1, e2⟩ := h.2 j b e
    exact ⟨t, by rw [List.getElem?_append_left (by rw [h.1]; exact hj)]; exact e1, e2⟩
  · have je : j = F.length := by
      have := (List.getElem?_eq_some_iff.mp e).1
      rw [List.length_append, List.length_singleton] at this
      omega
    subst je
    rw [List.getElem?_append_right (Nat.le_refl _), Nat.sub_self] at e
    cases e
    exact ⟨t, by rw [List.getElem?_append_right (by rw [h.1]; exact Nat.le_refl _), h.1, Nat.sub_self]; rfl, ht⟩
theorem RB.at_ (h : RB K val H xs F) {i : Nat} {x : V} (hx : xs[i]? = some x) : ∃ (a : α) (t : Addr), F[i]? = some a ∧ x = .ref t ∧ SqT K H t (val a) := by
  have il : i < F.length := by rw [← h.1]; exact (List.getElem?_eq_some_iff.mp hx).1
  obtain ⟨t, e1, e2⟩ := h.2 i F[i] (List.getElem?_eq_getElem il)
  rw [hx] at e1
  exact ⟨F[i], t, List.getElem?_eq_getElem il, Option.some.inj e1, e2⟩
theorem RB.mem (h : RB K val H xs F) {x : V} (hx : x ∈ xs) : ∃ (a : α) (t : Addr), a ∈ F ∧ x = .ref t ∧ SqT K H t (val a) := by
  obtain ⟨i, hi⟩ := List.getElem?_of_mem hx
  obtain ⟨a, t, e, r⟩ := h.at_ hi
  exact ⟨a, t, List.mem_of_getElem? e, r⟩
end
end Vf
end
section
set_option Elab.async false
set_option linter.all false
set_option maxRecDepth 100000
set_option maxHeartbeats 4000000
/-! Own layer: defs that let exceptions out, by their promises; an exception that is caught and kept as a value. -/
namespace Vf
open PySem PySem.Spec PyProof.Rows L2 GxR GenW RZ
/-- at a: an exception that was caught; its class, its dict -/
def CxO (cls : Value) (d : Option Addr) (a : Addr) : HO := .ext fun h => ∃ (ob : Obj) (fv : Array Value), h.get? a = some ob ∧ Zc cls d ob ∧ ob.data = .fields fv
theorem cxO_ok {P : Program} {w : World} {H : Hp} {h : Heap} {a : Addr} {cls : Value} {d : Option Addr} {ob : Obj} {fv : Array Value} (h1 : h.get? a = some ob) (h2 : Zc cls d ob) (h3 : ob.data = .fields fv) : ObjOk P w H h a (CxO cls d a) :=
  ⟨⟨ob, fv, h1, h2, h3⟩, ⟨ob, h1⟩, fun _ _ ⟨x, y, z1, z2⟩ k => ⟨x, y, k x z1, z2⟩⟩
/-- the clause's wish: the exception stays, as a value -/
def wKp (K : PySem.W.Frag) (c : Value) (i : Nat) (ts : Addr → TS) (Wo : WX) (D : L2.Ends) : WX := fun cls d σ H => ∃ b, PySem.W.exmOne K cls c = some b ∧ (b = false → Wo cls d σ H) ∧
  (b = true → ∀ a, H a = none → ts a ⟨fun τ G => D.nx (τ.set i none) G, D.rt, fun τ G => D.bk (τ.set i none) G, fun τ G => D.ct (τ.set i none) G⟩ (σ.set i (some (.ref a))) (upd H a (CxO cls d a)))
/-- into the clause's suite, nothing pinned -/
theorem Inv.toSuite {X : Cx} {pins : List (Addr × Obj)} {σ : L2.St} {H : Hp} {s : Shared} (I : Inv X pins σ H s) (a : Addr) : Inv (X.suite a (X.pn ++ pins)) [] σ H s where
  ok := I.ok.suite _ _
  os := I.os
  bare := I.bare
  base := I.base
  loc := I.loc
  cell := I.cell
  free := I.free
  freeC := I.freeC
  pin := fun p hp => I.pin p (by
    have q : p ∈ (X.pn ++ pins) ++ [] := hp
    rwa [List.append_nil] at q)
  hok := I.hok
  len := I.len
theorem Inv.ofSuite {X : Cx} {pins qs : List (Addr × Obj)} {σ : L2.St} {H : Hp} {s : Shared} {a : Addr} (I : Inv (X.suite a (X.pn ++ pins)) qs σ H s) (ok : X.Ok) : Inv X pins σ H s where
  ok := ok
  os := I.os
  bare := I.bare
  base := I.base
  loc := I.loc
  cell := I.cell
  free := I.free
  freeC := I.freeC
  pin := fun p hp => I.pin p (List.mem_append_left qs hp)
  hok := I.hok
  len := I.len
section
variable {X : Cx}
/-- the exception's object is tracked from now on -/
theorem Inv.caught {pins : List (Addr × Obj)} {σ : L2.St} {H : Hp} {sI s1 : Shared} {B : Heap} {a : Addr} {cls : Value} {d : Option Addr} {fr : List Env} (J : Inv X pins σ H sI)
    (nb : ∀ b o, sI.heap.get? b = some o → b ∉ frs X.stack → B.get? b = some o) (fl : HandSPX.FlyingZ B fr a (Zc cls d) s1.heap) (nf : a ∉ frs X.stack) (up : sI.heap.UpToSlots s1.heap) (os : s1.os = sI.os) (ag : AllBare s1.gens) (na : H a = none) :
    Inv X pins σ (upd H a (CxO cls d a)) s1 := by
  obtain ⟨keepB, Ba, _, _⟩ := id fl
  obtain ⟨ob, fv, ea, hz, hd⟩ := fl.there
  obtain ⟨G, in1, out1⟩ := restrict s1.heap fun b => decide (b ≠ a)
  have same : ∀ b, b ≠ a → G.get? b = s1.heap.get? b := fun b hb => in1 b (decide_eq_true hb)
  have gone : G.get? a = none := out1 a (decide_eq_false fun z => z rfl)
  have notI : sI.heap.get? a = none := by
    cases q : sI.heap.get? a with
    | none => rfl
    | some o =>
      have z := nb a o q nf
      rw [Ba] at z
      cases z
  have stG : B.StaysIn G := fun b o e => by
    have n : b ≠ a := fun z => by rw [z, Ba] at e; cases e
    rw [same b n]
    exact keepB b o e
  have upG : sI.heap.UpToSlots G := fun b o e hnf => by
    have n : b ≠ a := fun z => by rw [z, notI] at e; cases e
    rw [same b n]
    exact up b o e hnf
  have J1 : Inv X pins σ H { s1 with heap := G } := J.landed (s' := { s1 with heap := G }) nb stG upG os ag
  have J2 := J1.laidN (a := a) (o := CxO cls d a) (h' := s1.heap) (t' := s1.toks) (fun b o e => by
    have n : b ≠ a := fun z => by
      have e : G.get? b = some o := e
      rw [z, gone] at e
      cases e
    exact (same b n).symm.trans e) gone na (cxO_ok ea hz hd)
  exact J2
variable {x n : Str} {c : Value} {i : Nat} {body : List Stmt} {b0 : Stmt} {rest : List Stmt} {p1 p2 p3 : Pos} {tb : WX → TS} {ts : Addr → TS} {Wo : WX}
theorem ps_try_keep (hst : X.stack = X.env :: X.outer) (hfr : X.env.frame = some X.env.locals) (nd : X.N.Nodup) (hi : X.N[i]? = some n) (hl : X.env.kindOf n = some .local) (hc : Names X x c) (tk : Takes X Wo)
    (hb : ∀ (W : WX) (pn : List (Addr × Obj)) (xe : Value → Shared → Prop), Takes (X.tr pn xe) W → PassesOwn (model X.prog X.w) X.A X.env xe → PSs (X.tr pn xe) body (tb W))
    (hsu : ∀ (a : Addr) (pn : List (Addr × Obj)), PSs (X.suite a pn) (b0 :: rest) (ts a)) :
    PS X (.Try body [.ExceptHandler (some (.Name x p1)) (some n) (b0 :: rest) p2] [] [] p3) (fun D σ H => tb (wKp X.K c i ts Wo D) D σ H) := by
  refine ⟨fun pins s σ H D I h => ?_⟩
  have okX := I.ok
  have frames : X.A.frames = some (X.env :: X.outer) := okX.frames.trans (congrArg some hst)
  refine wpAny_Try_except ?_
  have inBody := (hb (wKp X.K c i ts Wo D) (X.pn ++ pins)
    (fun e s1 => wpAny (model X.prog X.w) X.A (noteFrame e X.env) (fun _ s2 => wpAny (model X.prog X.w) X.A (setFlight e none)
      (fun _ s3 => wpAny (model X.prog X.w) X.A (handleBy e X.env [.ExceptHandler (some (.Name x p1)) (some n) (b0 :: rest) p2]) (SP X pins D) X.xe s3) X.xe s2) X.xe s1)
    ?caught PassesOwn.looking).run [] s σ H D (I.toTry _) h
  case caught =>
    intro u s1 air
    obtain ⟨a, B, sI, ps, τ, G, cls, d, rfl, JT, nb, up1, sky, na, os, ag, b, hm, no, yes⟩ := air
    have J := JT.ofTry (pins := pins) okX
    have sky2 : Sky B (X.env :: X.outer) a (Zc cls d) X.env.locals s1.heap := hst ▸ sky
    refine Sky.land Zc.steady frames hfr sky2 fun h3 fl3 up3 => ?_
    have up13 := up1.trans up3
    obtain ⟨o3, f3, e3, z3, d3⟩ := fl3.there
    have nfr : a ∉ frs X.stack := fun z => by
      rw [hst] at z
      obtain ⟨_, o', e', q⟩ := fl3.2.2.1.mem z
      rw [e3] at e'
      cases e'
      exact q _ d3
    have J3 : Inv X pins τ G { s1 with heap := h3 } := J.landed nb fl3.1 up13 os ag
    refine wpAny_handleBy_cons (codeAny_handlers_test ?_) (fun q => nomatch q)
    have isC : PySem.W.Looks (model X.prog X.w) h3 (typeOf (.ref a)) cls := fun A Q E s k q => wpAny_typeOf_ref (k _ _ e3) (z3.1.symm ▸ q)
    have hits := PySem.W.exm_one (M := model X.prog X.w) J3.kIn isC hm
    have S3 := Vf.Inv.toSuite J3 a
    have named : ∀ {Q E : Value → Shared → Prop}, Q c { s1 with heap := h3 } → wpAny (model X.prog X.w) (X.A.mark (some (.ref a))) (eval (.Name x p1) X.env) Q E { s1 with heap := h3 } := fun {Q E} q => by
      obtain ⟨g1, g2, g3⟩ := hc
      rcases g3 with g3 | ⟨g3, g4, g5⟩
      · exact ld_glob (X := X.suite a (X.pn ++ pins)) S3 g1 g3 q g2
      · exact ld_blt (X := X.suite a (X.pn ++ pins)) S3 g1 g3 g4 q g5 g2
    refine named (hits.here ?_)
    cases b with
    | false =>
      refine wpAny_handleBy_nil ?_
      obtain ⟨_, _, _, o5, f5, T, oT, tv, e5, z5, d5, g1, _⟩ := id fl3
      have tid : ¬ (Value.ref T == Value.none) = true := by simp
      have onward : wpAny (model X.prog X.w) X.A (setFlight (.ref a) X.env.frame) (fun _ s4 => wpAny (model X.prog X.w) X.A (throw (.ref a) : Sem Flow) (SP X pins D) X.xe s4) X.xe { s1 with heap := h3 } := by
        rw [hfr]
        refine HandSPX.setFlight_upZ fl3 fun h4 held up4 => wpAny_throw (tk _ _ ⟨a, B, sI, pins, τ, G, cls, d, rfl, J, nb, up13.trans up4, .inr (.inr (hst.symm ▸ held)), na, os, ag, no rfl⟩)
      unfold PySem.passOn
      refine wpAny_bind (wpAny_field e5 d5 g1 ?_)
      rw [if_neg tid]
      first
        | exact wpAny_bind onward
        | exact wpAny_bind (wpAny_pure (wpAny_bind onward))
    | true =>
      refine codeAny_handlers_suite_as ?_
      refine HandSPX.lands_againZ fl3 fun h4 fl4 up4 => ?_
      have J4 : Inv X pins τ (upd G a (CxO cls d a)) { s1 with heap := h4 } := Vf.Inv.caught (s1 := { s1 with heap := h4 }) J nb fl4 nfr (up13.trans up4) os ag na
      have S4 := Vf.Inv.toSuite J4 a
      refine store_ok (X := X.suite a (X.pn ++ pins)) (v := .ref a) S4 nd hi (.inl hl) rfl (fun s5 S5 => ?_) (.inr hl)
      have inSuite := (hsu a (X.pn ++ pins)).run [] s5 _ _ _ S5 (yes rfl a na)
      refine wpAny_mono inSuite (fun f s6 w => ?_) fun _ _ z => z.elim
      have off : ∀ {τ6 : L2.St} {G6 : Hp} {R : Shared → Prop}, Inv (X.suite a (X.pn ++ pins)) [] τ6 G6 s6 → (∀ s7, Inv X pins (τ6.set i none) G6 s7 → R s7) → wpAny (model X.prog X.w) X.A (do bindName X.env n .none; unbindBehindTheSuite X.env n p2) (fun _ s7 => R s7) X.xe s6 :=
        fun S6 r => gone_ok (Vf.Inv.ofSuite S6 okX) nd hi hl r
      cases f with
      | ret u =>
        obtain ⟨v6, τ6, G6, S6, r6, w6⟩ := w
        exact off S6 fun s7 J7 => ⟨v6, _, _, J7, r6, w6⟩
      | next =>
        obtain ⟨τ6, G6, S6, w6⟩ := w
        exact off S6 fun s7 J7 => ⟨_, _, J7, w6⟩
      | cont =>
        obtain ⟨τ6, G6, S6, w6⟩ := w
        exact off S6 fun s7 J7 => ⟨_, _, J7, w6⟩
      | brk =>
        obtain ⟨τ6, G6, S6, w6⟩ := w
        exact off S6 fun s7 J7 => ⟨_, _, J7, w6⟩
  refine wpAny_mono inBody (fun f s1 w => ?_) fun e s1 z => z
  cases f with
  | ret u =>
    obtain ⟨v, τ, G, J, r, q⟩ := w
    exact ⟨v, τ, G, J.ofTry okX, r, q⟩
  | next =>
    obtain ⟨τ, G, J, q⟩ := w
    exact wpAny_execs_nil ⟨τ, G, J.ofTry okX, q⟩
  | cont =>
    obtain ⟨τ, G, J, q⟩ := w
    exact ⟨τ, G, J.ofTry okX, q⟩
  | brk =>
    obtain ⟨τ, G, J, q⟩ := w
    exact ⟨τ, G, J.ofTry okX, q⟩
end
end Vf
end
section
set_option Elab.async false
set_option linter.all false
set_option maxRecDepth 100000
set_option maxHeartbeats 4000000
/-! Own layer: one turn of enumerate over anything, its tuples kept or not. -/
namespace Vf
open PySem PySem.Spec PyProof.Rows PySem.W PySem.Calls
section
variable {prog : Program} {w : World} {A : Around} {E : Value → Shared → Prop} {s : Shared}
abbrev IsE (h : Heap) (e it : Addr) (c : Int) (a0 f0 old : Value) : Prop := h.get? e = some { cls := .type "enumerate", dict := none, data := .fields #[a0, f0, .ref it, rawInt c, .none, old], slots := #[] }
/-- none was given out, or the one that was stands -/
def OutE (h : Heap) (av : List Addr) (a0 f0 : Value) : Prop := (a0 = .none ∧ f0 = .bool false) ∨ ∃ (T : Addr) (oT : Obj) (f : Bool), a0 = rawInt T ∧ f0 = .bool f ∧ h.get? T = some oT ∧ T ∉ av
theorem enum_step {e it : Addr} {av : List Addr} (hav : e ∈ av) {c : Int} {a0 f0 old : Value} {Q : Value → Shared → Prop} (N : Value → Heap → Nat → Prop) (he : IsE s.heap e it c a0 f0 old)
    (inner : ∀ {Q' : Value → Shared → Prop}, (∀ x h₁ tk, N x h₁ tk → Q' x { s with heap := h₁, toks := tk }) → wpAny (model prog w) A (Builtin.SmallTypes.nextOf (.ref it)) Q' E s)
    (keep : ∀ x h₁ tk, N x h₁ tk → IsE h₁ e it c a0 f0 old ∧ OutE h₁ av a0 f0 ∧ ∀ b ∈ av, b < h₁.objs.size)
    (hQ : ∀ x h₁ tk h', N x h₁ tk → (∃ a1 f1 old1, IsE h' e it (c + 1) a1 f1 old1 ∧ OutE h' av a1 f1) → h'.get? h₁.objs.size = some { cls := .type "tuple", data := .seq #[.int c tk, x] } → h'.objs.size = h₁.objs.size + 1 →
      (∀ b o, b ≠ e → h₁.get? b = some o → h'.get? b = some o) → Q (.ref h₁.objs.size) { s with heap := h', toks := tk + 1 }) :
    wpAny (model prog w) A (Builtin.«enumerate.__next__» ⟨[.ref e], []⟩) (fun fin s' => ∃ v, fin = .done (.ret v) ∧ Q v s') E s := by
  obtain ⟨hp, g, d, tk₀, os⟩ := s
  refine wpAny_bind (m := field (.ref e) 2) (wpAny_field he rfl (x := .ref it) rfl (wpAny_bind (inner fun x h₁ tk hN => ?_)))
  obtain ⟨e1, o1, lav⟩ := keep x h₁ tk hN
  refine wpAny_bind (m := field (.ref e) 3) (wpAny_field (s := ⟨h₁, g, d, tk, os⟩) e1 rfl (x := rawInt c) rfl ?_)
  refine wpAny_bind (m := field (.ref e) 4) (wpAny_field (s := ⟨h₁, g, d, tk, os⟩) e1 rfl (x := .none) rfl ?_)
  refine wpAny_bind (m := mkInt c) (wpAny_mkInt ?_)
  refine wpAny_bind (m := setField (.ref e) 3 (rawInt (c + 1))) (wpAny_setField_rec (s := ⟨h₁, g, d, tk + 1, os⟩) e1 (by simp) fun h₂ e2 k2 => ?_)
  have e2 : IsE h₂ e it (c + 1) a0 f0 old := e2
  have k2 : Heap.SameBut e h₁ h₂ := k2
  refine wpAny_bind (m := setField (.ref e) 4 .none) (wpAny_setField_rec (s := ⟨h₂, g, d, tk + 1, os⟩) e2 (by simp) fun h₃ e3 k3 => ?_)
  have e3 : IsE h₃ e it (c + 1) a0 f0 old := e3
  have k3 : Heap.SameBut e h₂ h₃ := k3
  refine wpAny_bind (m := newTuple [.int c tk, x]) (wpAny_newTuple ?_)
  have sz : h₃.objs.size = h₁.objs.size := by rw [k3.1, k2.1]
  have le : e < h₁.objs.size := Heap.lt_size e1
  have e4 : IsE (h₃.push { cls := .type "tuple", data := .seq #[.int c tk, x] }) e it (c + 1) a0 f0 old := Heap.get?_push_of_some _ e3
  have t4 : (h₃.push { cls := .type "tuple", data := .seq #[.int c tk, x] }).get? h₁.objs.size = some { cls := .type "tuple", data := .seq #[.int c tk, x] } := by rw [← sz]; exact Heap.get?_push_size _ rfl
  have z4 : (h₃.push { cls := .type "tuple", data := .seq #[.int c tk, x] }).objs.size = h₁.objs.size + 1 := by rw [Heap.size_push, sz]
  have k4 : ∀ b o, b ≠ e → h₁.get? b = some o → (h₃.push { cls := .type "tuple", data := .seq #[.int c tk, x] }).get? b = some o := fun b o hb q => Heap.get?_push_of_some _ (k3.extBut b o hb (k2.extBut b o hb q))
  show wpAny _ _ (Builtin.SmallTypes.ownedTupleIsFree (.ref e) >>= _) _ _ ⟨h₃.push { cls := .type "tuple", data := .seq #[.int c tk, x] }, g, d, tk + 1, os⟩
  rw [sz]
  generalize h₃.push { cls := .type "tuple", data := .seq #[.int c tk, x] } = h₄ at *
  rcases o1 with ⟨rfl, rfl⟩ | ⟨T, oT, f, rfl, rfl, hT, nA⟩
  · refine wpAny_bind ?_
    unfold Builtin.SmallTypes.ownedTupleIsFree
    refine wpAny_bind (wpAny_field (s := ⟨h₄, g, d, tk + 1, os⟩) e4 rfl (x := .none) rfl (wpAny_pure ?_))
    simp only [if_true]
    refine wpAny_bind (wpAny_rule (wpAny_bind (wpAny_field (s := ⟨h₄, g, d, tk + 1, os⟩) e4 rfl (x := old) rfl (wpAny_bind (wpAny_setField_rec (s := ⟨h₄, g, d, tk + 1, os⟩) e4 (by simp) fun h₅ e5 k5 => ?_)))))
    have e5 : IsE h₅ e it (c + 1) .none (.bool false) x := e5
    have k5 : Heap.SameBut e h₄ h₅ := k5
    refine wpAny_bind (m := Builtin.SmallTypes.ownedTupleHandOut (.ref e) (.ref h₁.objs.size)) ?_
    unfold Builtin.SmallTypes.ownedTupleHandOut
    refine wpAny_bind (wpAny_setField_rec (s := ⟨h₅, g, d, tk + 1, os⟩) e5 (by simp) fun h₆ e6 k6 => ?_)
    have e6 : IsE h₆ e it (c + 1) (rawInt h₁.objs.size) (.bool false) x := e6
    have k6 : Heap.SameBut e h₅ h₆ := k6
    refine wpAny_setField_rec (s := ⟨h₆, g, d, tk + 1, os⟩) e6 (by simp) fun h₇ e7 k7 => ?_
    have e7 : IsE h₇ e it (c + 1) (rawInt h₁.objs.size) (.bool false) x := e7
    have k7 : Heap.SameBut e h₆ h₇ := k7
    have kk : ∀ b o, b ≠ e → h₄.get? b = some o → h₇.get? b = some o := fun b o hb q => k7.extBut b o hb (k6.extBut b o hb (k5.extBut b o hb q))
    have t7 := kk _ _ (Nat.ne_of_gt le) t4
    exact wpAny_bind (wpAny_letGo (wpAny_pure ⟨_, rfl, hQ x h₁ tk h₇ hN ⟨_, _, _, e7, .inr ⟨_, _, false, rfl, rfl, t7, fun hm => Nat.lt_irrefl _ (lav _ hm)⟩⟩ t7 (by rw [k7.1, k6.1, k5.1, z4]) fun b o hb q => kk b o hb (k4 b o hb q)⟩))
  · have nT : T ≠ e := fun q => nA (by rw [q]; exact hav)
    refine wpAny_bind (wpAny_tupleHeld_enum (s := ⟨h₄, g, d, tk + 1, os⟩) e4 (k4 T oT nT hT) fun h₅ e5 k5 => ?_)
    have k5 : Heap.SameBut e h₄ h₅ := k5
    simp only [Bool.false_eq_true, if_false]
    exact wpAny_pure ⟨_, rfl, hQ x h₁ tk h₅ hN ⟨_, _, _, e5, .inr ⟨T, oT, true, rfl, rfl, k5.extBut _ _ nT (k4 T oT nT hT), nA⟩⟩ (k5.extBut _ _ (Nat.ne_of_gt le) t4) (by rw [k5.1, z4]) fun b o hb q => k5.extBut b o hb (k4 b o hb q)⟩
end
end Vf
end
section
set_option Elab.async false
set_option linter.all false
set_option maxRecDepth 100000
set_option maxHeartbeats 4000000
/-! Own layer: enumerate(zip(xs, ys)), its tuples kept. -/
namespace Vf
open PySem PySem.Spec PyProof.Rows PySem.W PySem.Calls
structure ZeA where
  e : Addr
  z : Addr
  TI : Addr
  TO : Addr
  i1 : Addr
  i2 : Addr
  l1 : Addr
  l2 : Addr
  S : Addr
def ZeA.wr (a : ZeA) : List Addr := [a.e, a.z, a.TO, a.i1, a.i2]
/-- and the list that is being filled -/
def ZeA.av (a : ZeA) : List Addr := a.S :: a.wr
structure ZeD (a : ZeA) : Prop where
  d : ZipApart a.z a.TI a.TO a.i1 a.i2 a.l1 a.l2
  ez : a.e ≠ a.z
  eo : a.e ≠ a.TO
  e1 : a.e ≠ a.i1
  e2 : a.e ≠ a.i2
  te : a.TI ≠ a.e
  l1 : a.l1 ≠ a.e
  l2 : a.l2 ≠ a.e
  s : a.S ∉ a.wr
  st : a.TI ≠ a.S
  s1 : a.l1 ≠ a.S
  s2 : a.l2 ≠ a.S
/-- the turn i of enumerate(zip(xs, ys)) is to come -/
structure ZE (h : Heap) (a : ZeA) (xs ys : Array Value) (i : Nat) : Prop where
  ti : PySem.IsPair h a.TI (.ref a.i1) (.ref a.i2)
  h1 : h.IsListIter a.i1 a.l1 i
  h2 : h.IsListIter a.i2 a.l2 i
  x1 : h.IsList a.l1 xs
  x2 : h.IsList a.l2 ys
  zz : (IsZip h a.z a.TI a.TO .none ∧ ∃ u v, PySem.IsPair h a.TO u v) ∨ ∃ T f oT, IsZipHeld h a.z a.TI a.TO T f ∧ h.get? T = some oT ∧ T ∉ a.av
  ee : ∃ a0 f0 old, IsE h a.e a.z i a0 f0 old ∧ OutE h a.av a0 f0
  to : ∃ o, h.get? a.TO = some o
  ss : ∃ o, h.get? a.S = some o
section
variable {prog : Program} {w : World} {A : Around} {E : Value → Shared → Prop} {s : Shared} {a : ZeA} {xs ys : Array Value} {i : Nat}
theorem ZE.lt {h : Heap} (Z : ZE h a xs ys i) : ∀ b ∈ a.av, b < h.objs.size := fun b hb => by
  have hz : a.z < h.objs.size := by
    rcases Z.zz with ⟨q, _⟩ | ⟨_, _, _, q, _⟩
    · exact Heap.lt_size q
    · exact Heap.lt_size q
  have he : a.e < h.objs.size := by
    obtain ⟨_, _, _, q, _⟩ := Z.ee
    exact Heap.lt_size q
  have hi1 : a.i1 < h.objs.size := let ⟨_, q, _⟩ := Z.h1; Heap.lt_size q
  have hi2 : a.i2 < h.objs.size := let ⟨_, q, _⟩ := Z.h2; Heap.lt_size q
  have ho : a.TO < h.objs.size := let ⟨_, q⟩ := Z.to; Heap.lt_size q
  have hs : a.S < h.objs.size := let ⟨_, q⟩ := Z.ss; Heap.lt_size q
  simp only [ZeA.av, ZeA.wr, List.mem_cons, List.not_mem_nil, or_false] at hb
  rcases hb with rfl | rfl | rfl | rfl | rfl | rfl
  · exact hs
  · exact he
  · exact hz
  · exact ho
  · exact hi1
  · exact hi2
/-- what the inner zip has done -/
structure ZN (h : Heap) (a : ZeA) (xs ys : Array Value) (i : Nat) (u v : Value) (x : Value) (h₁ : Heap) : Prop where
  x : x = .ref h.objs.size
  p : PySem.IsPair h₁ h.objs.size u v
  z : h₁.objs.size = h.objs.size + 1
  k : ∀ b o, b ∉ [a.z, a.TO, a.i1, a.i2] → h.get? b = some o → h₁.get? b = some o
  h1 : h₁.IsListIter a.i1 a.l1 (i + 1)
  h2 : h₁.IsListIter a.i2 a.l2 (i + 1)
  zz : ∃ T f oT, IsZipHeld h₁ a.z a.TI a.TO T f ∧ h₁.get? T = some oT ∧ T ∉ a.av
  to : ∃ o, h₁.get? a.TO = some o
theorem zip_step (D : ZeD a) (Z : ZE s.heap a xs ys i) {u v : Value} (hx : xs[i]? = some u) (hy : ys[i]? = some v) {Q : Value → Shared → Prop} (hQ : ∀ x h₁ tk, ZN s.heap a xs ys i u v x h₁ ∧ tk = s.toks → Q x { s with heap := h₁, toks := tk }) :
    wpAny (model prog w) A (Builtin.SmallTypes.nextOf (.ref a.z)) Q E s := by
  have nb : ∀ b ∈ a.av, s.heap.objs.size ≠ b := fun b hb => Nat.ne_of_gt (Z.lt b hb)
  have fin : ∀ h' T f oT, IsZipHeld h' a.z a.TI a.TO T f → h'.get? T = some oT → T ∉ a.av → h'.IsListIter a.i1 a.l1 (i + 1) → h'.IsListIter a.i2 a.l2 (i + 1) → PySem.IsPair h' s.heap.objs.size u v → h'.objs.size = s.heap.objs.size + 1 → (∀ b o, b ∉ [a.z, a.TO, a.i1, a.i2] → s.heap.get? b = some o → h'.get? b = some o) → (∃ o, h'.get? a.TO = some o) → Q (.ref s.heap.objs.size) { s with heap := h' } := fun h' T f oT q1 q2 q3 q4 q5 q6 q7 q8 q9 =>
    hQ _ h' s.toks ⟨⟨rfl, q6, q7, q8, q4, q5, ⟨T, f, oT, q1, q2, q3⟩, q9⟩, rfl⟩
  rcases Z.zz with ⟨hz, p, q, hTO⟩ | ⟨T, f, oT, hz, hT, nT⟩
  · have ty : s.TypeIs (.ref a.z) "zip" := ⟨_, hz, rfl⟩
    unfold Builtin.SmallTypes.nextOf
    refine wpAny_bind (wpAny_callSpecial?_slot (name := Str.ofString "__next__") ty F.slot_zip_next (wpAny_call_entry F.slot_zip_next ty F.entry_zip_next (zip_next_item D.d hz Z.ti hTO Z.h1 Z.h2 Z.x1 Z.x2 hx hy fun h' a1 a2 a3 a4 a5 a6 a7 => wpAny_pure ?_) (F.args_zip_next_1 _)))
    exact fin h' s.heap.objs.size false _ a1 a5 (fun m => nb _ m rfl) a3 a4 a5 a6 (fun b o hb e => a7 b o (fun y => hb (by simp [y])) (fun y => hb (by simp [y])) (fun y => hb (by simp [y])) (fun y => hb (by simp [y])) e) ⟨_, a2⟩
  · have ty : s.TypeIs (.ref a.z) "zip" := ⟨_, hz, rfl⟩
    unfold Builtin.SmallTypes.nextOf
    have n : ∀ b ∈ a.av, T ≠ b := fun b hb y => nT (y ▸ hb)
    have n0 : T ≠ a.z := n _ (by simp [ZeA.av, ZeA.wr])
    have n1 : T ≠ a.i1 := n _ (by simp [ZeA.av, ZeA.wr])
    have n2 : T ≠ a.i2 := n _ (by simp [ZeA.av, ZeA.wr])
    refine wpAny_bind (wpAny_callSpecial?_slot (name := Str.ofString "__next__") ty F.slot_zip_next (wpAny_call_entry F.slot_zip_next ty F.entry_zip_next (zip_next_item_held D.d hz hT Z.ti Z.h1 Z.h2 Z.x1 Z.x2 hx hy fun h' a1 a3 a4 a5 a6 a7 => wpAny_pure ?_) (F.args_zip_next_1 _)))
    obtain ⟨oo, ho⟩ := Z.to
    exact fin h' T true oT a1 (a7 _ _ n0 n1 n2 hT) nT a3 a4 a5 a6 (fun b o hb e => a7 b o (fun y => hb (by simp [y])) (fun y => hb (by simp [y])) (fun y => hb (by simp [y])) e) ⟨oo, a7 _ _ D.d.TOz D.d.TOi1 D.d.TOi2 ho⟩
end
end Vf
end
section
set_option Elab.async false
set_option linter.all false
set_option maxRecDepth 100000
set_option maxHeartbeats 4000000
/-! Own layer: next of enumerate(zip(xs, ys)), its tuples kept. -/
namespace Vf
open PySem PySem.Spec PyProof.Rows PySem.W PySem.Calls
section
variable {prog : Program} {w : World} {A : Around} {E : Value → Shared → Prop} {s : Shared} {a : ZeA} {xs ys : Array Value} {i : Nat}
theorem ZE.frame {h h' : Heap} (Z : ZE h a xs ys i) (k : ∀ b o, h.get? b = some o → h'.get? b = some o) : ZE h' a xs ys i := by
  refine ⟨k _ _ Z.ti, Z.h1.at fun o e => k _ o e, Z.h2.at fun o e => k _ o e, Z.x1.at fun o e => k _ o e, Z.x2.at fun o e => k _ o e, ?_, ?_, let ⟨o, q⟩ := Z.to; ⟨o, k _ _ q⟩, let ⟨o, q⟩ := Z.ss; ⟨o, k _ _ q⟩⟩
  · rcases Z.zz with ⟨q, u, v, p⟩ | ⟨T, f, oT, q, p, n⟩
    · exact .inl ⟨k _ _ q, u, v, k _ _ p⟩
    · exact .inr ⟨T, f, oT, k _ _ q, k _ _ p, n⟩
  · obtain ⟨a0, f0, old, q, o⟩ := Z.ee
    refine ⟨a0, f0, old, k _ _ q, ?_⟩
    rcases o with o | ⟨T, oT, f, r1, r2, p, n⟩
    · exact .inl o
    · exact .inr ⟨T, oT, f, r1, r2, k _ _ p, n⟩
theorem ZE.write {h : Heap} (D : ZeD a) (Z : ZE h a xs ys i) {h' : Heap} (k : ∀ b o, b ≠ a.S → h.get? b = some o → h'.get? b = some o) (hS : ∃ o, h'.get? a.S = some o) : ZE h' a xs ys i := by
  have ns : ∀ {b : Addr}, b ∈ a.wr → b ≠ a.S := fun hb y => D.s (y ▸ hb)
  have nt : ∀ {T : Addr}, T ∉ a.av → T ≠ a.S := fun hT y => hT (by rw [y]; simp [ZeA.av])
  have e1 : a.e ≠ a.S := ns (by simp [ZeA.wr])
  have e2 : a.z ≠ a.S := ns (by simp [ZeA.wr])
  have e3 : a.TO ≠ a.S := ns (by simp [ZeA.wr])
  have e4 : a.i1 ≠ a.S := ns (by simp [ZeA.wr])
  have e5 : a.i2 ≠ a.S := ns (by simp [ZeA.wr])
  refine ⟨k _ _ D.st Z.ti, Z.h1.at fun o e => k _ o e4 e, Z.h2.at fun o e => k _ o e5 e, Z.x1.at fun o e => k _ o D.s1 e, Z.x2.at fun o e => k _ o D.s2 e, ?_, ?_, let ⟨o, q⟩ := Z.to; ⟨o, k _ _ e3 q⟩, hS⟩
  · rcases Z.zz with ⟨q, u, v, p⟩ | ⟨T, f, oT, q, p, n⟩
    · exact .inl ⟨k _ _ e2 q, u, v, k _ _ e3 p⟩
    · exact .inr ⟨T, f, oT, k _ _ e2 q, k _ _ (nt n) p, n⟩
  · obtain ⟨a0, f0, old, q, o⟩ := Z.ee
    refine ⟨a0, f0, old, k _ _ e1 q, ?_⟩
    rcases o with o | ⟨T, oT, f, r1, r2, p, n⟩
    · exact .inl o
    · exact .inr ⟨T, oT, f, r1, r2, k _ _ (nt n) p, n⟩
theorem ze_item (D : ZeD a) (Z : ZE s.heap a xs ys i) {u v : Value} (hx : xs[i]? = some u) (hy : ys[i]? = some v) {Q : Option Value → Shared → Prop}
    (hQ : ∀ h' tk tk', h'.get? s.heap.objs.size = some { cls := .type "tuple", data := .seq #[u, v] } → h'.get? (s.heap.objs.size + 1) = some { cls := .type "tuple", data := .seq #[.int i tk, .ref s.heap.objs.size] } → ZE h' a xs ys (i + 1) → h'.objs.size = s.heap.objs.size + 2 →
      (∀ b o, b ∉ a.wr → s.heap.get? b = some o → h'.get? b = some o) → Q (some (.ref (s.heap.objs.size + 1))) { s with heap := h', toks := tk' }) : wpAny (model prog w) A (pyNext (.ref a.e)) Q E s := by
  obtain ⟨a0, f0, old, he, ho⟩ := Z.ee
  have ty : s.TypeIs (.ref a.e) "enumerate" := ⟨_, he, rfl⟩
  have lt := Z.lt
  have wv : a.e ∈ a.av := by simp [ZeA.av, ZeA.wr]
  have we : a.e ∈ a.wr := by simp [ZeA.wr]
  have inv : ∀ {b : Addr}, b ∈ [a.z, a.TO, a.i1, a.i2] → b ∈ a.av := fun h => by
    simp only [ZeA.av, ZeA.wr, List.mem_cons, List.not_mem_nil, or_false] at h ⊢
    exact .inr (.inr h)
  have inw : ∀ {b : Addr}, b ∈ [a.z, a.TO, a.i1, a.i2] → b ∈ a.wr := fun h => by
    simp only [ZeA.wr, List.mem_cons, List.not_mem_nil, or_false] at h ⊢
    exact .inr h
  unfold pyNext
  refine wpAny_bind (wpAny_attempt (wpAny_callSpecial?_slot (name := Str.ofString "__next__") ty F.slot_enumerate_next (wpAny_call_entry F.slot_enumerate_next ty F.entry_enumerate_next
    (enum_step (av := a.av) wv (fun x h₁ tk => ZN s.heap a xs ys i u v x h₁ ∧ tk = s.toks) he (fun {Q'} q => zip_step D Z hx hy q) (fun x h₁ tk N => ?_) fun x h₁ tk h' N e' t' z' k' => wpAny_pure ?_) (F.args_enumerate_next_1 _))))
  · obtain ⟨N, _⟩ := N
    have ne : a.e ∉ [a.z, a.TO, a.i1, a.i2] := by
      simp only [List.mem_cons, List.not_mem_nil, or_false, not_or]
      exact ⟨D.ez, D.eo, D.e1, D.e2⟩
    refine ⟨N.k _ _ ne he, ?_, fun b hb => by rw [N.z]; exact Nat.lt_succ_of_lt (lt b hb)⟩
    rcases ho with o | ⟨T, oT, f, r1, r2, p, n⟩
    · exact .inl o
    · exact .inr ⟨T, oT, f, r1, r2, N.k _ _ (fun m => n (inv m)) p, n⟩
  · obtain ⟨N, _⟩ := N
    obtain ⟨a1, f1, old1, e1, o1⟩ := e'
    have kk : ∀ b o, b ∉ a.wr → s.heap.get? b = some o → h'.get? b = some o := fun b o hb q => k' b o (fun y => hb (by rw [y]; exact we)) (N.k b o (fun m => hb (inw m)) q)
    rw [N.z] at t' z' ⊢
    have lp : s.heap.objs.size ≠ a.e := fun y => Nat.lt_irrefl _ (by have := lt _ wv; rw [← y] at this; exact this)
    have px := N.x
    subst px
    refine hQ h' tk (tk + 1) (k' _ _ lp N.p) t' ?_ z' kk
    refine ⟨kk _ _ ?_ Z.ti, N.h1.at fun o e => k' _ o (Ne.symm D.e1) e, N.h2.at fun o e => k' _ o (Ne.symm D.e2) e, Z.x1.at fun o e => kk _ o ?_ e, Z.x2.at fun o e => kk _ o ?_ e, ?_, ⟨a1, f1, old1, ?_, o1⟩, ?_, let ⟨o, q⟩ := Z.ss; ⟨o, kk _ _ D.s q⟩⟩
    · simp only [ZeA.wr, List.mem_cons, List.not_mem_nil, or_false, not_or]
      exact ⟨D.te, D.d.TIz, D.d.TITO, D.d.TIi1, D.d.TIi2⟩
    · simp only [ZeA.wr, List.mem_cons, List.not_mem_nil, or_false, not_or]
      exact ⟨D.l1, D.d.l1z, D.d.l1TO, D.d.l1i1, D.d.l1i2⟩
    · simp only [ZeA.wr, List.mem_cons, List.not_mem_nil, or_false, not_or]
      exact ⟨D.l2, D.d.l2z, D.d.l2TO, D.d.l2i1, D.d.l2i2⟩
    · obtain ⟨T, f, oT, q1, q2, q3⟩ := N.zz
      exact .inr ⟨T, f, oT, k' _ _ (Ne.symm D.ez) q1, k' _ _ (fun y => q3 (by rw [y]; exact wv)) q2, q3⟩
    · rw [show (((i + 1 : Nat) : Int)) = (i : Int) + 1 by omega]
      exact e1
    · obtain ⟨o, q⟩ := N.to
      exact ⟨o, k' _ _ (Ne.symm D.eo) q⟩
theorem ze_end (hh : A.handled = none) (D : ZeD a) (Z : ZE s.heap a xs ys i) (hend : xs[i]? = none ∨ ys[i]? = none) {Q : Option Value → Shared → Prop} (hQ : ∀ h', (∀ b o, b ∉ a.wr → s.heap.get? b = some o → h'.get? b = some o) → Q none { s with heap := h' }) : wpAny (model prog w) A (pyNext (.ref a.e)) Q E s := by
  obtain ⟨a0, f0, old, he, ho⟩ := Z.ee
  have ty : s.TypeIs (.ref a.e) "enumerate" := ⟨_, he, rfl⟩
  have stop : ∀ {A' : Around} {Q' : Value → Shared → Prop} {E' : Value → Shared → Prop}, A'.handled = none → (∀ h' x, (∀ b o, b ∉ a.wr → s.heap.get? b = some o → h'.get? b = some o) → (∃ o, h'.get? x = some o ∧ o.cls = .type "StopIteration") → E' (.ref x) { s with heap := h' }) → wpAny (model prog w) A' (Builtin.SmallTypes.nextOf (.ref a.z)) Q' E' s := fun {A' Q' E'} hA q => by
    have out : ∀ {b : Addr}, b ∉ a.wr → b ≠ a.z ∧ b ≠ a.TO ∧ b ≠ a.i1 ∧ b ≠ a.i2 := fun {b} h => by
      simp only [ZeA.wr, List.mem_cons, List.not_mem_nil, or_false, not_or] at h
      exact h.2
    unfold Builtin.SmallTypes.nextOf
    rcases Z.zz with ⟨hz, p, r, hTO⟩ | ⟨T, f, oT, hz, hT, nT⟩
    · have tz : s.TypeIs (.ref a.z) "zip" := ⟨_, hz, rfl⟩
      exact wpAny_bind (wpAny_callSpecial?_slot (name := Str.ofString "__next__") tz F.slot_zip_next (wpAny_call_entry F.slot_zip_next tz F.entry_zip_next (zip_next_end hA D.d hz Z.ti hTO Z.h1 Z.h2 Z.x1 Z.x2 hend fun h' x k hx => q h' x (fun b o hb e => k b o (out hb).1 (out hb).2.1 (out hb).2.2.1 (out hb).2.2.2 e) hx) (F.args_zip_next_1 _)))
    · have tz : s.TypeIs (.ref a.z) "zip" := ⟨_, hz, rfl⟩
      exact wpAny_bind (wpAny_callSpecial?_slot (name := Str.ofString "__next__") tz F.slot_zip_next (wpAny_call_entry F.slot_zip_next tz F.entry_zip_next (zip_next_end_held hA D.d hz hT Z.ti Z.h1 Z.h2 Z.x1 Z.x2 hend fun h' x k hx => q h' x (fun b o hb e => k b o (out hb).1 (out hb).2.2.1 (out hb).2.2.2 e) hx) (F.args_zip_next_1 _)))
  unfold pyNext
  refine wpAny_bind (wpAny_attempt (wpAny_callSpecial?_slot (name := Str.ofString "__next__") ty F.slot_enumerate_next (wpAny_call_entry F.slot_enumerate_next ty F.entry_enumerate_next ?_ (F.args_enumerate_next_1 _))))
  refine wpAny_bind (m := field (.ref a.e) 2) (wpAny_field he rfl (x := .ref a.z) rfl (wpAny_bind (stop hh fun h' x k hx => ?_)))
  obtain ⟨o, h1, h2⟩ := hx
  exact wpAny_bind (wpAny_isInstance (T := "StopIteration") (b := true) ⟨o, h1, h2⟩ isSubtype_stop (wpAny_pure (hQ _ k)))
end
end Vf
end
section
set_option Elab.async false
set_option linter.all false
set_option maxRecDepth 100000
set_option maxHeartbeats 4000000
/-! Own layer: a list is filled from enumerate(zip(xs, ys)). -/
namespace Vf
open PySem PySem.Spec PyProof.Rows PySem.W PySem.Calls
structure ZG (xs ys : Array Value) (lo : Addr) (h : Heap) (ps : List Addr) : Prop where
  rise : ps.Pairwise fun p q => p + 1 < q
  above : ∀ p ∈ ps, lo < p
  at_ : ∀ (j : Nat) (p : Addr), ps[j]? = some p → ∃ u v t, xs[j]? = some u ∧ ys[j]? = some v ∧ h.get? p = some { cls := .type "tuple", data := .seq #[u, v] } ∧ h.get? (p + 1) = some { cls := .type "tuple", data := .seq #[.int j t, .ref p] }
section
variable {prog : Program} {w : World} {A : Around} {s : Shared} {R : Result → Shared → Prop} {a : ZeA} {xs ys : Array Value}
theorem ze_loop (hh : A.handled = none) (D : ZeD a) (hn : min xs.size ys.size ≤ sizeLine) (res : Value) {h₁ : Heap} (lo : Addr) (hlo : ∀ b ∈ a.av, b ≤ lo)
    (hR : ∀ h' tk acc c ps, (∀ b o, b ∉ a.av → h₁.get? b = some o → h'.get? b = some o) → h'.get? a.S = some { cls := .type "list", dict := none, data := .seq acc c, slots := #[] } → ps.length = min xs.size ys.size → ZG xs ys lo h' ps →
      acc.toList = ps.map (fun p => Value.ref (p + 1)) → R (.ok (.ret res)) { s with heap := h', toks := tk }) :
    ∀ (k i : Nat) (h : Heap) (tk c : Nat) (acc : Array Value) (ps : List Addr), min xs.size ys.size - i = k → i ≤ min xs.size ys.size → ZE h a xs ys i → (∀ b o, b ∉ a.av → h₁.get? b = some o → h.get? b = some o) →
      h.get? a.S = some { cls := .type "list", dict := none, data := .seq acc c, slots := #[] } → acc.toList = ps.map (fun p => Value.ref (p + 1)) → ps.length = i → ZG xs ys lo h ps → lo < h.objs.size →
      codeAny (model prog w) A (.builtin "list.extend.loop" ⟨[.ref a.S, .ref a.e, res], []⟩) R { s with heap := h, toks := tk } := by
  have out : ∀ {b : Addr}, b ∉ a.av → b ≠ a.S ∧ b ∉ a.wr := fun h => ⟨fun y => h (by rw [y]; simp [ZeA.av]), fun m => h (List.mem_cons_of_mem _ m)⟩
  have hi2 : ∀ {b : Addr}, lo < b → b ∉ a.av := fun h m => Nat.lt_irrefl _ (Nat.lt_of_lt_of_le h (hlo _ m))
  intro k
  induction k with
  | zero =>
    intro i h tk c acc ps hk hi Z keep hS hacc hl hG hz
    refine codeAny_builtin PySem.F.entry_extend_loop ?_
    rw [Around.under_plainId PySem.F.plain_extend_loop _]
    have hend : xs[i]? = none ∨ ys[i]? = none := by
      rcases Nat.le_total xs.size ys.size with q | q
      · exact .inl (Array.getElem?_eq_none (by rw [Nat.min_eq_left q] at hk; omega))
      · exact .inr (Array.getElem?_eq_none (by rw [Nat.min_eq_right q] at hk; omega))
    refine wpAny_bind (m := pyNext (.ref a.e)) (ze_end (s := { s with heap := h, toks := tk }) (A := A.in1) hh D Z hend fun h' kk => ?_)
    refine wpAny_pure (hR h' tk acc c ps (fun b o hb q => kk b o (out hb).2 (keep b o hb q)) (kk _ _ D.s hS) (by omega) ⟨hG.rise, hG.above, fun j p hj => ?_⟩ hacc)
    obtain ⟨u, v, t, e1, e2, e3, e4⟩ := hG.at_ j p hj
    have hp := hG.above p (List.mem_of_getElem? hj)
    exact ⟨u, v, t, e1, e2, kk _ _ (out (hi2 hp)).2 e3, kk _ _ (out (hi2 (Nat.lt_succ_of_lt hp))).2 e4⟩
  | succ k ih =>
    intro i h tk c acc ps hk hi Z keep hS hacc hl hG hz
    have lt : i < min xs.size ys.size := by omega
    have ex := Array.getElem?_eq_getElem (Nat.lt_of_lt_of_le lt (Nat.min_le_left xs.size ys.size))
    have ey := Array.getElem?_eq_getElem (Nat.lt_of_lt_of_le lt (Nat.min_le_right xs.size ys.size))
    have sz : acc.size = i := by rw [← Array.length_toList, hacc, List.length_map, hl]
    refine codeAny_builtin PySem.F.entry_extend_loop ?_
    rw [Around.under_plainId PySem.F.plain_extend_loop _]
    refine wpAny_bind (m := pyNext (.ref a.e)) (ze_item (s := { s with heap := h, toks := tk }) (A := A.in1) D Z ex ey fun h' t1 tk' p1 p2 Z' z' kk => ?_)
    dsimp only at p1 p2 z' kk ⊢
    have hS' := kk _ _ D.s hS
    have up : ∀ b o, b ≠ a.S → h'.get? b = some o → (h'.update a.S (Obj.mapSeq (·.push (Value.ref (h.objs.size + 1))))).get? b = some o := fun b o hb e => (Heap.get?_update_other _ _ (Ne.symm hb)).trans e
    refine wpAny_bind (m := updateSeq a.S (·.push (Value.ref (h.objs.size + 1)))) ?_
    have nS : h.objs.size ≠ a.S := fun y => by have := Heap.lt_size hS; rw [← y] at this; exact Nat.lt_irrefl _ this
    have nS1 : h.objs.size + 1 ≠ a.S := fun y => by have := Heap.lt_size hS; rw [← y] at this; exact absurd this (Nat.not_lt_of_ge (Nat.le_succ _))
    have ok := ih (i + 1) (h'.update a.S (Obj.mapSeq (·.push (Value.ref (h.objs.size + 1))))) tk' _ (acc.push (Value.ref (h.objs.size + 1))) (ps ++ [h.objs.size]) (by omega) lt (Z'.write D up ⟨_, Heap.get?_update_self _ hS' rfl⟩)
      (fun b o hb e => up b o (out hb).1 (kk b o (out hb).2 (keep b o hb e))) (Heap.get?_update_self _ hS' rfl) (by rw [Array.toList_push, hacc, List.map_append]; rfl) (by rw [List.length_append, hl]; rfl) ⟨?_, ?_, ?_⟩ ?_
    · refine wpAny_updateSeq hS' rfl (wpAny_pure ⟨plainId_quiet PySem.F.plain_extend_loop _, ok⟩) (by rw [sz]; omega) (by show (acc.push _).size ≤ sizeLine + 1; rw [Array.size_push, sz]; omega)
    · refine List.pairwise_append.mpr ⟨hG.rise, List.pairwise_singleton _ _, fun p hp q hq => ?_⟩
      rw [List.mem_singleton.mp hq]
      obtain ⟨j, hj⟩ := List.mem_iff_getElem?.mp hp
      obtain ⟨_, _, _, _, _, _, e4⟩ := hG.at_ j p hj
      exact Heap.lt_size e4
    · intro p hp
      rcases List.mem_append.mp hp with hp | hp
      · exact hG.above p hp
      · rw [List.mem_singleton.mp hp]; exact hz
    · intro j p hj
      rcases Nat.lt_trichotomy j ps.length with q | q | q
      · rw [List.getElem?_append_left q] at hj
        obtain ⟨u, v, t, e1, e2, e3, e4⟩ := hG.at_ j p hj
        have hp := hG.above p (List.mem_of_getElem? hj)
        have o1 := out (hi2 hp)
        have o2 := out (hi2 (Nat.lt_succ_of_lt hp))
        exact ⟨u, v, t, e1, e2, up _ _ o1.1 (kk _ _ o1.2 e3), up _ _ o2.1 (kk _ _ o2.2 e4)⟩
      · subst q
        have hb : h.objs.size = p := by simpa using hj
        subst hb
        rw [hl]
        exact ⟨_, _, t1, ex, ey, up _ _ nS p1, up _ _ nS1 p2⟩
      · rw [List.getElem?_eq_none (by rw [List.length_append]; show ps.length + 1 ≤ j; omega)] at hj
        cases hj
    · have e := up _ _ nS p1
      exact Nat.lt_trans hz (Heap.lt_size e)
end
end Vf
end
section
set_option Elab.async false
set_option linter.all false
set_option maxRecDepth 100000
set_option maxHeartbeats 4000000
/-! Own layer: list(enumerate(zip(xs, ys))), the last call. -/
namespace Vf
open PySem PySem.Spec PyProof.Rows PySem.W PySem.Calls
theorem enum_no_len : typeLookup (.type "enumerate") "__len__" = pure none := by rw [typeLookup_type, builtinLookup_eq_fast]; kernel_rfl
theorem enum_no_hint : typeLookup (.type "enumerate") "__length_hint__" = pure none := by rw [typeLookup_type, builtinLookup_eq_fast]; kernel_rfl
section
variable {prog : Program} {w : World} {A : Around} {E : Value → Shared → Prop} {s : Shared} {R : Result → Shared → Prop} {a : ZeA} {xs ys : Array Value}
theorem zl_extend (hh : A.handled = none) (D : ZeD a) (Z : ZE s.heap a xs ys 0) (he : ∃ old, IsEnum s.heap a.e a.z 0 old) (hn : min xs.size ys.size ≤ sizeLine) (res : Value) (c₀ : Nat) (hS : s.heap.get? a.S = some { cls := .type "list", data := .seq #[] c₀ })
    (hR : ∀ h' tk acc c ps, (∀ b o, b ∉ a.av → s.heap.get? b = some o → h'.get? b = some o) → h'.get? a.S = some { cls := .type "list", dict := none, data := .seq acc c, slots := #[] } → ps.length = min xs.size ys.size → ZG xs ys (s.heap.objs.size - 1) h' ps →
      acc.toList = ps.map (fun p => Value.ref (p + 1)) → R (.ok (.ret res)) { s with heap := h', toks := tk }) :
    wpAny (model prog w) A.in1 (Builtin.List.listExtendWith (.ref a.S) (.ref a.e) res) (fun fin s' => match fin with | .done f => R (.ok f) s' | .again c' => c'.quiet = true ∧ codeAny (model prog w) A c' R s') (fun e s' => R (.error e) s') s := by
  obtain ⟨old, he⟩ := he
  have lt := Z.lt
  have lS : a.S < s.heap.objs.size := Heap.lt_size hS
  have ne : a.S ≠ a.e := fun y => D.s (by rw [y]; simp [ZeA.wr])
  have ty : s.TypeIs (.ref a.e) "enumerate" := ⟨_, he, rfl⟩
  have go : ∀ (h : Heap) (c₁ tk : Nat), (∀ b o, b ≠ a.S → s.heap.get? b = some o → h.get? b = some o) → h.get? a.S = some { cls := .type "list", data := .seq #[] c₁ } → h.objs.size = s.heap.objs.size →
      codeAny (model prog w) A (.builtin "list.extend.loop" ⟨[.ref a.S, .ref a.e, res], []⟩) R { s with heap := h, toks := tk } := fun h c₁ tk k hS₁ hz =>
    ze_loop (h₁ := s.heap) hh D hn res (s.heap.objs.size - 1) (fun b hb => Nat.le_sub_one_of_lt (lt b hb)) hR _ 0 h tk c₁ #[] [] rfl (Nat.zero_le _) (Z.write D k ⟨_, hS₁⟩) (fun b o hb e => k b o (fun y => hb (by rw [y]; simp [ZeA.av])) e) hS₁ rfl rfl
      ⟨List.Pairwise.nil, (fun _ ha => nomatch ha), (fun j p hj => by simp at hj)⟩ (by rw [hz]; exact Nat.sub_one_lt (Nat.ne_of_gt (Nat.lt_of_le_of_lt (Nat.zero_le _) lS)))
  unfold Builtin.List.listExtendWith
  refine wpAny_bind (wpAny_typeOf ty ?_)
  have h1 : Builtin.List.listSameRef (.ref a.S) (.ref a.e) = false := by simp [Builtin.List.listSameRef, ne]
  have h2 : (Value.type "enumerate" == Value.type "list") = false := by decide
  have h3 : (Value.type "enumerate" == Value.type "tuple") = false := by decide
  simp only [h1, h2, h3, Bool.or_false, Bool.false_eq_true, if_false]
  refine wpAny_bind (wpAny_pyIter_enum he (wpAny_bind (wpAny_holding ?_)))
  unfold Builtin.List.listLengthHint
  refine wpAny_bind (wpAny_specialOf ty enum_no_len ?_)
  refine wpAny_bind (m := specialOf (Value.ref a.e) (Str.ofString "__length_hint__")) (wpAny_specialOf ty enum_no_hint (wpAny_pure ?_))
  refine wpAny_bind (m := rule "list.extend.makes-room") (wpAny_rule (wpAny_bind ?_))
  refine wpAny_bind (m := updateSeq a.S (·.push .none)) (wpAny_updateSeq hS rfl ?_)
  have s2 := Heap.get?_update_self (Obj.mapSeq (·.push Value.none)) hS rfl
  refine wpAny_updateSeq (hz := by seq_fits) s2 rfl ?_
  have s3 := Heap.get?_update_self (Obj.mapSeq (·.pop)) s2 rfl
  refine wpAny_pure ⟨plainId_quiet PySem.F.plain_extend_loop _, go _ _ _ (fun b o hb e => (Heap.get?_update_other _ _ (Ne.symm hb)).trans ((Heap.get?_update_other _ _ (Ne.symm hb)).trans e)) s3 (by rw [Heap.size_update, Heap.size_update])⟩
end
end Vf
end
section
set_option Elab.async false
set_option linter.all false
set_option maxRecDepth 100000
set_option maxHeartbeats 4000000
/-! Own layer: list(enumerate(zip(xs, ys))), the call of list. -/
namespace Vf
open PySem PySem.Spec PyProof.Rows PySem.W PySem.Calls
section
variable {prog : Program} {w : World} {A : Around} {E : Value → Shared → Prop} {s : Shared} {R : Result → Shared → Prop} {a : ZeA} {xs ys : Array Value}
theorem zl_init (hh : A.handled = none) (D : ZeD a) (Z : ZE s.heap a xs ys 0) (he : ∃ old, IsEnum s.heap a.e a.z 0 old) (hn : min xs.size ys.size ≤ sizeLine) (hS : s.heap.get? a.S = some { cls := .type "list", data := .seq #[] })
    (hR : ∀ h' tk acc c ps, (∀ b o, b ∉ a.av → s.heap.get? b = some o → h'.get? b = some o) → h'.get? a.S = some { cls := .type "list", dict := none, data := .seq acc c, slots := #[] } → ps.length = min xs.size ys.size → ZG xs ys (s.heap.objs.size - 1) h' ps →
      acc.toList = ps.map (fun p => Value.ref (p + 1)) → R (.ok (.ret .none)) { s with heap := h', toks := tk }) :
    wpAny (model prog w) A.in1 (Builtin.«list.__init__» ⟨[.ref a.S, .ref a.e], []⟩) (fun fin s' => match fin with | .done f => R (.ok f) s' | .again c' => c'.quiet = true ∧ codeAny (model prog w) A c' R s') (fun e s' => R (.error e) s') s := by
  have oth : ∀ b o, b ≠ a.S → s.heap.get? b = some o → (s.heap.update a.S (Obj.mapSeq (fun _ => (#[] : Array Value)))).get? b = some o := fun b o hb e => (Heap.get?_update_other _ _ (Ne.symm hb)).trans e
  have s2 := Heap.get?_update_self (Obj.mapSeq (fun _ => (#[] : Array Value))) hS rfl
  have ne : a.e ≠ a.S := fun y => D.s (by rw [← y]; simp [ZeA.wr])
  obtain ⟨old, he⟩ := he
  show wpAny _ _ (do let old ← Builtin.List.listItems (.ref a.S); Builtin.List.listUpdate (.ref a.S) (fun _ => #[]); letGo old.toList.reverse; Builtin.List.listExtendWith (.ref a.S) (.ref a.e) .none) _ _ s
  refine wpAny_bind ?_
  unfold Builtin.List.listItems
  refine wpAny_bind (wpAny_seqItems hS rfl (wpAny_pure (wpAny_bind (m := updateSeq a.S (fun _ => #[])) (wpAny_updateSeq hS rfl (wpAny_bind (m := letGo (#[] : Array Value).toList.reverse) (wpAny_letGo ?_))))))
  refine zl_extend (s := { s with heap := s.heap.update a.S (Obj.mapSeq (fun _ => (#[] : Array Value))) }) hh D (Z.write D oth ⟨_, s2⟩) ⟨old, oth _ _ ne he⟩ hn .none _ s2 fun h' tk acc c ps k hS' hl hG hacc => ?_
  have hG : ZG xs ys ((s.heap.update a.S (Obj.mapSeq (fun _ => (#[] : Array Value)))).objs.size - 1) h' ps := hG
  rw [Heap.size_update] at hG
  exact hR h' tk acc c ps (fun b o hb e => k b o hb (oth b o (fun y => hb (by rw [y]; simp [ZeA.av])) e)) hS' hl hG hacc
theorem zl_call {Q : Value → Shared → Prop} (hh : A.handled = none) (D : ZeD a) (eS : a.S = s.heap.objs.size) (ti : PySem.IsPair s.heap a.TI (.ref a.i1) (.ref a.i2)) (h1 : s.heap.IsListIter a.i1 a.l1 0) (h2 : s.heap.IsListIter a.i2 a.l2 0) (x1 : s.heap.IsList a.l1 xs) (x2 : s.heap.IsList a.l2 ys)
    (zz : IsZip s.heap a.z a.TI a.TO .none) (to : ∃ u v, PySem.IsPair s.heap a.TO u v) (he : ∃ old, IsEnum s.heap a.e a.z 0 old) (hn : min xs.size ys.size ≤ sizeLine)
    (hQ : ∀ h' tk acc c ps, (∀ b o, b ∉ a.wr → s.heap.get? b = some o → h'.get? b = some o) → h'.get? a.S = some { cls := .type "list", dict := none, data := .seq acc c, slots := #[] } → ps.length = min xs.size ys.size → ZG xs ys s.heap.objs.size h' ps →
      acc.toList = ps.map (fun p => Value.ref (p + 1)) → Q (.ref a.S) { s with heap := h', toks := tk }) :
    wpAny (model prog w) A (call (.type "list") [.ref a.e]) Q E s := by
  refine callType_codes (Q₁ := fun obj s₁ => obj = .ref s.heap.objs.size ∧ s₁ = { s with heap := s.heap.push { cls := .type "list", data := .seq #[] } }) PySem.F.called_list (PySem.F.typeCall_list_1 _) PySem.F.entry_list_init (code_list_new _ ⟨rfl, rfl⟩) fun obj s₁ h₁ => ?_
  obtain ⟨rfl, rfl⟩ := h₁
  have k0 : ∀ b o, s.heap.get? b = some o → (s.heap.push { cls := .type "list", data := .seq #[] }).get? b = some o := fun b o e => Heap.get?_push_of_some _ e
  have hS : (s.heap.push { cls := .type "list", data := .seq #[] }).get? s.heap.objs.size = some { cls := .type "list", data := .seq #[] } := Heap.get?_push_size _ rfl
  have hS' : (s.heap.push { cls := .type "list", data := .seq #[] }).get? a.S = some { cls := .type "list", data := .seq #[] } := by rw [eS]; exact hS
  obtain ⟨u, v, to⟩ := to
  obtain ⟨old, he⟩ := he
  have Z : ZE (s.heap.push { cls := .type "list", data := .seq #[] }) a xs ys 0 := ⟨k0 _ _ ti, h1.at fun o e => k0 _ o e, h2.at fun o e => k0 _ o e, x1.at fun o e => k0 _ o e, x2.at fun o e => k0 _ o e, .inl ⟨k0 _ _ zz, u, v, k0 _ _ to⟩, ⟨.none, .bool false, old, k0 _ _ he, .inl ⟨rfl, rfl⟩⟩, ⟨_, k0 _ _ to⟩, ⟨_, hS'⟩⟩
  refine ⟨⟨_, hS, rfl⟩, PySem.F.args_list_init_2 _ _, ?_⟩
  rw [← eS]
  refine zl_init (s := { s with heap := s.heap.push { cls := .type "list", data := .seq #[] } }) (A := A.in1) hh D Z ⟨old, k0 _ _ he⟩ hn hS' fun h' tk acc c ps k hs hl hG hacc => ?_
  have hG : ZG xs ys ((s.heap.push { cls := .type "list", data := .seq #[] }).objs.size - 1) h' ps := hG
  rw [Heap.size_push, Nat.add_sub_cancel] at hG
  refine ⟨rfl, ?_⟩
  refine hQ h' tk acc c ps (fun b o hb e => k b o (fun m => ?_) (k0 b o e)) hs hl hG hacc
  rcases List.mem_cons.mp m with y | m
  · have := Heap.lt_size e
    rw [y, eS] at this
    exact Nat.lt_irrefl _ this
  · exact hb m
end
end Vf
end
section
set_option Elab.async false
set_option linter.all false
set_option maxRecDepth 100000
set_option maxHeartbeats 4000000
/-! Own layer: enumerate of what is its own iterator. -/
namespace Vf
open PySem PySem.Spec PyProof.Rows PySem.W PySem.Calls
theorem meets_enum_self {v : Value} {H : Heap → Prop} (it : ∀ (prog : Program) (w : World) (A : Around) (E : Value → Shared → Prop) (s : Shared) (Q : Value → Shared → Prop), H s.heap → Q v s → wpAny (model prog w) A (pyIter v) Q E s) :
    Meets (Builtin.«enumerate.__new__» ⟨[.type "enumerate", v], []⟩) (fun _ R s => H s.heap ∧ R (.ok (.ret (.ref s.heap.objs.size))) { s with heap := s.heap.push { cls := .type "enumerate", data := .fields #[.none, .bool false, v, rawInt 0, .none, .none] } }) :=
  .of_wp fun prog w A R s h => by
    obtain ⟨hp, g, d, tk, os⟩ := s
    obtain ⟨h1, h⟩ := h
    have sub := sub_enumerate
    have q1 : ∀ {A' : Around} {E : Value → Shared → Prop} {Q : Value → Shared → Prop}, Q v ⟨hp, g, d, tk, os⟩ → wpAny (model prog w) A' (pyIter v) Q E ⟨hp, g, d, tk, os⟩ := fun q => it prog w _ _ ⟨hp, g, d, tk, os⟩ _ h1 q
    wp_walk using q1
    refine wpAny_stack_any fun st => wpAny_pure ?_
    split
    · rename_i c _ _ _ _ _
      cases (c == Value.type "enumerate")
      all_goals
        wp_walk using q1
        exact ⟨_, rfl, h⟩
    · wp_walk using q1
      exact ⟨_, rfl, h⟩
section
variable {prog : Program} {w : World} {A : Around} {E : Value → Shared → Prop} {s : Shared}
theorem call_enum_zip {z TI TO : Addr} {f0 : Value} {Q : Value → Shared → Prop} (hz : IsZip s.heap z TI TO f0) (h : ∀ h', IsEnum h' s.heap.objs.size z 0 .none → h'.objs.size = s.heap.objs.size + 1 → (∀ b o, s.heap.get? b = some o → h'.get? b = some o) → Q (.ref s.heap.objs.size) { s with heap := h' }) :
    wpAny (model prog w) A (call (.type "enumerate") [.ref z]) Q E s := by
  refine callType_new F.called_enumerate (by decide) (F.typeCall_enumerate_1 _) (F.newCall_enumerate_1 _) (fun obj => F.args_object_init_2 obj _) F.entry_enumerate_new (meets_enum_self (H := fun h => IsZip h z TI TO f0) fun prog w A E s Q q k => wpAny_pyIter_zip q k) ⟨hz, ?_⟩
  have he : IsEnum (s.heap.push { cls := .type "enumerate", data := .fields #[.none, .bool false, .ref z, rawInt 0, .none, .none] }) s.heap.objs.size z 0 .none := Heap.get?_push_size _ rfl
  exact ⟨⟨_, he, rfl⟩, h _ he (Heap.size_push ..) fun b o x => Heap.get?_push_of_some _ x⟩
end
end Vf
end
section
set_option Elab.async false
set_option linter.all false
set_option maxRecDepth 100000
set_option maxHeartbeats 4000000
/-! Own layer: defs and methods that let exceptions out, by their promises (Dx, Mx); raise of a class with its own __init__; what is known of a caught exception. -/
namespace Vf
open PySem PySem.Spec PyProof.Rows L2 GxR GenW RZ
structure Dx (P : Program) (w : World) (K : PySem.W.Frag) (mg : Str → Option Value) (base : Heap) (x : Str) (k : Nat) (ps : List Str) (sp : Sp) : Prop where
  ex : ∃ (f : Addr) (fd : FuncData), FnOk P w K mg base (L2.CX P w) k f fd ps sp ∧ mg x = some (.ref f) ∧ PySem.W.keepIn K (.ref f) = true ∧ Binds K fd ps []
structure Mx (P : Program) (w : World) (K : PySem.W.Frag) (mg : Str → Option Value) (base : Heap) (C : Addr) (m : Str) (k : Nat) (ps : List Str) (sp : Sp) : Prop where
  ex : ∃ (f : Addr) (fd : FuncData), FnOk P w K mg base (L2.CX P w) k f fd ps sp ∧ Meth K C m f ∧ Binds K fd ps []
section
variable {CX : CXT} {P : Program} {w : World} {K : PySem.W.Frag} {mg : Str → Option Value} {base : Heap} {k : Nat} {p : Str × Option Str} {x qual : Str} {params : Arguments} {body : List Stmt} {scope : Scope} {fd : FuncData} {N ps : List Str} {sp : Sp} {dvs : List PySem.Expr} {kws : List (Option PySem.Expr)}
end
section
variable {X : Cx} {W : WX} {E : XK} {j k : Nat} {x m : Str} {C : Addr} {ps : List Str} {sp : Sp} {p pos pos2 apos : Pos} {e o : Expr} {es : List Expr} {to : TE} {t : TA}
theorem pe_fnX (tk : Takes X W) (D : Dx X.prog X.w X.K X.mg X.base x k ps sp) (hr : Room j X.A) (hk : k ≤ j) (hg : Gl X x) (ha : PA X (e :: es) t) (hdb : (x == ("__debug__" : Str)) = false := by decide)
    (he : starEach (e :: es) X.env = (false, eval e X.env) :: starEach es X.env := by rfl) (hpl : (backTo pos (starEach es X.env)).any (·.1) = false := by rfl) : PE X (.Call (.Name x p) (e :: es) [] pos) (tCallS sp (WE W) t) := by
  obtain ⟨f, fd, F, hm, hkp, hb⟩ := D.ex
  exact pe_callS F (hr.mono hk) hg hm hkp hb (passAt tk) ha hdb he hpl
theorem pe_mtX {pl : Sem Bool} (tk : Takes X fun c d _ H => E c d H) (c : Cls X.K C) (D : Mx X.prog X.w X.K X.mg X.base C m k ps sp) (hr : Room j X.A) (hk : k ≤ j) (ho : PE X o to) (ha : PA X (e :: es) t)
    (hst : starEach (e :: es) X.env = (false, eval e X.env) :: starEach es X.env := by rfl) (hpl : (backTo pos (starEach es X.env)).any (·.1) = false := by rfl)
    (ht : eval (.Call (.Attribute o m apos) (e :: es) [] pos) X.env = (do
      let ov ← eval o X.env
      standAt apos.atName
      let (f, first) ← holding [ov] (getMethod ov m pl)
      callWith pos f first (backTo pos (starEach (e :: es) X.env)) (backToKw pos (keywordEach [] X.env))) := by rfl) :
    PE X (.Call (.Attribute o m apos) (e :: es) [] pos) (tMeth C m sp [] E to t) := by
  obtain ⟨f, fd, F, hm, hb⟩ := D.ex
  exact pe_meth (pl := pl) ho c hm F (hr.mono hk) hb .nil (passes_call tk fun _ _ _ _ h => h) ha hst hpl ht
theorem pe_mtX0 {pl : Sem Bool} (tk : Takes X fun c d _ H => E c d H) (c : Cls X.K C) (D : Mx X.prog X.w X.K X.mg X.base C m k ps sp) (hr : Room j X.A) (hk : k ≤ j) (ho : PE X o to)
    (ht : eval (.Call (.Attribute o m apos) [] [] pos) X.env = (do
      let ov ← eval o X.env
      standAt apos.atName
      let (f, first) ← holding [ov] (getMethod ov m pl)
      callWith pos f first (backTo pos (starEach [] X.env)) (backToKw pos (keywordEach [] X.env))) := by rfl) :
    PE X (.Call (.Attribute o m apos) [] [] pos) (tMeth C m sp [] E to tNil) := by
  obtain ⟨f, fd, F, hm, hb⟩ := D.ex
  exact pe_meth0 (pl := pl) ho c hm F (hr.mono hk) hb .nil (passes_call tk fun _ _ _ _ h => h) ht
/-- raise C(e, ..), C's own __init__ keeping sp -/
theorem ps_raiseI (hc : X.calm = true) (tk : Takes X W) (D : DfI X.prog X.w X.K X.mg X.base x C k ps sp) (hr : Room j X.A) (hj : k + 1 ≤ j) (hg : Gl X x) (ha : PA X (e :: es) t) (hdb : (x == ("__debug__" : Str)) = false := by decide)
    (he : starEach (e :: es) X.env = (false, eval e X.env) :: starEach es X.env := by rfl) (hpl : (backTo pos (starEach es X.env)).any (·.1) = false := by rfl) :
    PS X (.Raise (some (.Call (.Name x p) (e :: es) [] pos)) none pos2) (fun _ σ H => tMkO C sp [] t σ H fun cls d H' => W cls d σ H') := by
  obtain ⟨fI, fd, T, hm, iC, tI, F1, hb⟩ := D.ex
  exact ps_raise hc tk (pmk_oex T iC tI F1 (hr.mono hj) hb .nil pass0 hg hm ha hdb he hpl)
/-! ### a caught exception -/
structure rIsC (K : PySem.W.Frag) (xs : List V) (H : Hp) (Q : VK) : Prop where
  h : ∃ (a D dd : Addr) (fs : List (Str × V)) (c : V) (cv : Value) (b : Bool), xs = [.ref a, c] ∧ H a = some (CxO (.ref D) (some dd) a) ∧ H dd = some (.xd fs) ∧ ExcC K D ∧ ClsV c cv ∧ PySem.W.kitOne K (.ref D) cv = some b ∧ Q (.bl b) H
theorem caught_at {P : Program} {w : World} {H : Hp} {h : Heap} {a : Addr} {cls : Value} {d : Option Addr} (hok : HOk P w H h) (e : H a = some (CxO cls d a)) : ∃ (ob : Obj) (fv : Array Value), h.get? a = some ob ∧ Zc cls d ob ∧ ob.data = .fields fv := by
  obtain ⟨z, _, _⟩ := hok a _ e
  exact z
theorem call_isC {K : PySem.W.Frag} (hK : X.K = K) : CallR X (.builtin "isinstance") (rIsC K) := by
  subst hK
  intro pins s σ H xs us Q I r h
  obtain ⟨a, D, dd, fs, c, cv, b, rfl, hx, hd, ec, kc, e, q⟩ := h.h
  obtain ⟨u1, u2, rfl, r1, r2⟩ := vals2 r
  have e2 := kc.eq r2
  subst e2
  cases r1
  obtain ⟨ob, fv, ho, ⟨z1, z2⟩, hf⟩ := caught_at I.hok hx
  have ox : ObjOk X.prog X.w H s.heap dd (.xd fs) := I.hok dd _ hd
  obtain ⟨mA, hns, _⟩ := ox
  obtain ⟨oD, es, ep, hoD, _⟩ := hns
  obtain ⟨oc, od, oda, osl⟩ := ob
  dsimp only at z1 z2 hf
  subst z1 z2 hf
  have J : PySem.W.InstAt s.heap a _ D (some oD) := ⟨ho, rfl, rfl, hoD⟩
  exact PySem.W.kia_one (kitx_excO ec) I.kIn J e (fun z => nomatch z) fun tk => ⟨.bl b, H, I.tok tk, rfl, q⟩
structure rFldC (K : PySem.W.Frag) (f : Str) (x : V) (H : Hp) (Q : VK) : Prop where
  h : ∃ (a D dd : Addr) (fs : List (Str × V)) (v : V), x = .ref a ∧ XfC K D ∧ PySem.W.findIn K (.ref D) f = some none ∧ H a = some (CxO (.ref D) (some dd) a) ∧ H dd = some (.xd fs) ∧ fs.lookup f = some v ∧ Q v H
theorem pe_fldC {K : PySem.W.Frag} {te : TE} {n : Str} (hK : X.K = K) (he : PE X e te) (hb : attributeBase e n X.env (eval e X.env) = eval e X.env := by rfl) :
    PE X (.Attribute e n pos) (fun σ H Q => te σ H fun x H1 => rFldC K n x H1 Q) := by
  subst hK
  refine ⟨fun pins s σ H Q I h => ?_⟩
  refine attr_of hb (thn (he.run pins s σ H _ I h) fun u s1 ⟨y, H1, I1, ry, q⟩ => ?_)
  obtain ⟨a, D, dd, fs, v, rfl, T, hno, h1, h2, l, q⟩ := q.h
  cases ry
  obtain ⟨ob, fv, ho, ⟨z1, z2⟩, hf⟩ := caught_at I1.hok h1
  have ox : ObjOk X.prog X.w H1 s1.heap dd (.xd fs) := I1.hok dd _ h2
  obtain ⟨mA, hns, hr⟩ := ox
  obtain ⟨od, hod, hl⟩ := lookIn_ns hns
  obtain ⟨u, hu, ru⟩ := RelO.some_of (v := v) (o := mA n) (by rw [← l]; exact hr n)
  obtain ⟨oc, odd, oda, osl⟩ := ob
  dsimp only at z1 z2 hf
  subst z1 z2 hf
  have J : PySem.W.InstAt s1.heap a _ D (some od) := ⟨ho, rfl, rfl, hod⟩
  exact HandSPX.exc_get I1.kIn J T.ga T.gg T.exC (PySem.W.findObj_own T.hdC hno rfl (by rw [hl, hu])) (handed_of ru) ⟨v, H1, I1.tok _, ru, q⟩
end
end Vf
namespace Vf
open PySem PySem.Spec PyProof.Rows L2 GxR GenW RZ
section
variable {P : Program} {w : World} {K : PySem.W.Frag} {mg : Str → Option Value} {base : Heap} {CX : CXT} {k : Nat} {fd : FuncData} {ps : List Str} {sp : Sp}
  {qual x : Str} {params : Arguments} {body : List Stmt} {scope : Scope} {dvs : List V} {kws : List (Str × V)} {N : List Str} {p : He.Defn}
/-- okP for a def that lets exceptions out -/
theorem okPX (F : FunD K x qual params body scope dvs kws (He.fAd K p) fd) (S : FnScope N ps scope) (len : ∀ vs H Q E, sp vs H Q E → vs.length = ps.length)
    (hbody : ∀ (A : Around) (outer : List Env) (s : Shared) (H : Hp) (vs : List V) (Q : VK) (E : XK), Room k (A.deeper (envOfC qual scope s.heap.objs.size (He.fAd K p) (.ref (He.codeOf K p)))) → sp vs H Q E →
      ∃ t, PSs (cxOf CX P w K mg base N qual scope (He.fAd K p) (.ref (He.codeOf K p)) A outer s H E) body t ∧ t { nx := fun _ H' => Q .non H', rt := Q } (start N vs) H) : FnOk P w K mg base CX (k + 1) (He.fAd K p) fd ps sp := by
  obtain ⟨oc, od, dV, kV, doc, pm, an, cdv, ct, osl, rfl, lk, hcd, _, _⟩ := F.ex
  obtain ⟨c, rfl⟩ := He.codeIn_ref hcd
  obtain rfl : He.codeOf K p = c := He.codeOf_eq lk rfl
  exact fn_of lk hcd S len hbody
theorem takesF {X : Cx} : Takes X fun _ _ _ _ => False := fun u s' x => by
  obtain ⟨_, _, _, _, _, _, _, _, _, _, _, _, _, _, _, _, z⟩ := x
  exact z.elim
end
end Vf
end
section
set_option Elab.async false
set_option linter.all false
set_option maxRecDepth 100000
set_option maxHeartbeats 4000000
/-! Own layer: raise of a class without own __init__; isinstance of a caught exception, with a dict or without. -/
namespace Vf
open PySem PySem.Spec PyProof.Rows L2 GxR GenW RZ
/-- an own class of exceptions without own __init__, by its name -/
structure DfE (K : PySem.W.Frag) (mg : Str → Option Value) (x : Str) (C : Addr) : Prop where
  m : mg x = some (.ref C)
  x : PySem.W.excIn K C [.type "ValueError", .type "Exception", .type "BaseException", .type "object"] "ValueError.__new__" = true
  k : PySem.W.keepIn K (.ref C) = true
  s : PySem.W.subIn K (.ref C) (.type "BaseException") = some true
  t : PySem.W.typeIn K (.ref C) = some (.type "type")
section
variable {X : Cx} {W : WX} {x : Str} {C : Addr} {p pos pos2 : Pos} {e : Expr} {te : TE}
theorem ps_raiseO (hc : X.calm = true) (tk : Takes X W) (D : DfE X.K X.mg x C) (hg : Gl X x) (he : PE X e te) (hs : starEach [e] X.env = (false, eval e X.env) :: starEach [] X.env := by rfl) (hdb : (x == ("__debug__" : Str)) = false := by decide) :
    PS X (.Raise (some (.Call (.Name x p) [e] [] pos)) none pos2) (fun _ σ H => te σ H fun _ H1 => W (.ref C) none σ H1) :=
  ps_raise hc tk (SkE.pmk_own1 F.excBase_ValueError D.x D.m D.k (raises_own D.s D.t) hg he hs hdb)
/-- isinstance(e, c), e caught -/
structure rIsE (K : PySem.W.Frag) (xs : List V) (H : Hp) (Q : VK) : Prop where
  h : ∃ (a D : Addr) (d : Option Addr) (c : V) (cv : Value) (b : Bool), xs = [.ref a, c] ∧ H a = some (CxO (.ref D) d a) ∧ (∀ dd, d = some dd → ∃ fs, H dd = some (.xd fs)) ∧ ExcC K D ∧ ClsV c cv ∧ PySem.W.kitOne K (.ref D) cv = some b ∧ Q (.bl b) H
theorem call_isE {K : PySem.W.Frag} (hK : X.K = K) : CallR X (.builtin "isinstance") (rIsE K) := by
  subst hK
  intro pins s σ H xs us Q I r h
  obtain ⟨a, D, d, c, cv, b, rfl, hx, hd, ec, kc, e, q⟩ := h.h
  obtain ⟨u1, u2, rfl, r1, r2⟩ := vals2 r
  have e2 := kc.eq r2
  subst e2
  cases r1
  obtain ⟨ob, fv, ho, ⟨z1, z2⟩, hf⟩ := caught_at I.hok hx
  have fin : ∀ (od : Option Obj), PySem.W.InstAt s.heap a ob D od → wpAny (model X.prog X.w) X.A (call (.builtin "isinstance") [.ref a, u2]) (EP X pins σ Q) X.xe s := fun od J =>
    PySem.W.kia_one (kitx_excO ec) I.kIn J e (fun z => nomatch z) fun tk => ⟨.bl b, H, I.tok tk, rfl, q⟩
  obtain ⟨oc, od', oda, osl⟩ := ob
  dsimp only at z1 z2 hf
  subst z1 z2 hf
  cases od' with
  | none => exact fin none ⟨ho, rfl, rfl, trivial⟩
  | some dd =>
    obtain ⟨fs, hd⟩ := hd dd rfl
    have ox : ObjOk X.prog X.w H s.heap dd (.xd fs) := I.hok dd _ hd
    obtain ⟨mA, hns, _⟩ := ox
    obtain ⟨oD, es, ep, hoD, _⟩ := hns
    exact fin (some oD) ⟨ho, rfl, rfl, hoD⟩
end
end Vf
end
section
set_option Elab.async false
set_option linter.all false
set_option maxRecDepth 100000
set_option maxHeartbeats 4000000
/-! Own layer: a comparison of four. -/
namespace Vf
open PySem PySem.Spec PyProof.Rows L2 GxR GenW RZ
section
variable {X : Cx} {a b c d : Expr} {ta tb tc td : TE} {pos : Pos}
def tChain3 (r r' r'' : R2) (ta tb tc td : TE) : TE := fun σ H Q => ta σ H fun x H1 => tb σ H1 fun y H2 => r x y H2 fun z H3 => ∃ k, z = .bl k ∧
  (if k = true then tc σ H3 fun w H4 => r' y w H4 fun z2 H5 => ∃ k2, z2 = .bl k2 ∧ (if k2 = true then td σ H5 fun w2 H6 => r'' w w2 H6 Q else Q (.bl false) H5) else Q (.bl false) H3)
theorem pe_chain3 {op op' op'' : CmpOp} {r r' r'' : R2} (ho : OpR X (compareOp op) r) (ho' : OpR X (compareOp op') r') (ho'' : OpR X (compareOp op'') r'') (ha : PE X a ta) (hb : PE X b tb) (hc : PE X c tc) (hd : PE X d td)
    (hm : lastMarks [op, op', op''] [b, c, d] = false := by with_unfolding_all rfl) : PE X (.Compare a [op, op', op''] [b, c, d] pos) (tChain3 r r' r'' ta tb tc td) := by
  refine ⟨fun pins s σ H Q I h => ?_⟩
  refine Compare_chain (thn (ha.run pins s σ H _ I h) fun v s1 ⟨x, H1, I1, r1, q1⟩ => chain_link (thn (hb.run pins s1 σ H1 _ I1 q1) fun u s2 ⟨y, H2, I2, r2, q2⟩ =>
    thn (ho pins s2 σ H2 x y v u _ I2 r1 r2 q2) fun d s3 ⟨z, H3, I3, r3, k, e, q3⟩ => ?_)) hm
  subst e
  cases r3
  refine wpAny_truthy_bool ?_
  cases k with
  | false => exact ite_ff ⟨.bl false, H3, I3, rfl, q3⟩
  | true =>
    refine ite_tt (chain_link (thn (hc.run pins s3 σ H3 _ I3 q3) fun w' s4 ⟨w, H4, I4, r4, q4⟩ => thn (ho' pins s4 σ H4 y w u w' _ I4 r2 r4 q4) fun d2 s5 ⟨z2, H5, I5, r5, k2, e2, q5⟩ => ?_))
    subst e2
    cases r5
    refine wpAny_truthy_bool ?_
    cases k2 with
    | false => exact ite_ff ⟨.bl false, H5, I5, rfl, q5⟩
    | true => exact ite_tt (chain_last (thn (hd.run pins s5 σ H5 _ I5 q5) fun w2' s6 ⟨w2, H6, I6, r6, q6⟩ => ho'' pins s6 σ H6 w w2 w' w2' Q I6 r4 r6 q6))
theorem pt_chain3 {op op' op'' : CmpOp} {r r' r'' : R2} (ho : OpR X (compareOp op) r) (ho' : OpR X (compareOp op') r') (ho'' : OpR X (compareOp op'') r'') (ha : PE X a ta) (hb : PE X b tb) (hc : PE X c tc) (hd : PE X d td)
    (hm : lastMarks [op, op', op''] [b, c, d] = false := by with_unfolding_all rfl) : PT X (.Compare a [op, op', op''] [b, c, d] pos) (tTest (tChain3 r r' r'' ta tb tc td)) := by
  refine ⟨fun pins s σ H Q I h => ?_⟩
  refine isTrue_chain (thn (ha.run pins s σ H _ I h) fun v s1 ⟨x, H1, I1, r1, q1⟩ => test_link (thn (hb.run pins s1 σ H1 _ I1 q1) fun u s2 ⟨y, H2, I2, r2, q2⟩ =>
    thn (ho pins s2 σ H2 x y v u _ I2 r1 r2 q2) fun d s3 ⟨z, H3, I3, r3, k, e, q3⟩ => ?_)) hm
  subst e
  cases r3
  refine wpAny_truthy_bool ?_
  cases k with
  | false =>
    obtain ⟨k', e', q'⟩ := q3
    cases e'
    exact ite_ff ⟨H3, I3, q'⟩
  | true =>
    refine ite_tt (test_link (thn (hc.run pins s3 σ H3 _ I3 q3) fun w' s4 ⟨w, H4, I4, r4, q4⟩ => thn (ho' pins s4 σ H4 y w u w' _ I4 r2 r4 q4) fun d2 s5 ⟨z2, H5, I5, r5, k2, e2, q5⟩ => ?_))
    subst e2
    cases r5
    refine wpAny_truthy_bool ?_
    cases k2 with
    | false =>
      obtain ⟨k', e', q'⟩ := q5
      cases e'
      exact ite_ff ⟨H5, I5, q'⟩
    | true =>
      refine ite_tt (test_last (thn (hd.run pins s5 σ H5 _ I5 q5) fun w2' s6 ⟨w2, H6, I6, r6, q6⟩ => thn (ho'' pins s6 σ H6 w w2 w' w2' _ I6 r4 r6 q6) fun c' s7 ⟨z3, H7, I7, r7, k3, e3, q7⟩ => ?_))
      subst e3
      cases r7
      exact wpAny_truthy_bool ⟨H7, I7, q7⟩
end
end Vf
end
section
set_option Elab.async false
set_option linter.all false
set_option maxRecDepth 100000
set_option maxHeartbeats 4000000
/-! Own layer: for over a list or a tuple, whichever it is. -/
namespace Vf
open PySem PySem.Spec PyProof.Rows L2 GxR GenW RZ
section
variable {X : Cx} {tg l : Expr} {tl : TE}
def iAny (K : PySem.W.Frag) (tl : TE) : TI := fun σ H R => tl σ H fun x H1 => ∃ a, x = .ref a ∧ (((∃ xs, SqL K H1 a xs) ∧ R (Itl K a) H1) ∨ ((∃ xs, SqT K H1 a xs) ∧ R (Itt K a) H1))
theorem k_seqA {K : PySem.W.Frag} (hK : X.K = K) (hl : PE X l tl) : PI X tg l (iAny K tl) := by
  subst hK
  refine ⟨fun pins s σ H R I h => ?_⟩
  refine thn (hl.run pins s σ H _ I h) fun v s1 ⟨x, H1, I1, r1, q1⟩ => ?_
  obtain ⟨a, e, q⟩ := q1
  subst e
  cases r1
  rcases q with ⟨⟨xs, hq⟩, q⟩ | ⟨⟨xs, hq⟩, q⟩
  · obtain ⟨its, rv, p, hz⟩ := I1.list hq
    refine wpAny_pyIter_list p.isList ?_
    refine ⟨s1.heap.objs.size, [s1.heap.objs.size], _, _, H1, rfl, I1.kept (t' := s1.toks) fun b o e => Heap.get?_push_of_some _ e, turn_list a _, ⟨_, Heap.get?_push_size _ rfl, rfl, rfl⟩, fun b hb => ?_, q⟩
    have e : b = s1.heap.objs.size := by simpa using hb
    subst e
    exact I1.fpOk (Nat.le_refl _) (I1.hok.fresh (Nat.le_refl _))
  · obtain ⟨its, rv, p, hz⟩ := I1.tuple hq
    refine wpAny_pyIter_tuple (show s1.heap.IsTuple a its.toArray from p) ?_
    refine ⟨s1.heap.objs.size, [s1.heap.objs.size], _, _, H1, rfl, I1.kept (t' := s1.toks) fun b o e => Heap.get?_push_of_some _ e, turn_tuple a _, ⟨_, Heap.get?_push_size _ rfl, rfl, rfl⟩, fun b hb => ?_, q⟩
    have e : b = s1.heap.objs.size := by simpa using hb
    subst e
    exact I1.fpOk (Nat.le_refl _) (I1.hok.fresh (Nat.le_refl _))
end
end Vf
end
section
set_option Elab.async false
set_option linter.all false
set_option maxRecDepth 100000
set_option maxHeartbeats 4000000
/-! zip of three lists. -/
namespace PySem
open Sem (wp)
theorem t3_call (a b c : Value) : checkTypeCall "zip" ⟨[a, b, c], []⟩ = pure () := by kernel_rfl
theorem t3_new (a b c : Value) : checkBuiltinCall "zip.__new__" ⟨[.type "zip", a, b, c], []⟩ = pure () := by kernel_rfl
theorem t3_init (a b c d : Value) : argsOk "object.__init__" ⟨[a, b, c, d], []⟩ := by
  unfold argsOk
  rw [signature?_of (id := "object.__init__") (n := ['_', '_', 't', 'i', 'n', 'i', '_', '_']) (o := ['t', 'c', 'e', 'j', 'b', 'o']) (by kernel_rfl) F.owner_object]
  kernel_rfl
/-- a tuple of three -/
abbrev Tri (h : Heap) (T : Addr) (a b c : Value) : Prop := h.get? T = some { cls := .type "tuple", data := .seq #[a, b, c] }
structure Ap3 (z TI TO i1 i2 i3 : Addr) (l1 l2 l3 : Addr) : Prop where
  nd : [z, TI, TO, i1, i2, i3].Nodup
  l : ∀ b ∈ [l1, l2, l3], b ∉ [z, TI, TO, i1, i2, i3]
section
variable {prog : Program} {w : World} {A : Around} {E : Value → Shared → Prop} {s : Shared}
theorem upd_tri {T : Addr} {a b c x : Value} {k : Nat} {Q : Unit → Shared → Prop} (u0 : Tri s.heap T a b c)
    (h : ∀ h', h'.get? T = some { cls := .type "tuple", data := .seq ((#[a, b, c] : Array Value).setIfInBounds k x) } → Heap.SameBut T s.heap h' → Q () { s with heap := h' }) :
    wpAny (model prog w) A (updateSeq T (·.setIfInBounds k x)) Q E s := by
  refine wpAny_updateSeq u0 rfl (h _ ?_ (Heap.SameBut.update ..))
  rw [Heap.get?_update_self _ u0 rfl]; simp [Obj.mapSeq]
theorem nx3_item {z TI TO i1 i2 i3 l1 l2 l3 : Addr} {k : Nat} {xs ys zs : Array Value} {x y v a b c : Value} {Q : Value → Shared → Prop} (D : Ap3 z TI TO i1 i2 i3 l1 l2 l3)
    (az : IsZip s.heap z TI TO .none) (aI : Tri s.heap TI (.ref i1) (.ref i2) (.ref i3)) (aO : Tri s.heap TO a b c)
    (t1 : s.heap.IsListIter i1 l1 k) (t2 : s.heap.IsListIter i2 l2 k) (t3 : s.heap.IsListIter i3 l3 k) (m1 : s.heap.IsList l1 xs) (m2 : s.heap.IsList l2 ys) (m3 : s.heap.IsList l3 zs) (hx : xs[k]? = some x) (hy : ys[k]? = some y) (hv : zs[k]? = some v)
    (hQ : ∀ h', IsZip h' z TI TO (rawInt s.heap.objs.size) → Tri h' TO x y v → h'.IsListIter i1 l1 (k + 1) → h'.IsListIter i2 l2 (k + 1) → h'.IsListIter i3 l3 (k + 1) → Tri h' s.heap.objs.size x y v → h'.objs.size = s.heap.objs.size + 1 →
      (∀ e o, e ≠ z → e ≠ TO → e ≠ i1 → e ≠ i2 → e ≠ i3 → s.heap.get? e = some o → h'.get? e = some o) → Q (.ref s.heap.objs.size) { s with heap := h' }) :
    wpAny (model prog w) A (Builtin.«zip.__next__» ⟨[.ref z], []⟩) (fun fin s' => ∃ v, fin = .done (.ret v) ∧ Q v s') E s := by
  have nd := D.nd
  simp only [List.nodup_cons, List.mem_cons, List.not_mem_nil, or_false, not_or, List.nodup_nil, and_true] at nd
  obtain ⟨⟨zTI, zTO, z1, z2, z3⟩, ⟨TITO, TI1, TI2, TI3⟩, ⟨TO1, TO2, TO3⟩, ⟨n12, n13⟩, n23, _⟩ := nd
  have lz : ∀ b ∈ [l1, l2, l3], b ≠ z ∧ b ≠ TI ∧ b ≠ TO ∧ b ≠ i1 ∧ b ≠ i2 ∧ b ≠ i3 := fun b hb => by
    have := D.l b hb
    simp only [List.mem_cons, List.not_mem_nil, or_false, not_or] at this
    exact this
  obtain ⟨p1, _, p3, p4, p5, p6⟩ := lz l1 (by simp)
  obtain ⟨q1, _, q3, q4, q5, q6⟩ := lz l2 (by simp)
  obtain ⟨r1, _, r3, r4, r5, r6⟩ := lz l3 (by simp)
  show wpAny _ _ (field (.ref z) 2 >>= _) _ _ _
  refine wpAny_bind (wpAny_field az rfl (x := .bool false) rfl ?_)
  show wpAny _ _ (field (.ref z) 3 >>= _) _ _ _
  refine wpAny_bind (wpAny_field az rfl (x := .ref TI) rfl ?_)
  refine wpAny_bind (wpAny_seqItems aI rfl ?_)
  show wpAny _ _ (Builtin.SmallTypes.ownedTupleIsFree (.ref z) >>= _) _ _ _
  refine wpAny_bind ?_
  unfold Builtin.SmallTypes.ownedTupleIsFree
  refine wpAny_bind (wpAny_field az rfl (x := .none) rfl (wpAny_pure ?_))
  simp only [if_true]
  refine wpAny_bind (wpAny_rule ?_)
  refine wpAny_bind (wpAny_field az rfl (x := .ref TO) rfl ?_)
  refine wpAny_bind (wpAny_setField_rec az (by simp) fun h1 c1 d1 => ?_)
  replace c1 : IsZip h1 z TI TO .ellipsis := c1
  refine wpAny_bind ?_
  simp only [List.zipIdx_cons, List.zipIdx_nil, List.forIn_cons, List.forIn_nil]
  -- the first
  refine wpAny_bind (wpAny_bind (wpAny_onRaise ?_))
  show wpAny _ _ (Builtin.SmallTypes.nextOf (.ref i1) >>= _) _ _ _
  refine wpAny_bind (wpAny_nextOf_list_item (t1.extBut d1.extBut (Ne.symm z1)) (m1.extBut d1.extBut p1) hx fun h2 c2 d2 => wpAny_pure ?_)
  have O2 : Tri h2 TO a b c := d2.extBut _ _ TO1 (d1.extBut _ _ (Ne.symm zTO) aO)
  refine wpAny_bind (wpAny_seqItems O2 rfl ?_)
  refine wpAny_bind (upd_tri O2 fun h3 c3 d3 => ?_)
  replace c3 : Tri h3 TO x b c := c3
  refine wpAny_bind (wpAny_letGo (wpAny_pure ?_))
  have k3 : ∀ e o, e ≠ z → e ≠ TO → e ≠ i1 → s.heap.get? e = some o → h3.get? e = some o := fun e o e1 e2 e3 g => d3.extBut _ _ e2 (d2.extBut _ _ e3 (d1.extBut _ _ e1 g))
  -- the second
  refine wpAny_bind (wpAny_bind (wpAny_onRaise ?_))
  show wpAny _ _ (Builtin.SmallTypes.nextOf (.ref i2) >>= _) _ _ _
  refine wpAny_bind (wpAny_nextOf_list_item (t2.at fun o g => k3 _ o (Ne.symm z2) (Ne.symm TO2) (Ne.symm n12) g) (m2.at fun o g => k3 _ o q1 q3 q4 g) hy fun h4 c4 d4 => wpAny_pure ?_)
  have O4 : Tri h4 TO x b c := d4.extBut _ _ TO2 c3
  refine wpAny_bind (wpAny_seqItems O4 rfl ?_)
  refine wpAny_bind (upd_tri O4 fun h5 c5 d5 => ?_)
  replace c5 : Tri h5 TO x y c := c5
  refine wpAny_bind (wpAny_letGo (wpAny_pure ?_))
  have k5 : ∀ e o, e ≠ z → e ≠ TO → e ≠ i1 → e ≠ i2 → s.heap.get? e = some o → h5.get? e = some o := fun e o e1 e2 e3 e4 g => d5.extBut _ _ e2 (d4.extBut _ _ e4 (k3 e o e1 e2 e3 g))
  -- the third
  refine wpAny_bind (wpAny_bind (wpAny_onRaise ?_))
  show wpAny _ _ (Builtin.SmallTypes.nextOf (.ref i3) >>= _) _ _ _
  refine wpAny_bind (wpAny_nextOf_list_item (t3.at fun o g => k5 _ o (Ne.symm z3) (Ne.symm TO3) (Ne.symm n13) (Ne.symm n23) g) (m3.at fun o g => k5 _ o r1 r3 r4 r5 g) hv fun h6 c6 d6 => wpAny_pure ?_)
  have O6 : Tri h6 TO x y c := d6.extBut _ _ TO3 c5
  refine wpAny_bind (wpAny_seqItems O6 rfl ?_)
  refine wpAny_bind (upd_tri O6 fun h7 c7 d7 => ?_)
  replace c7 : Tri h7 TO x y v := c7
  refine wpAny_bind (wpAny_letGo (wpAny_pure (wpAny_pure ?_)))
  have k7 : ∀ e o, e ≠ z → e ≠ TO → e ≠ i1 → e ≠ i2 → e ≠ i3 → s.heap.get? e = some o → h7.get? e = some o := fun e o e1 e2 e3 e4 e5 g => d7.extBut _ _ e2 (d6.extBut _ _ e5 (k5 e o e1 e2 e3 e4 g))
  refine wpAny_bind (wpAny_seqItems c7 rfl ?_)
  refine wpAny_bind (wpAny_newTuple ?_)
  have sz7 : h7.objs.size = s.heap.objs.size := by rw [d7.1, d6.1, d5.1, d4.1, d3.1, d2.1, d1.1]
  have Z7 : IsZip h7 z TI TO .ellipsis := d7.extBut _ _ zTO (d6.extBut _ _ z3 (d5.extBut _ _ zTO (d4.extBut _ _ z2 (d3.extBut _ _ zTO (d2.extBut _ _ z1 c1)))))
  have I1 : h7.IsListIter i1 l1 (k + 1) := ((((c2.extBut d3.extBut (Ne.symm TO1)).extBut d4.extBut n12).extBut d5.extBut (Ne.symm TO1)).extBut d6.extBut n13).extBut d7.extBut (Ne.symm TO1)
  have I2 : h7.IsListIter i2 l2 (k + 1) := ((c4.extBut d5.extBut (Ne.symm TO2)).extBut d6.extBut n23).extBut d7.extBut (Ne.symm TO2)
  have I3 : h7.IsListIter i3 l3 (k + 1) := c6.extBut d7.extBut (Ne.symm TO3)
  have zlt : z < h7.objs.size := Heap.lt_size Z7
  show wpAny _ _ (Builtin.SmallTypes.ownedTupleHandOut (.ref z) (.ref h7.objs.size) >>= _) _ _ _
  refine wpAny_bind ?_
  unfold Builtin.SmallTypes.ownedTupleHandOut
  have Z8 : IsZip (h7.push { cls := .type "tuple", data := .seq #[x, y, v] }) z TI TO .ellipsis := Heap.get?_push_of_some _ Z7
  refine wpAny_bind (wpAny_setField_rec Z8 (by simp) fun h9 Z9 d9 => ?_)
  replace Z9 : IsZip h9 z TI TO (rawInt h7.objs.size) := Z9
  refine wpAny_setField_rec Z9 (by simp) fun ha Za da => ?_
  replace Za : IsZip ha z TI TO (rawInt h7.objs.size) := Za
  have up : ∀ e o, e ≠ z → h7.get? e = some o → ha.get? e = some o := fun e o e1 g => da.extBut _ _ e1 (d9.extBut _ _ e1 (Heap.get?_push_of_some _ g))
  have Ta : Tri ha h7.objs.size x y v := da.extBut _ _ (Nat.ne_of_gt zlt) (d9.extBut _ _ (Nat.ne_of_gt zlt) (Heap.get?_push_size _ rfl))
  have sa : ha.objs.size = h7.objs.size + 1 := by rw [da.1, d9.1, Heap.size_push]
  rw [sz7] at Za Ta sa
  refine wpAny_pure ⟨_, rfl, ?_⟩
  show Q (.ref h7.objs.size) _
  rw [sz7]
  exact hQ ha Za (up _ _ (Ne.symm zTO) c7) (I1.at fun o g => up _ o (Ne.symm z1) g) (I2.at fun o g => up _ o (Ne.symm z2) g) (I3.at fun o g => up _ o (Ne.symm z3) g) Ta sa fun e o e1 e2 e3 e4 e5 g => up e o e1 (k7 e o e1 e2 e3 e4 e5 g)
theorem nx3_end {z TI TO i1 i2 i3 l1 l2 l3 : Addr} {k : Nat} {xs : Array Value} {a b c : Value} {Q : Fin → Shared → Prop} (hh : A.handled = none) (D : Ap3 z TI TO i1 i2 i3 l1 l2 l3)
    (az : IsZip s.heap z TI TO .none) (aI : Tri s.heap TI (.ref i1) (.ref i2) (.ref i3)) (aO : Tri s.heap TO a b c)
    (t1 : s.heap.IsListIter i1 l1 k) (m1 : s.heap.IsList l1 xs) (hx : xs[k]? = none)
    (hE : ∀ h' e, (∀ c o, c ≠ z → c ≠ i1 → s.heap.get? c = some o → h'.get? c = some o) → (∃ o, h'.get? e = some o ∧ o.cls = .type "StopIteration") → E (.ref e) { s with heap := h' }) :
    wpAny (model prog w) A (Builtin.«zip.__next__» ⟨[.ref z], []⟩) Q E s := by
  have nd := D.nd
  simp only [List.nodup_cons, List.mem_cons, List.not_mem_nil, or_false, not_or, List.nodup_nil, and_true] at nd
  obtain ⟨⟨zTI, zTO, z1, z2, z3⟩, _⟩ := nd
  have p1 : l1 ≠ z := fun e => D.l l1 (by simp) (by rw [e]; simp)
  show wpAny _ _ (field (.ref z) 2 >>= _) _ _ _
  refine wpAny_bind (wpAny_field az rfl (x := .bool false) rfl ?_)
  show wpAny _ _ (field (.ref z) 3 >>= _) _ _ _
  refine wpAny_bind (wpAny_field az rfl (x := .ref TI) rfl ?_)
  refine wpAny_bind (wpAny_seqItems aI rfl ?_)
  show wpAny _ _ (Builtin.SmallTypes.ownedTupleIsFree (.ref z) >>= _) _ _ _
  refine wpAny_bind ?_
  unfold Builtin.SmallTypes.ownedTupleIsFree
  refine wpAny_bind (wpAny_field az rfl (x := .none) rfl (wpAny_pure ?_))
  simp only [if_true]
  refine wpAny_bind (wpAny_rule ?_)
  refine wpAny_bind (wpAny_field az rfl (x := .ref TO) rfl ?_)
  refine wpAny_bind (wpAny_setField_rec az (by simp) fun h1 c1 d1 => ?_)
  replace c1 : IsZip h1 z TI TO .ellipsis := c1
  refine wpAny_bind ?_
  simp only [List.zipIdx_cons, List.zipIdx_nil, List.forIn_cons, List.forIn_nil]
  refine wpAny_bind (wpAny_bind (wpAny_onRaise ?_))
  show wpAny _ _ (Builtin.SmallTypes.nextOf (.ref i1) >>= _) _ _ _
  refine wpAny_bind (wpAny_nextOf_list_end hh (t1.extBut d1.extBut (Ne.symm z1)) (m1.extBut d1.extBut p1) hx fun h2 e d2 he => ?_)
  obtain ⟨oe, ge, ce⟩ := he
  have Z2 : IsZip h2 z TI TO .ellipsis := d2 _ _ z1 c1
  have ez : e ≠ z := fun y => by
    subst y
    rw [Z2] at ge
    cases ge
    simp at ce
  exact wpAny_setField_rec Z2 (by simp) fun h3 _ d3 => hE h3 e (fun f o f1 f2 g => d3.extBut _ _ f1 (d2 _ _ f2 (d1.extBut _ _ f1 g))) ⟨oe, d3.extBut _ _ ez ge, ce⟩
end
abbrev y1 (h : Heap) (l1 : Addr) : Heap := h.push { cls := .type "list_iterator", data := .fields #[.ref l1, .int 0 0] }
abbrev y2 (h : Heap) (l1 l2 : Addr) : Heap := (y1 h l1).push { cls := .type "list_iterator", data := .fields #[.ref l2, .int 0 0] }
abbrev y3 (h : Heap) (l1 l2 l3 : Addr) : Heap := (y2 h l1 l2).push { cls := .type "list_iterator", data := .fields #[.ref l3, .int 0 0] }
abbrev y4 (h : Heap) (l1 l2 l3 : Addr) : Heap := (y3 h l1 l2 l3).push { cls := .type "tuple", data := .seq #[.ref h.objs.size, .ref (y1 h l1).objs.size, .ref (y2 h l1 l2).objs.size] }
abbrev y5 (h : Heap) (l1 l2 l3 : Addr) : Heap := (y4 h l1 l2 l3).push { cls := .type "tuple", data := .seq #[.none, .none, .none] }
abbrev y6 (h : Heap) (l1 l2 l3 : Addr) : Heap := (y5 h l1 l2 l3).push { cls := .type "zip", data := .fields #[.none, .bool false, .bool false, .ref (y3 h l1 l2 l3).objs.size, .ref (y4 h l1 l2 l3).objs.size] }
theorem meets_zip3 (l1 l2 l3 : Addr) (xs ys zs : Array Value) :
    Meets (Builtin.«zip.__new__» ⟨[.type "zip", .ref l1, .ref l2, .ref l3], []⟩) (fun _ R s => s.heap.IsList l1 xs ∧ s.heap.IsList l2 ys ∧ s.heap.IsList l3 zs ∧
      R (.ok (.ret (.ref (y5 s.heap l1 l2 l3).objs.size))) { s with heap := y6 s.heap l1 l2 l3 }) :=
  .of_wp fun prog w A R s h => by
    obtain ⟨hp, g, d, tk, os⟩ := s; obtain ⟨m1, m2, m3, h⟩ := h
    have hsub := sub_zip
    have L1 : Heap.IsList (Shared.heap ⟨hp, g, d, tk, os⟩) l1 xs := m1
    have L2 : Heap.IsList (Shared.heap ⟨hp.push { cls := .type "list_iterator", data := .fields #[.ref l1, .int 0 0] }, g, d, tk, os⟩) l2 ys := Heap.IsList.push m2 _
    have L3 : Heap.IsList (Shared.heap ⟨(hp.push { cls := .type "list_iterator", data := .fields #[.ref l1, .int 0 0] }).push { cls := .type "list_iterator", data := .fields #[.ref l2, .int 0 0] }, g, d, tk, os⟩) l3 zs := Heap.IsList.push (Heap.IsList.push m3 _) _
    wp_walk using wpAny_pyIter_list L1, wpAny_pyIter_list L2, wpAny_pyIter_list L3
    exact ⟨_, rfl, h⟩
end PySem
end
section
set_option Elab.async false
set_option linter.all false
set_option maxRecDepth 100000
set_option maxHeartbeats 4000000
namespace PySem
section
variable {prog : Program} {w : World} {A : Around} {E : Value → Shared → Prop} {s : Shared}
theorem call_zip3 {l1 l2 l3 : Addr} {xs ys zs : Array Value} {Q : Value → Shared → Prop} (m1 : s.heap.IsList l1 xs) (m2 : s.heap.IsList l2 ys) (m3 : s.heap.IsList l3 zs)
    (h : ∀ h', IsZip h' (s.heap.objs.size + 5) (s.heap.objs.size + 3) (s.heap.objs.size + 4) .none → Tri h' (s.heap.objs.size + 3) (.ref s.heap.objs.size) (.ref (s.heap.objs.size + 1)) (.ref (s.heap.objs.size + 2)) →
      Tri h' (s.heap.objs.size + 4) .none .none .none → h'.IsListIter s.heap.objs.size l1 0 → h'.IsListIter (s.heap.objs.size + 1) l2 0 → h'.IsListIter (s.heap.objs.size + 2) l3 0 →
      (∀ c o, s.heap.get? c = some o → h'.get? c = some o) → Q (.ref (s.heap.objs.size + 5)) { s with heap := h' }) :
    wpAny (model prog w) A (call (.type "zip") [.ref l1, .ref l2, .ref l3]) Q E s := by
  refine callType_new F.called_zip (by decide) (t3_call _ _ _) (t3_new _ _ _) (fun obj => t3_init obj _ _ _) F.entry_zip_new
    (meets_zip3 l1 l2 l3 xs ys zs) ⟨m1, m2, m3, ?_⟩
  have a1 : (y1 s.heap l1).objs.size = s.heap.objs.size + 1 := Heap.size_push ..
  have a2 : (y2 s.heap l1 l2).objs.size = s.heap.objs.size + 2 := by rw [Heap.size_push, a1]
  have a3 : (y3 s.heap l1 l2 l3).objs.size = s.heap.objs.size + 3 := by rw [Heap.size_push, a2]
  have a4 : (y4 s.heap l1 l2 l3).objs.size = s.heap.objs.size + 4 := by rw [Heap.size_push, a3]
  have a5 : (y5 s.heap l1 l2 l3).objs.size = s.heap.objs.size + 5 := by rw [Heap.size_push, a4]
  have g6 : (y6 s.heap l1 l2 l3).get? (y5 s.heap l1 l2 l3).objs.size = some _ := Heap.get?_push_size _ rfl
  have g5 : (y6 s.heap l1 l2 l3).get? (y4 s.heap l1 l2 l3).objs.size = some _ := Heap.get?_push_of_some _ (Heap.get?_push_size _ rfl)
  have g4 : (y6 s.heap l1 l2 l3).get? (y3 s.heap l1 l2 l3).objs.size = some _ := Heap.get?_push_of_some _ (Heap.get?_push_of_some _ (Heap.get?_push_size _ rfl))
  have g3 : (y6 s.heap l1 l2 l3).get? (y2 s.heap l1 l2).objs.size = some _ := Heap.get?_push_of_some _ (Heap.get?_push_of_some _ (Heap.get?_push_of_some _ (Heap.get?_push_size _ rfl)))
  have g2 : (y6 s.heap l1 l2 l3).get? (y1 s.heap l1).objs.size = some _ := Heap.get?_push_of_some _ (Heap.get?_push_of_some _ (Heap.get?_push_of_some _ (Heap.get?_push_of_some _ (Heap.get?_push_size _ rfl))))
  have g1 : (y6 s.heap l1 l2 l3).get? s.heap.objs.size = some _ := Heap.get?_push_of_some _ (Heap.get?_push_of_some _ (Heap.get?_push_of_some _ (Heap.get?_push_of_some _ (Heap.get?_push_of_some _ (Heap.get?_push_size _ rfl)))))
  show _ ∧ _
  rw [a3, a4, a5] at g6
  rw [a1, a2, a3] at g4
  rw [a4] at g5
  rw [a2] at g3
  rw [a1] at g2
  rw [a5]
  exact ⟨⟨_, g6, rfl⟩, h _ g6 g4 g5 ⟨_, g1, rfl, rfl⟩ ⟨_, g2, rfl, rfl⟩ ⟨_, g3, rfl, rfl⟩ fun c o x =>
    Heap.get?_push_of_some _ (Heap.get?_push_of_some _ (Heap.get?_push_of_some _ (Heap.get?_push_of_some _ (Heap.get?_push_of_some _ (Heap.get?_push_of_some _ x)))))⟩
theorem pn3_item {z TI TO i1 i2 i3 l1 l2 l3 : Addr} {k : Nat} {xs ys zs : Array Value} {x y v a b c : Value} {Q : Option Value → Shared → Prop} (D : Ap3 z TI TO i1 i2 i3 l1 l2 l3)
    (az : IsZip s.heap z TI TO .none) (aI : Tri s.heap TI (.ref i1) (.ref i2) (.ref i3)) (aO : Tri s.heap TO a b c)
    (t1 : s.heap.IsListIter i1 l1 k) (t2 : s.heap.IsListIter i2 l2 k) (t3 : s.heap.IsListIter i3 l3 k) (m1 : s.heap.IsList l1 xs) (m2 : s.heap.IsList l2 ys) (m3 : s.heap.IsList l3 zs) (hx : xs[k]? = some x) (hy : ys[k]? = some y) (hv : zs[k]? = some v)
    (hQ : ∀ h', IsZip h' z TI TO (rawInt s.heap.objs.size) → Tri h' TO x y v → h'.IsListIter i1 l1 (k + 1) → h'.IsListIter i2 l2 (k + 1) → h'.IsListIter i3 l3 (k + 1) → Tri h' s.heap.objs.size x y v → h'.objs.size = s.heap.objs.size + 1 →
      (∀ e o, e ≠ z → e ≠ TO → e ≠ i1 → e ≠ i2 → e ≠ i3 → s.heap.get? e = some o → h'.get? e = some o) → Q (some (.ref s.heap.objs.size)) { s with heap := h' }) :
    wpAny (model prog w) A (pyNext (.ref z)) Q E s := by
  have ty : s.TypeIs (.ref z) "zip" := ⟨_, az, rfl⟩
  unfold pyNext
  exact wpAny_bind (wpAny_attempt (wpAny_callSpecial?_slot (name := Str.ofString "__next__") ty F.slot_zip_next
    (wpAny_call_entry F.slot_zip_next ty F.entry_zip_next (nx3_item D az aI aO t1 t2 t3 m1 m2 m3 hx hy hv fun h' b1 b2 b3 b4 b5 b6 b7 b8 => wpAny_pure (hQ h' b1 b2 b3 b4 b5 b6 b7 b8)) (F.args_zip_next_1 _))))
theorem pn3_end {z TI TO i1 i2 i3 l1 l2 l3 : Addr} {k : Nat} {xs : Array Value} {a b c : Value} {Q : Option Value → Shared → Prop} (hh : A.handled = none) (D : Ap3 z TI TO i1 i2 i3 l1 l2 l3)
    (az : IsZip s.heap z TI TO .none) (aI : Tri s.heap TI (.ref i1) (.ref i2) (.ref i3)) (aO : Tri s.heap TO a b c)
    (t1 : s.heap.IsListIter i1 l1 k) (m1 : s.heap.IsList l1 xs) (hx : xs[k]? = none)
    (hQ : ∀ h', (∀ c o, c ≠ z → c ≠ i1 → s.heap.get? c = some o → h'.get? c = some o) → Q none { s with heap := h' }) : wpAny (model prog w) A (pyNext (.ref z)) Q E s := by
  have ty : s.TypeIs (.ref z) "zip" := ⟨_, az, rfl⟩
  unfold pyNext
  refine wpAny_bind (wpAny_attempt (wpAny_callSpecial?_slot (name := Str.ofString "__next__") ty F.slot_zip_next
    (wpAny_call_entry F.slot_zip_next ty F.entry_zip_next (nx3_end hh D az aI aO t1 m1 hx fun h' e hk he => ?_) (F.args_zip_next_1 _))))
  obtain ⟨o, go, co⟩ := he
  exact wpAny_bind (wpAny_isInstance (T := "StopIteration") (b := true) ⟨o, go, co⟩ isSubtype_stop (wpAny_pure (hQ _ hk)))
end
end PySem
namespace Vf
open PySem PySem.Spec PyProof.Rows L2 GxR GenW RZ
/-- three lists as they stand at each turn, the items in new triples -/
def Itz3 (K : PySem.W.Frag) (a b c : Addr) : It :=
  ⟨fun i H => ∃ (xs ys zs : List V) (x y z : V), SqL K H a xs ∧ SqL K H b ys ∧ SqL K H c zs ∧ xs[i]? = some x ∧ ys[i]? = some y ∧ zs[i]? = some z,
    fun i H v H' => ∃ T x y z, v = .ref T ∧ H T = none ∧ H' = upd H T (.tup [x, y, z]) ∧ (∀ xs, SqL K H a xs → xs[i]? = some x) ∧ (∀ ys, SqL K H b ys → ys[i]? = some y) ∧ ∀ zs, SqL K H c zs → zs[i]? = some z,
    fun i H => ∃ xs : List V, SqL K H a xs ∧ xs.length ≤ i⟩
theorem in6 {c z TI TO i1 i2 i3 : Addr} (h : c ∈ [z, TI, TO, i1, i2, i3]) : c = z ∨ c = TI ∨ c = TO ∨ c = i1 ∨ c = i2 ∨ c = i3 := by simpa using h
theorem turn_z3 {P : Program} {w : World} {K : PySem.W.Frag} {elts : List Expr} {kk : Nat} {tpos : Pos} {a b c z TI TO i1 i2 i3 : Addr} (D : Ap3 z TI TO i1 i2 i3 a b c) :
    Turn P w K (.Tuple elts kk tpos) (Itz3 K a b c) [z, TI, TO, i1, i2, i3] z (fun i h => IsZip h z TI TO .none ∧ Tri h TI (.ref i1) (.ref i2) (.ref i3) ∧ (∃ x y v, Tri h TO x y v) ∧ h.IsListIter i1 a i ∧ h.IsListIter i2 b i ∧ h.IsListIter i3 c i) where
  mem := by simp
  obj := fun i h st e he => by
    obtain ⟨az, aI, ⟨x, y, v, aO⟩, ⟨o1, e1, _, d1⟩, ⟨o2, e2, _, d2⟩, ⟨o3, e3, _, d3⟩⟩ := st
    rcases in6 he with rfl | rfl | rfl | rfl | rfl | rfl
    · exact ⟨_, az, fun v q => nomatch q⟩
    · exact ⟨_, aI, fun v q => nomatch q⟩
    · exact ⟨_, aO, fun v q => nomatch q⟩
    · exact ⟨o1, e1, fun v q => by rw [d1] at q; cases q⟩
    · exact ⟨o2, e2, fun v q => by rw [d2] at q; cases q⟩
    · exact ⟨o3, e3, fun v q => by rw [d3] at q; cases q⟩
  keep := fun i h h' st k => by
    obtain ⟨az, aI, ⟨x, y, v, aO⟩, t1, t2, t3⟩ := st
    exact ⟨k z (by simp) _ az, k TI (by simp) _ aI, ⟨x, y, v, k TO (by simp) _ aO⟩, t1.at fun o q => k i1 (by simp) o q, t2.at fun o q => k i2 (by simp) o q, t3.at fun o q => k i3 (by simp) o q⟩
  item := by
    intro X hP hw hK hc i pins s σ H E I hf st hg
    subst hP hw hK
    obtain ⟨az, aI, ⟨x0, y0, v0, aO⟩, t1, t2, t3⟩ := st
    obtain ⟨xs, ys, zs, x, y, v, qx, qy, qv, hx, hy, hv⟩ := hg
    obtain ⟨u1, r1, p1, _⟩ := I.list qx
    obtain ⟨u2, r2, p2, _⟩ := I.list qy
    obtain ⟨u3, r3, p3, _⟩ := I.list qv
    obtain ⟨w1, f1, g1⟩ := r1.get hx
    obtain ⟨w2, f2, g2⟩ := r2.get hy
    obtain ⟨w3, f3, g3⟩ := r3.get hv
    have zl : z < s.heap.objs.size := Heap.lt_size az
    have nd := D.nd
    simp only [List.nodup_cons, List.mem_cons, List.not_mem_nil, or_false, not_or, List.nodup_nil, and_true] at nd
    obtain ⟨⟨zTI, zTO, z1, z2, z3⟩, ⟨TITO, TI1, TI2, TI3⟩, _⟩ := nd
    refine pn3_item D az aI aO t1 t2 t3 p1.isList p2.isList p3.isList (x := w1) (y := w2) (v := w3) (by simpa using f1) (by simpa using f2) (by simpa using f3) fun h' z' TO' t1' t2' t3' hT hsz hk => ?_
    refine ⟨_, rfl, wpAny_letOwnedTupleGo_zip (s := { s with heap := h' }) z' fun h'' z'' sb => ?_⟩
    have T2 : h''.get? s.heap.objs.size = some { cls := .type "tuple", data := .seq #[w1, w2, w3] } := (sb.2 _ (Nat.ne_of_gt zl)).trans hT
    have new : ObjOk X.prog X.w (upd H s.heap.objs.size (.tup [x, y, v])) h'' s.heap.objs.size (.tup [x, y, v]) :=
      ⟨by show 3 ≤ sizeLine; decide, [w1, w2, w3], .cons g1 (.cons g2 (.cons g3 .nil)), ⟨_, T2, rfl, _, rfl⟩⟩
    have I1 : Inv X pins σ (upd H s.heap.objs.size (.tup [x, y, v])) { s with heap := h'' } :=
      I.turnedNew (t' := s.toks) (ch := [z, TI, TO, i1, i2, i3]) (fun e o hb q => (sb.2 e (fun q' => hb (by simp [q']))).trans (hk e o (fun q' => hb (by simp [q'])) (fun q' => hb (by simp [q'])) (fun q' => hb (by simp [q'])) (fun q' => hb (by simp [q'])) (fun q' => hb (by simp [q'])) q)) hf (Nat.le_refl _) new
    refine ⟨.ref s.heap.objs.size, _, I1, rfl, ⟨_, x, y, v, rfl, I.hok.fresh (Nat.le_refl _), rfl, fun l hl => by rw [I.list_inj hl qx]; exact hx, fun l hl => by rw [I.list_inj hl qy]; exact hy, fun l hl => by rw [I.list_inj hl qv]; exact hv⟩, ⟨z'', ?_, ⟨w1, w2, w3, ?_⟩, ?_, ?_, ?_⟩, fun e hem => ?_⟩
    · exact (sb.2 _ (Ne.symm zTI)).trans (hk _ _ (Ne.symm zTI) TITO TI1 TI2 TI3 aI)
    · exact (sb.2 _ (Ne.symm zTO)).trans TO'
    · exact t1'.at fun o q => (sb.2 _ (Ne.symm z1)).trans q
    · exact t2'.at fun o q => (sb.2 _ (Ne.symm z2)).trans q
    · exact t3'.at fun o q => (sb.2 _ (Ne.symm z3)).trans q
    · have hlt : e < s.heap.objs.size := by
        rcases in6 hem with rfl | rfl | rfl | rfl | rfl | rfl
        · exact zl
        · exact Heap.lt_size aI
        · exact Heap.lt_size aO
        · obtain ⟨_, e1, _⟩ := t1; exact Heap.lt_size e1
        · obtain ⟨_, e2, _⟩ := t2; exact Heap.lt_size e2
        · obtain ⟨_, e3, _⟩ := t3; exact Heap.lt_size e3
      rw [upd_ne (Nat.ne_of_lt hlt)]
      exact (hf e hem).1
  done := by
    intro X hP hw hK hc i pins s σ H E I hf st hg
    subst hP hw hK
    obtain ⟨az, aI, ⟨x0, y0, v0, aO⟩, t1, t2, t3⟩ := st
    obtain ⟨xs, qx, hend⟩ := hg
    obtain ⟨u1, r1, p1, _⟩ := I.list qx
    have l1 := r1.length
    have he : u1.toArray[i]? = none := by simp; omega
    exact pn3_end (I.ok.hd hc) D az aI aO t1 p1.isList he fun h' hk => ⟨rfl, I.turnedL (t' := s.toks) (ch := [z, TI, TO, i1, i2, i3]) (fun e o hb q =>
      hk e o (fun q' => hb (by simp [q'])) (fun q' => hb (by simp [q'])) q) hf⟩
  self := fun A i s Q E st h => wpAny_pyIter_zip st.1 h
theorem nd6 (n : Nat) : ([n + 5, n + 3, n + 4, n, n + 1, n + 2] : List Nat).Nodup := by
  have q : List.Pairwise (fun a b : Nat => a ≠ b) [5, 3, 4, 0, 1, 2] := by decide
  exact List.Pairwise.map (fun i => n + i) (fun a b h e => h (Nat.add_left_cancel e)) q
theorem le6 {n e : Nat} (h : e ∈ ([n + 5, n + 3, n + 4, n, n + 1, n + 2] : List Nat)) : n ≤ e := by
  rcases List.mem_cons.mp h with rfl | h
  · exact Nat.le_add_right _ _
  rcases List.mem_cons.mp h with rfl | h
  · exact Nat.le_add_right _ _
  rcases List.mem_cons.mp h with rfl | h
  · exact Nat.le_add_right _ _
  rcases List.mem_cons.mp h with rfl | h
  · exact Nat.le_refl _
  rcases List.mem_cons.mp h with rfl | h
  · exact Nat.le_add_right _ _
  rw [List.mem_singleton.mp h]
  exact Nat.le_add_right _ _
theorem nin6 {n e : Nat} (h : e < n) : e ∉ ([n + 5, n + 3, n + 4, n, n + 1, n + 2] : List Nat) := fun z => absurd (le6 z) (Nat.not_le.mpr h)
structure iZip3 (K : PySem.W.Frag) (vs : List V) (H : Hp) (R : It → Hp → Prop) : Prop where
  h : ∃ a b c xs ys zs, vs = [.ref a, .ref b, .ref c] ∧ SqL K H a xs ∧ SqL K H b ys ∧ SqL K H c zs ∧ R (Itz3 K a b c) H
theorem k_zip3 {X : Cx} {K : PySem.W.Frag} {e e2 e3 : Expr} {ta : TA} {p pos tpos : Pos} {elts : List Expr} {kk : Nat} (hK : X.K = K) (hg : Gl X "zip") (hm : X.mg "zip" = none) (ha : PA X [e, e2, e3] ta)
    (hs : starEach [e, e2, e3] X.env = (false, eval e X.env) :: starEach [e2, e3] X.env := by rfl) (hpl : (backTo pos (starEach [e2, e3] X.env)).any (·.1) = false := by rfl) :
    PI X (.Tuple elts kk tpos) (.Call (.Name "zip" p) [e, e2, e3] [] pos) (fun σ H R => ta σ H fun vs H1 => iZip3 K vs H1 R) := by
  subst hK
  refine ⟨fun pins s σ H R I h => ?_⟩
  refine Call_ (ld_blt I hg hm PyProof.Rows.boot_zip (PyProof.Rows.callWith_type1 (thn (ha.run pos pins s σ H _ I h) fun us s1 ⟨vs, H1, I1, r1, q1⟩ => ?_) hs hpl))
  obtain ⟨a, b, c, xs, ys, zs, ex, qx, qy, qz, q⟩ := q1.h
  subst ex
  cases r1 with
  | cons ra rr => cases rr with
    | cons rb rr => cases rr with
      | cons rc rr =>
        cases rr
        cases ra
        cases rb
        cases rc
        obtain ⟨u1, r1, p1, _⟩ := I1.list qx
        obtain ⟨u2, r2, p2, _⟩ := I1.list qy
        obtain ⟨u3, r3, p3, _⟩ := I1.list qz
        have la : a < s1.heap.objs.size := p1.lt
        have lb : b < s1.heap.objs.size := p2.lt
        have lc : c < s1.heap.objs.size := p3.lt
        refine call_zip3 p1.isList p2.isList p3.isList fun h' az aI aO t1 t2 t3 hk => wpAny_pyIter_zip az ?_
        have I2 : Inv X pins σ H1 { s1 with heap := h' } := I1.kept (t' := s1.toks) hk
        generalize hn : s1.heap.objs.size = n at *
        have ap : Ap3 (n + 5) (n + 3) (n + 4) n (n + 1) (n + 2) a b c := by
          refine ⟨nd6 n, fun e he => nin6 ?_⟩
          rcases List.mem_cons.mp he with rfl | he
          · exact la
          rcases List.mem_cons.mp he with rfl | he
          · exact lb
          rw [List.mem_singleton.mp he]
          exact lc
        refine ⟨n + 5, [n + 5, n + 3, n + 4, n, n + 1, n + 2], _, _, H1, rfl, I2, turn_z3 ap, ⟨az, aI, ⟨_, _, _, aO⟩, t1, t2, t3⟩, fun e hem => ?_, q⟩
        have hle : n ≤ e := le6 hem
        have hle' : s1.heap.objs.size ≤ e := by rw [hn]; exact hle
        exact I1.fpOk hle' (I1.hok.fresh hle')
/-- a walk over three lists of one length -/
theorem for_z3 {K : PySem.W.Frag} {a b c : Addr} {xs ys zs : List V} {g : TG} {tb : TS} {D : Ends} {σ : L2.St} {H : Hp} (hy : ys.length = xs.length) (hz : zs.length = xs.length) (Pv : Nat → L2.St → Hp → Prop) (h0 : Pv 0 σ H)
    (hq : ∀ i σ H, Pv i σ H → SqL K H a xs ∧ SqL K H b ys ∧ SqL K H c zs)
    (hs : ∀ i x y z T σ H, xs[i]? = some x → ys[i]? = some y → zs[i]? = some z → Pv i σ H → H T = none → g (.ref T) σ (upd H T (.tup [x, y, z])) fun σ2 H2 => tb { D with nx := Pv (i + 1), ct := Pv (i + 1), bk := D.nx } σ2 H2) (hd : ∀ σ H, Pv xs.length σ H → D.nx σ H) :
    ∃ W : Nat → Nat → L2.St → Hp → Prop, (∃ m, W 0 m σ H) ∧ ∀ i m σ H, W i m σ H →
      ((Itz3 K a b c).stop i H ∧ D.nx σ H) ∨ ((Itz3 K a b c).go i H ∧ ∃ N : L2.St → Hp → Prop, (∀ σ' H', N σ' H' → ∃ m', m' < m ∧ W (i + 1) m' σ' H') ∧ ∀ x H', (Itz3 K a b c).yld i H x H' → g x σ H' fun σ2 H2 => tb { D with nx := N, ct := N, bk := D.nx } σ2 H2) := by
  refine ⟨fun i m σ H => i + m = xs.length ∧ Pv i σ H, ⟨xs.length, Nat.zero_add _, h0⟩, fun i m σ H ⟨hm, p⟩ => ?_⟩
  obtain ⟨q1, q2, q3⟩ := hq i σ H p
  cases m with
  | zero =>
    obtain rfl : i = xs.length := by omega
    exact Or.inl ⟨⟨xs, q1, Nat.le_refl _⟩, hd σ H p⟩
  | succ m =>
    have hi : i < xs.length := by omega
    have ex := List.getElem?_eq_getElem hi
    have ey := List.getElem?_eq_getElem (show i < ys.length by omega)
    have ez := List.getElem?_eq_getElem (show i < zs.length by omega)
    refine Or.inr ⟨⟨xs, ys, zs, _, _, _, q1, q2, q3, ex, ey, ez⟩, Pv (i + 1), fun σ' H' p' => ⟨m, Nat.lt_succ_self _, by omega, p'⟩, ?_⟩
    rintro _ H' ⟨T, x, y, z, rfl, hT, rfl, f1, f2, f3⟩
    exact hs i x y z T σ H (f1 xs q1) (f2 ys q2) (f3 zs q3) p hT
end Vf
end
section
set_option Elab.async false
set_option linter.all false
set_option maxRecDepth 100000
set_option maxHeartbeats 4000000
/-! Own layer: a call of a local name that holds one of several defs which may let exceptions out. -/
namespace Vf
open PySem PySem.Spec PyProof.Rows L2 GxR GenW RZ
/-- a def at an address, by its promise -/
structure HeldX (P : Program) (w : World) (K : PySem.W.Frag) (mg : Str → Option Value) (base : Heap) (f : Addr) (j : Nat) (sp : Sp) : Prop where
  ex : ∃ (k : Nat) (fd : FuncData) (ps : List Str), k ≤ j ∧ FnOk P w K mg base (L2.CX P w) k f fd ps sp ∧ PySem.W.keepIn K (.ref f) = true ∧ Binds K fd ps []
theorem Dx.held {P : Program} {w : World} {K : PySem.W.Frag} {mg : Str → Option Value} {base : Heap} {x : Str} {k j : Nat} {ps : List Str} {sp : Sp} {f : Addr} (D : Dx P w K mg base x k ps sp) (h : k ≤ j) (m : mg x = some (.ref f)) : HeldX P w K mg base f j sp := by
  obtain ⟨g, fd, F, hm, hk, hb⟩ := D.ex
  rw [m] at hm
  cases hm
  exact ⟨k, fd, ps, h, F, hk, hb⟩
def tCallV (P : Program) (w : World) (K : PySem.W.Frag) (mg : Str → Option Value) (base : Heap) (j i : Nat) (E : XK) (t : TA) : L2.TE := fun σ H Q => ∃ f sp, σ[i]? = some (some (.ref f)) ∧ HeldX P w K mg base f j sp ∧ t σ H fun vs H1 => sp vs H1 Q E
section
variable {X : Cx} {E : XK} {i j : Nat} {x : Str} {p pos : Pos} {e : Expr} {es : List Expr} {t : TA}
/-- x(e, .., *y), x a local name that holds such a def -/
theorem pe_callV (tk : Takes X fun c d _ H => E c d H) (hr : Room j X.A) (hN : X.N[i]? = some x) (hv : Vis X.env.scope x) (ha : PA X (e :: es) t)
    (hdb : (x == ("__debug__" : Str)) = false := by decide) (hcd : (x == ("__classdict__" : Str)) = false := by decide)
    (he : starEach (e :: es) X.env = (false, eval e X.env) :: starEach es X.env := by rfl) (hst : (backTo pos (starEach es X.env)).any (·.1) = true := by rfl) : PE X (.Call (.Name x p) (e :: es) [] pos) (tCallV X.prog X.w X.K X.mg X.base j i E t) := by
  refine ⟨fun pins s σ H Q I h => ?_⟩
  obtain ⟨f, sp, hs, hS, ht⟩ := h
  obtain ⟨k, fd, ps, kj, F, hk, hb⟩ := hS.ex
  refine wpAny_Call_Name_kw (thn ((pe_var (pos := p) hN hv hdb hcd).run pins s σ H (fun v H1 => v = .ref f ∧ H1 = H) I ⟨.ref f, hs, rfl, rfl⟩) fun u s1 ⟨v, H1, I1, r1, q1⟩ => ?_)
  obtain ⟨rfl, rfl⟩ := q1
  cases r1
  refine PySem.W.callWith_S2 (h₀ := X.base) I.ok.mod.kin hk (thn (ha.run pos pins s1 σ _ _ I1 ht) fun us s2 ⟨vs, H2, I2, r, q⟩ => ⟨I2.kIn, ?_⟩) he hst
  refine run_fn (ds := []) F (hr.mono kj) hb (.nil : Vals [] []) (passes_call tk fun _ _ _ _ h => h) I2 r ?_
  rw [List.append_nil]
  exact q
end
end Vf
end
section
set_option Elab.async false
set_option linter.all false
set_option maxRecDepth 100000
set_option maxHeartbeats 4000000
/-! Own layer: list + list, where they are known only as data. -/
namespace Vf
open PySem PySem.Spec PyProof.Rows L2 GxR GenW RZ
section
variable {X : Cx}
def rCatQ (K : PySem.W.Frag) : V → V → Hp → VK → Prop := fun x y H Q => ∃ l b xs zs, x = .ref l ∧ y = .ref b ∧ SqL K H l xs ∧ SqL K H b zs ∧ xs.length + zs.length ≤ sizeLine ∧ ∀ p, H p = none → Q (.ref p) (upd H p (.lst (xs ++ zs)))
theorem op_catQ : OpR X (binaryOp .Add) (rCatQ X.K) := by
  intro pins s σ H x y v u Q I rx ry h
  obtain ⟨l, b, xs, zs, rfl, rfl, hH, hB, hz, q⟩ := h
  cases rx
  cases ry
  obtain ⟨its, r, ⟨⟨c1, d1, dt1, s1⟩, n, ho, hc, hd0, hd⟩, hz1⟩ := I.list hH
  obtain ⟨its2, r2, ⟨⟨c2, d2, dt2, s2⟩, n2, ho2, hc2, hd02, hd2⟩, hz2⟩ := I.list hB
  dsimp only at hc hd hc2 hd2
  subst hc hd hc2 hd2
  have hl := r.length
  have hl2 := r2.length
  have ea : its.toArray ++ its2.toArray = (its ++ its2).toArray := by simp
  refine concat_meets ⟨_, ho, rfl⟩ ⟨_, ho2, rfl⟩ noFill_list_add seq_list_add PySem.F.slot_list_add PySem.F.entry_list_add (PySem.F.args_list_add_2 _ _) (list_addW l b its.toArray its2.toArray n n2 d1 d2 s1 s2 (by rw [List.size_toArray, List.size_toArray]; omega)) ⟨ho, ho2, ?_⟩
  rw [ea]
  exact ⟨.ref _, _, I.lnew (t' := s.toks) (r.append r2) (by rw [List.length_append]; omega), rfl, q _ I.fresh⟩
structure rAddQ (K : PySem.W.Frag) (x y : V) (H : Hp) (Q : VK) : Prop where
  h : rAdd K x y H Q ∨ rCatQ K x y H Q
theorem u_addQ {K : PySem.W.Frag} (hK : X.K = K) : OpR X (binaryOp .Add) (rAddQ K) := by
  subst hK
  exact fun pins s σ H x y v u Q I rx ry h => (OpR.or (u_add rfl) op_catQ) pins s σ H x y v u Q I rx ry h.h
end
theorem aq {K : PySem.W.Frag} {x y : V} {H : Hp} {Q : VK} (h : rAdd K x y H Q) : rAddQ K x y H Q := ⟨.inl h⟩
theorem a_qq {K : PySem.W.Frag} {H : Hp} {Q : VK} {l b : Addr} {xs zs : List V} (h1 : SqL K H l xs) (h2 : SqL K H b zs) (h : xs.length + zs.length ≤ sizeLine) (q : ∀ p, H p = none → Q (.ref p) (upd H p (.lst (xs ++ zs)))) : rAddQ K (.ref l) (.ref b) H Q := ⟨.inr ⟨_, _, _, _, rfl, rfl, h1, h2, h, q⟩⟩
end Vf
end
section
set_option Elab.async false
set_option linter.all false
set_option maxRecDepth 100000
set_option maxHeartbeats 4000000
/-! Own layer: binary heaps as arrays under a strict weak order. -/
namespace Hq
/-- x is not above y and so on: a strict weak order -/
structure Swo {α : Type} (lt : α → α → Bool) : Prop where
  asym : ∀ x y, lt x y = true → lt y x = false
  neg : ∀ x y z, lt x y = false → lt y z = false → lt x z = false
section
variable {α : Type} {lt : α → α → Bool}
theorem Swo.irr (O : Swo lt) (x : α) : lt x x = false := by
  cases h : lt x x with
  | false => rfl
  | true => have := O.asym x x h; rw [h] at this; cases this
theorem Swo.below (O : Swo lt) {x y z : α} (h1 : lt y z = true) (h2 : lt x z = false) : lt x y = false := by
  exact O.neg x z y h2 (O.asym y z h1)
/-! ### as functions of places -/
def HeapF (lt : α → α → Bool) (f : Nat → α) (n : Nat) : Prop := ∀ i, 0 < i → i < n → lt (f i) (f ((i - 1) / 2)) = false
def UpF (lt : α → α → Bool) (f : Nat → α) (n p : Nat) : Prop :=
  (∀ i, 0 < i → i < n → i ≠ p → lt (f i) (f ((i - 1) / 2)) = false) ∧ (∀ c, 0 < p → 0 < c → c < n → (c - 1) / 2 = p → lt (f c) (f ((p - 1) / 2)) = false)
def DownF (lt : α → α → Bool) (f : Nat → α) (n p : Nat) : Prop :=
  (∀ i, 0 < i → i < n → i ≠ p → (i - 1) / 2 ≠ p → lt (f i) (f ((i - 1) / 2)) = false) ∧ (∀ c, 0 < p → 0 < c → c < n → (c - 1) / 2 = p → lt (f c) (f ((p - 1) / 2)) = false)
def swF (f : Nat → α) (i j : Nat) : Nat → α := fun k => if k = i then f j else if k = j then f i else f k
theorem swF_l {f : Nat → α} {i j : Nat} : swF f i j i = f j := if_pos rfl
theorem swF_r {f : Nat → α} {i j : Nat} : swF f i j j = f i := by
  unfold swF
  split
  · rename_i h; rw [h]
  · exact if_pos rfl
theorem swF_o {f : Nat → α} {i j k : Nat} (h1 : k ≠ i) (h2 : k ≠ j) : swF f i j k = f k := by
  unfold swF
  rw [if_neg h1, if_neg h2]
theorem UpF.step (O : Swo lt) {f : Nat → α} {n p : Nat} (h : UpF lt f n p) (hp : 0 < p) (hn : p < n) (hl : lt (f p) (f ((p - 1) / 2)) = true) : UpF lt (swF f ((p - 1) / 2) p) n ((p - 1) / 2) := by
  obtain ⟨h1, h2⟩ := h
  generalize hq : (p - 1) / 2 = q at *
  have qp : q < p := by omega
  refine ⟨fun i i0 ni iq => ?_, fun c q0 c0 cn cq => ?_⟩
  · by_cases ip : i = p
    · subst ip
      rw [swF_r, hq, swF_l]
      exact O.asym _ _ hl
    · rw [swF_o iq ip]
      by_cases e1 : (i - 1) / 2 = q
      · rw [e1, swF_l]
        have := h1 i i0 ni ip
        rw [e1] at this
        exact O.below hl this
      · by_cases e2 : (i - 1) / 2 = p
        · rw [e2, swF_r]
          exact h2 i hp i0 ni e2
        · rw [swF_o e1 e2]
          exact h1 i i0 ni ip
  · have g1 : (q - 1) / 2 ≠ q := by omega
    have g2 : (q - 1) / 2 ≠ p := by omega
    rw [swF_o g1 g2]
    by_cases cp : c = p
    · subst cp
      rw [swF_r]
      exact h1 q q0 (by omega) (by omega)
    · rw [swF_o (show c ≠ q by omega) cp]
      have a := h1 c c0 cn cp
      rw [cq] at a
      exact O.neg _ _ _ a (h1 q q0 (by omega) (by omega))
theorem UpF.done {f : Nat → α} {n p : Nat} (h : UpF lt f n p) (hl : 0 < p → lt (f p) (f ((p - 1) / 2)) = false) : HeapF lt f n := fun i i0 ni => by
  by_cases ip : i = p
  · subst ip
    exact hl i0
  · exact h.1 i i0 ni ip
theorem DownF.step (O : Swo lt) {f : Nat → α} {n p c : Nat} (h : DownF lt f n p) (hc : (c - 1) / 2 = p) (c0 : 0 < c) (cn : c < n) (hs : ∀ i, 0 < i → i < n → (i - 1) / 2 = p → i ≠ c → lt (f i) (f c) = false) : DownF lt (swF f c p) n c := by
  obtain ⟨h1, h2⟩ := h
  refine ⟨fun i i0 ni ic iq => ?_, fun d _ d0 dn dq => ?_⟩
  · by_cases ip : i = p
    · subst ip
      rw [swF_r, swF_o (show (i - 1) / 2 ≠ c by omega) (show (i - 1) / 2 ≠ i by omega)]
      exact h2 c i0 c0 cn hc
    · rw [swF_o ic ip]
      by_cases e1 : (i - 1) / 2 = p
      · rw [e1, swF_r]
        exact hs i i0 ni e1 ic
      · rw [swF_o iq e1]
        exact h1 i i0 ni ip e1
  · rw [hc, swF_r, swF_o (show d ≠ c by omega) (show d ≠ p by omega)]
    have := h1 d d0 dn (by omega) (by omega)
    rw [dq] at this
    exact this
theorem DownF.leaf {f : Nat → α} {n p : Nat} (h : DownF lt f n p) (hl : n ≤ 2 * p + 1) : UpF lt f n p := ⟨fun i i0 ni ip => h.1 i i0 ni ip (by omega), fun c _ c0 cn cp => by omega⟩
theorem HeapF.down {f g : Nat → α} {n m : Nat} (h : HeapF lt f n) (hm : m ≤ n) (e : ∀ i, 0 < i → i < m → g i = f i) : DownF lt g m 0 := by
  refine ⟨fun i i0 mi _ ip => ?_, fun c z => absurd z (Nat.lt_irrefl 0)⟩
  rw [e i i0 mi, e ((i - 1) / 2) (by omega) (by omega)]
  exact h i i0 (by omega)
theorem HeapF.push {f g : Nat → α} {n : Nat} (h : HeapF lt f n) (e : ∀ i, i < n → g i = f i) : UpF lt g (n + 1) n := by
  refine ⟨fun i i0 ni ip => ?_, fun c _ c0 cn cp => by omega⟩
  rw [e i (by omega), e ((i - 1) / 2) (by omega)]
  exact h i i0 (by omega)
theorem HeapF.least (O : Swo lt) {f : Nat → α} {n : Nat} (h : HeapF lt f n) : ∀ i, i < n → lt (f i) (f 0) = false := by
  intro i
  induction i using Nat.strongRecOn with
  | _ i ih =>
    intro ni
    by_cases i0 : i = 0
    · rw [i0]; exact O.irr _
    · exact O.neg _ _ _ (h i (by omega) ni) (ih ((i - 1) / 2) (by omega) (by omega))
/-! ### as arrays -/
def vw (d : α) (xs : Array α) : Nat → α := fun k => xs.getD k d
theorem vw_at {d : α} {xs : Array α} {k : Nat} (h : k < xs.size) : vw d xs k = xs[k] := by
  unfold vw
  simp [Array.getD, h]
def sw (xs : Array α) (i j : Nat) (x y : α) : Array α := (xs.setIfInBounds i y).setIfInBounds j x
theorem sw_size {xs : Array α} {i j : Nat} {x y : α} : (sw xs i j x y).size = xs.size := by
  unfold sw
  simp
theorem sw_get {xs : Array α} {i j k : Nat} {x y : α} (h : k < (sw xs i j x y).size) (hk : k < xs.size) : (sw xs i j x y)[k] = if j = k then x else if i = k then y else xs[k] := by
  have h' : k < ((xs.setIfInBounds i y).setIfInBounds j x).size := h
  show ((xs.setIfInBounds i y).setIfInBounds j x)[k]'h' = _
  rw [Array.getElem_setIfInBounds (by simpa using hk), Array.getElem_setIfInBounds hk]
theorem sw_vw {d : α} {xs : Array α} {i j : Nat} (hi : i < xs.size) (hj : j < xs.size) {k : Nat} (hk : k < xs.size) : vw d (sw xs i j xs[i] xs[j]) k = swF (vw d xs) i j k := by
  have hk' : k < (sw xs i j xs[i] xs[j]).size := by rw [sw_size]; exact hk
  rw [vw_at hk', sw_get hk' hk]
  unfold swF
  rw [vw_at hi, vw_at hj, vw_at hk]
  by_cases e1 : k = j
  · subst e1
    rw [if_pos rfl]
    by_cases e2 : k = i
    · subst e2; rw [if_pos rfl]
    · rw [if_neg e2, if_pos rfl]
  · rw [if_neg (fun z => e1 z.symm)]
    by_cases e2 : k = i
    · subst e2; rw [if_pos rfl, if_pos rfl]
    · rw [if_neg (fun z => e2 z.symm), if_neg e2, if_neg e1]
theorem sw_perm {xs : Array α} {i j : Nat} (hi : i < xs.size) (hj : j < xs.size) : (sw xs i j xs[i] xs[j]).Perm xs := by
  have e : sw xs i j xs[i] xs[j] = xs.swap i j hi hj := by
    apply Array.ext
    · rw [sw_size]; simp
    · intro k h1 h2
      have hk : k < xs.size := by rw [sw_size] at h1; exact h1
      have q := sw_vw (d := xs[i]) hi hj hk
      rw [vw_at h1] at q
      rw [q]
      unfold swF
      rw [vw_at hi, vw_at hj, vw_at hk, Array.getElem_swap]
  rw [e]
  exact Array.swap_perm hi hj
end
end Hq
end
section
set_option Elab.async false
set_option linter.all false
set_option maxRecDepth 100000
set_option maxHeartbeats 4000000
/-! Own layer: heappush, heappop as the model runs them. -/
namespace Hq
open PySem PySem.Spec PyProof.Rows PySem.SeqAt
theorem sift_entry : entryFor table "_heapq.heapify.sift" = some Builtin.«_heapq.heapify.sift» := entryFor_of_tree (by kernel_rfl)
theorem sift_plain : plainId "_heapq.heapify.sift" = true := by decide +kernel
def items' (a : Addr) : Sem (Array Value) := do
  let some xs ← seqItems? (.ref a) | unsupported "internal:_heapq"
  return xs
def at' (xs : Array Value) (i : Nat) : Sem Value :=
  match xs[i]? with
  | some v => pure v
  | none => unsupported "internal:_heapq.index"
def swap' (a : Addr) (i j : Nat) : Sem Unit := do
  let xs ← items' a
  let x ← at' xs i
  let y ← at' xs j
  updateSeq a fun xs => (xs.setIfInBounds i y).setIfInBounds j x
def less' (a : Addr) (size : Nat) (x y : Value) : Sem Bool := do
  let less ← holding [x, y] (do truthOfDropped (← richCompare .Lt x y))
  if (← items' a).size != size then rule "_heapq.size-changed"; raiseError "RuntimeError" "list changed size during iteration"
  return less
def sift' (heap : Value) (isMax down : Bool) (pos top : Nat) (result : Value) (after : Int) : Sem PySem.Fin :=
  again (.builtin "_heapq.heapify.sift" ⟨[heap, .bool isMax, .bool down, rawInt pos, rawInt top, result, rawInt after], []⟩)
def child' (a : Addr) (xs : Array Value) (pos : Nat) : Sem Nat := do
  let size := xs.size
  let left := 2 * pos + 1
  let mut child := left
  if left + 1 < size then
    let l ← at' xs left
    let r ← at' xs (left + 1)
    if !(← less' a size l r) then child := left + 1
  return child
def body' (heap : Value) (a : Addr) (isMax down : Bool) (pos top : Nat) (result : Value) (after : Int) : Sem PySem.Fin := do
  let xs ← items' a
  let size := xs.size
  if down then
    if pos < size / 2 then
      let left := 2 * pos + 1
      let mut child := left
      if left + 1 < size then
        let l ← at' xs left
        let r ← at' xs (left + 1)
        if !(← if isMax then less' a size r l else less' a size l r) then child := left + 1
      swap' a child pos
      return ← sift' heap isMax true child top result after
    return ← sift' heap isMax false pos top result after
  if pos > top then
    let parent := (pos - 1) / 2
    let x ← at' xs pos
    let p ← at' xs parent
    if ← if isMax then less' a size p x else less' a size x p then
      swap' a parent pos
      return ← sift' heap isMax false parent top result after
  if after < 0 then return ← ret result
  sift' heap isMax true after.toNat after.toNat result (after - 1)
theorem sift_eq (a : Addr) (m d : Bool) (pos top : Int) (t1 t2 t3 : Tok) (result : Value) (after : Int) :
    Builtin.«_heapq.heapify.sift» ⟨[.ref a, .bool m, .bool d, .int pos t1, .int top t2, result, .int after t3], []⟩ = body' (.ref a) a m d pos.toNat top.toNat result after := rfl
section
variable {prog : Program} {w : World} {A : Around} {E : Value → Shared → Prop} {s : Shared} {a : Addr} {o : Obj} {xs : Array Value} {n : Nat}
theorem wp_items {Q : Array Value → Shared → Prop} (ho : s.heap.get? a = some o) (hd : o.data = .seq xs n) (h : Q xs s) : wpAny (model prog w) A (items' a) Q E s := by
  unfold items'
  exact wpAny_bind (wpAny_seqItems ho hd (wpAny_pure h))
theorem wp_at {i : Nat} {Q : Value → Shared → Prop} (hi : i < xs.size) (h : Q xs[i] s) : wpAny (model prog w) A (at' xs i) Q E s := by
  unfold at'
  rw [Array.getElem?_eq_getElem hi]
  exact wpAny_pure h
theorem wp_less {x y : Value} {k : Bool} {Q : Bool → Shared → Prop} (ho : s.heap.get? a = some o) (hd : o.data = .seq xs n) (hc : RcLt A s x y k) (h : Q k s) : wpAny (model prog w) A (less' a xs.size x y) Q E s := by
  unfold less'
  refine wpAny_bind (wpAny_holding (wpAny_bind (hc prog w _ _ ?_)))
  show wpAny _ _ (truthy (.bool k)) _ _ _
  refine wpAny_pure ?_
  refine wpAny_bind (wp_items ho hd ?_)
  rw [if_neg (by simp)]
  exact wpAny_pure h
theorem wp_swap {i j : Nat} {Q : Unit → Shared → Prop} (ho : s.heap.get? a = some o) (hd : o.data = .seq xs n) (hi : i < xs.size) (hj : j < xs.size) (hz : xs.size ≤ sizeLine)
    (h : Q () { s with heap := s.heap.update a (Obj.mapSeq fun ys => sw ys i j xs[i] xs[j]) }) : wpAny (model prog w) A (swap' a i j) Q E s := by
  unfold swap'
  refine wpAny_bind (wp_items ho hd ?_)
  refine wpAny_bind (wp_at hi ?_)
  refine wpAny_bind (wp_at hj ?_)
  exact wpAny_updateSeq ho hd h hz (by simp; omega)
end
/-! ### the runs -/
def LA (h : Heap) (a : Addr) (xs : Array Value) : Prop := ∃ n, h.get? a = some { cls := .type "list", data := .seq xs n }
theorem LA.up {h : Heap} {a : Addr} {xs : Array Value} (e : LA h a xs) (f : Array Value → Array Value) : LA (h.update a (Obj.mapSeq f)) a (f xs) := by
  obtain ⟨n, e⟩ := e
  exact ⟨_, PySem.IsL.update e f⟩
/-- what is compared, whatever stands in the list -/
def Cmp (A : Around) (a : Addr) (h0 : Heap) (P : Value → Prop) (lt : Value → Value → Bool) : Prop :=
  ∀ s : Shared, Heap.SameBut a h0 s.heap → ∀ x y, P x → P y → RcLt A.in1 s x y (lt x y)
/-- what a run leaves -/
def Left (a : Addr) (s : Shared) (xs : Array Value) (lt : Value → Value → Bool) (s' : Shared) : Prop :=
  ∃ h' ys, s' = { s with heap := h' } ∧ Heap.SameBut a s.heap h' ∧ LA h' a ys ∧ ys.Perm xs ∧ ys.size = xs.size ∧ HeapF lt (vw .none ys) ys.size
section
variable {prog : Program} {w : World} {A : Around} {a : Addr} {h0 : Heap} {P : Value → Prop} {lt : Value → Value → Bool} {R : Result → Shared → Prop} {res : Value}
theorem sb_up {h h' : Heap} (g : Heap.SameBut a h h') (f : Obj → Obj) : Heap.SameBut a h (h'.update a f) := ⟨(Heap.SameBut.update h' a f).1.trans g.1, fun b hb => ((Heap.SameBut.update h' a f).2 b hb).trans (g.2 b hb)⟩
theorem swF_heap {xs : Array Value} {i j n : Nat} (hi : i < xs.size) (hj : j < xs.size) {p : Nat} (h : UpF lt (swF (vw .none xs) i j) xs.size p) : UpF lt (vw .none (sw xs i j xs[i] xs[j])) (sw xs i j xs[i] xs[j]).size p := by
  rw [sw_size]
  have e : ∀ k, k < xs.size → vw .none (sw xs i j xs[i] xs[j]) k = swF (vw .none xs) i j k := fun k hk => sw_vw hi hj hk
  refine ⟨fun i i0 ni ip => ?_, fun c p0 c0 cn cp => ?_⟩
  · rw [e i ni, e ((i - 1) / 2) (by omega)]
    exact h.1 i i0 ni ip
  · rw [e c cn, e ((p - 1) / 2) (by omega)]
    exact h.2 c p0 c0 cn cp
theorem swF_down {xs : Array Value} {i j n : Nat} (hi : i < xs.size) (hj : j < xs.size) {p : Nat} (h : DownF lt (swF (vw .none xs) i j) xs.size p) : DownF lt (vw .none (sw xs i j xs[i] xs[j])) (sw xs i j xs[i] xs[j]).size p := by
  rw [sw_size]
  have e : ∀ k, k < xs.size → vw .none (sw xs i j xs[i] xs[j]) k = swF (vw .none xs) i j k := fun k hk => sw_vw hi hj hk
  refine ⟨fun i i0 ni ip iq => ?_, fun c p0 c0 cn cp => ?_⟩
  · rw [e i ni, e ((i - 1) / 2) (by omega)]
    exact h.1 i i0 ni ip iq
  · rw [e c cn, e ((p - 1) / 2) (by omega)]
    exact h.2 c p0 c0 cn cp
theorem mem_sw {xs : Array Value} {i j : Nat} (hi : i < xs.size) (hj : j < xs.size) (h : ∀ x ∈ xs, P x) : ∀ x ∈ sw xs i j xs[i] xs[j], P x := fun x hx => h x ((sw_perm hi hj).mem_iff.mp hx)
theorem up_run (O : Swo lt) (C : Cmp A a h0 P lt) : ∀ (p : Nat) (xs : Array Value) (s : Shared), Heap.SameBut a h0 s.heap → LA s.heap a xs → xs.size ≤ sizeLine → (∀ x ∈ xs, P x) → p < xs.size → UpF lt (vw .none xs) xs.size p →
    (∀ s', Left a s xs lt s' → R (.ok (.ret res)) s') →
    codeAny (model prog w) A (.builtin "_heapq.heapify.sift" ⟨[.ref a, .bool false, .bool false, rawInt (p : Nat), rawInt (0 : Nat), res, rawInt (-1)], []⟩) R s := by
  intro p
  induction p using Nat.strongRecOn with
  | _ p ih =>
    intro xs s sb la hz hP hp hu hR
    obtain ⟨n, ho⟩ := la
    refine codeAny_builtin sift_entry ?_
    rw [Around.under_plainId sift_plain _]
    unfold rawInt
    rw [sift_eq]
    rw [Int.toNat_natCast, Int.toNat_natCast]
    unfold body'
    refine wpAny_bind (wp_items ho rfl ?_)
    show wpAny _ _ (if p > 0 then _ else _) _ _ _
    have fin : HeapF lt (vw .none xs) xs.size → R (.ok (.ret res)) s := fun hh => hR s ⟨s.heap, xs, rfl, ⟨rfl, fun _ _ => rfl⟩, ⟨n, ho⟩, Array.Perm.refl _, rfl, hh⟩
    by_cases p0 : p > 0
    · rw [if_pos p0]
      have hq : (p - 1) / 2 < xs.size := by omega
      refine wpAny_bind (wp_at hp ?_)
      refine wpAny_bind (wp_at hq ?_)
      have hc := C s sb _ _ (hP _ (Array.getElem_mem hp)) (hP _ (Array.getElem_mem hq))
      refine wpAny_bind (wp_less ho rfl hc ?_)
      have ev1 : vw .none xs p = xs[p] := vw_at hp
      have ev2 : vw .none xs ((p - 1) / 2) = xs[(p - 1) / 2] := vw_at hq
      cases hl : lt xs[p] xs[(p - 1) / 2] with
      | true =>
        dsimp only
        rw [if_pos rfl]
        refine wpAny_bind (wp_swap ho rfl hq hp hz ?_)
        have hl' : lt (vw .none xs p) (vw .none xs ((p - 1) / 2)) = true := by rw [ev1, ev2]; exact hl
        have hs := hu.step O p0 hp hl'
        have sb' := sb_up sb (Obj.mapSeq fun ys => sw ys ((p - 1) / 2) p xs[(p - 1) / 2] xs[p])
        refine wpAny_bind (wpAny_pure (wpAny_pure ⟨plainId_quiet sift_plain _, ?_⟩))
        refine ih ((p - 1) / 2) (by omega) (sw xs ((p - 1) / 2) p xs[(p - 1) / 2] xs[p]) _ sb' (LA.up ⟨n, ho⟩ _) (by rw [sw_size]; exact hz) (mem_sw hq hp hP) (by rw [sw_size]; exact hq) (swF_heap (n := 0) hq hp hs) fun s' hl => ?_
        obtain ⟨h', ys, e1, e2, e3, e4, e5, e6⟩ := hl
        refine hR s' ⟨h', ys, e1, ⟨e2.1.trans (Heap.SameBut.update s.heap a _).1, fun b hb => (e2.2 b hb).trans ((Heap.SameBut.update s.heap a _).2 b hb)⟩, e3, e4.trans (sw_perm hq hp), by rw [e5, sw_size], e6⟩
      | false =>
        dsimp only
        rw [if_neg (by simp)]
        show wpAny _ _ (if (-1 : Int) < 0 then _ else _) _ _ _
        rw [if_pos (by decide)]
        refine wpAny_bind (wpAny_pure (wpAny_pure ?_))
        exact fin (hu.done fun _ => by rw [ev1, ev2]; exact hl)
    · rw [if_neg p0]
      show wpAny _ _ (if (-1 : Int) < 0 then _ else _) _ _ _
      rw [if_pos (by decide)]
      refine wpAny_bind (wpAny_pure (wpAny_pure ?_))
      exact fin (hu.done fun z => absurd z p0)
theorem down_run (O : Swo lt) (C : Cmp A a h0 P lt) : ∀ (m p : Nat) (xs : Array Value) (s : Shared), xs.size - p = m → Heap.SameBut a h0 s.heap → LA s.heap a xs → xs.size ≤ sizeLine → (∀ x ∈ xs, P x) → p < xs.size → DownF lt (vw .none xs) xs.size p →
    (∀ s', Left a s xs lt s' → R (.ok (.ret res)) s') →
    codeAny (model prog w) A (.builtin "_heapq.heapify.sift" ⟨[.ref a, .bool false, .bool true, rawInt (p : Nat), rawInt (0 : Nat), res, rawInt (-1)], []⟩) R s := by
  intro m
  induction m using Nat.strongRecOn with
  | _ m ih =>
    intro p xs s hm sb la hz hP hp hd hR
    have la' := la
    obtain ⟨n, ho⟩ := la
    refine codeAny_builtin sift_entry ?_
    rw [Around.under_plainId sift_plain _]
    unfold rawInt
    rw [sift_eq]
    rw [Int.toNat_natCast, Int.toNat_natCast]
    unfold body'
    refine wpAny_bind (wp_items ho rfl ?_)
    show wpAny _ _ (if p < xs.size / 2 then _ else _) _ _ _
    by_cases pl : p < xs.size / 2
    · rw [if_pos pl]
      have h1 : 2 * p + 1 < xs.size := by omega
      have go : ∀ c, (c - 1) / 2 = p → 0 < c → (hc : c < xs.size) → (∀ i, 0 < i → i < xs.size → (i - 1) / 2 = p → i ≠ c → lt (vw .none xs i) (vw .none xs c) = false) →
          wpAny (model prog w) A.in1 (do swap' a c p; return ← sift' (.ref a) false true c 0 res (-1)) (fun fin s' => match fin with | .done f => R (.ok f) s' | .again c' => c'.quiet = true ∧ codeAny (model prog w) A c' R s') (fun e s' => R (.error e) s') s := fun c hcp c0 hc hmin => by
        refine wpAny_bind (wp_swap ho rfl hc hp hz ?_)
        have hs := hd.step O hcp c0 hc hmin
        have sb' := sb_up sb (Obj.mapSeq fun ys => sw ys c p xs[c] xs[p])
        refine wpAny_bind (wpAny_pure (wpAny_pure ⟨plainId_quiet sift_plain _, ?_⟩))
        refine ih (xs.size - c) (by omega) c (sw xs c p xs[c] xs[p]) _ (by rw [sw_size]) sb' (LA.up ⟨n, ho⟩ _) (by rw [sw_size]; exact hz) (mem_sw hc hp hP) (by rw [sw_size]; exact hc) (swF_down (n := 0) hc hp hs) fun s' hl => ?_
        obtain ⟨h', ys, e1, e2, e3, e4, e5, e6⟩ := hl
        exact hR s' ⟨h', ys, e1, ⟨e2.1.trans (Heap.SameBut.update s.heap a _).1, fun b hb => (e2.2 b hb).trans ((Heap.SameBut.update s.heap a _).2 b hb)⟩, e3, e4.trans (sw_perm hc hp), by rw [e5, sw_size], e6⟩
      show wpAny _ _ (if 2 * p + 1 + 1 < xs.size then _ else _) _ _ _
      by_cases h2 : 2 * p + 1 + 1 < xs.size
      · rw [if_pos h2]
        refine wpAny_bind (wp_at h1 ?_)
        refine wpAny_bind (wp_at h2 ?_)
        have hc := C s sb _ _ (hP _ (Array.getElem_mem h1)) (hP _ (Array.getElem_mem h2))
        refine wpAny_bind (wp_less ho rfl hc ?_)
        have ev1 : vw .none xs (2 * p + 1) = xs[2 * p + 1] := vw_at h1
        have ev2 : vw .none xs (2 * p + 1 + 1) = xs[2 * p + 1 + 1] := vw_at h2
        cases hl : lt xs[2 * p + 1] xs[2 * p + 1 + 1] with
        | true =>
          refine go (2 * p + 1) (by omega) (by omega) h1 fun i i0 ni ip ne => ?_
          obtain rfl : i = 2 * p + 1 + 1 := by omega
          rw [ev1, ev2]
          exact O.asym _ _ hl
        | false =>
          refine go (2 * p + 1 + 1) (by omega) (by omega) h2 fun i i0 ni ip ne => ?_
          obtain rfl : i = 2 * p + 1 := by omega
          rw [ev1, ev2]
          exact hl
      · rw [if_neg h2]
        exact go (2 * p + 1) (by omega) (by omega) h1 fun i i0 ni ip ne => by omega
    · rw [if_neg pl]
      refine wpAny_bind (wpAny_pure (wpAny_pure ⟨plainId_quiet sift_plain _, ?_⟩))
      exact up_run O C p xs s sb la' hz hP hp (hd.leaf (by omega)) hR
end
end Hq
end
section
set_option Elab.async false
set_option linter.all false
set_option maxRecDepth 100000
set_option maxHeartbeats 4000000
/-! Own layer: heappush, heappop called. -/
namespace Hq
open PySem PySem.Spec PyProof.Rows PySem.SeqAt
theorem push_entry : entryFor table "_heapq.heappush" = some Builtin.«_heapq.heappush» := entryFor_of_tree (by kernel_rfl)
theorem push_plain : plainId "_heapq.heappush" = true := by decide +kernel
theorem pop_entry : entryFor table "_heapq.heappop" = some Builtin.«_heapq.heappop» := entryFor_of_tree (by kernel_rfl)
theorem pop_plain : plainId "_heapq.heappop" = true := by decide +kernel
def list' (fname which : String) (v : Value) : Sem Addr := do
  if ← isInstance v (.type "list") then
    if let .ref a := v then return a
  rule "_heapq.not-a-list"
  let what ← if v == .none then pure "None" else typeNameOf v
  raiseError "TypeError" s!"{fname}() argument{which} must be list, not {what}"
theorem push_eq (a : Addr) (v : Value) : Builtin.«_heapq.heappush» ⟨[.ref a, v], []⟩ = (do
    let (heap, b, item) ← (do let b ← list' "heappush" " 1" (.ref a); return ((.ref a : Value), b, v))
    updateSeq b (·.push item)
    sift' heap false false ((← items' b).size - 1) 0 .none (-1)) := rfl
theorem pop_eq (a : Addr) : Builtin.«_heapq.heappop» ⟨[.ref a], []⟩ = (do
    let (heap, b) ← (do let b ← list' "heappop" "" (.ref a); return ((.ref a : Value), b))
    let xs ← items' b
    let some last := xs.back? | (do rule "_heapq.empty"; raiseError "IndexError" "index out of range")
    updateSeq b (·.pop)
    if xs.size == 1 then return ← ret last
    let first ← at' xs 0
    updateSeq b (·.setIfInBounds 0 last)
    sift' heap false true 0 0 first (-1)) := rfl
theorem push_check (a : Addr) (v : Value) : checkBuiltinCall "_heapq.heappush" ⟨[.ref a, v], []⟩ = pure () := by kernel_rfl
theorem pop_check (a : Addr) : checkBuiltinCall "_heapq.heappop" ⟨[.ref a], []⟩ = pure () := by kernel_rfl
section
variable {prog : Program} {w : World} {A : Around} {E : Value → Shared → Prop} {s : Shared} {a : Addr} {xs : Array Value} {P : Value → Prop} {lt : Value → Value → Bool} {R : Result → Shared → Prop}
theorem wp_list {f g : String} {Q : Addr → Shared → Prop} (la : LA s.heap a xs) (h : Q a s) : wpAny (model prog w) A (list' f g (.ref a)) Q E s := by
  obtain ⟨n, ho⟩ := la
  unfold list'
  refine wpAny_bind (wpAny_isInstance (T := "list") (U := "list") (b := true) ⟨_, ho, rfl⟩ (by rw [isSubtype_type]; kernel_rfl) ?_)
  rw [if_pos rfl]
  exact wpAny_pure h
theorem push_run {v : Value} (O : Swo lt) (C : Cmp A a s.heap P lt) (la : LA s.heap a xs) (hz : xs.size < sizeLine) (hP : ∀ x ∈ xs, P x) (hv : P v) (hh : HeapF lt (vw .none xs) xs.size)
    (hR : ∀ h' ys, Heap.SameBut a s.heap h' → LA h' a ys → ys.Perm (xs.push v) → ys.size = xs.size + 1 → HeapF lt (vw .none ys) ys.size → R (.ok (.ret .none)) { s with heap := h' }) :
    codeAny (model prog w) A (.builtin "_heapq.heappush" ⟨[.ref a, v], []⟩) R s := by
  have la' := la
  obtain ⟨n, ho⟩ := la
  refine codeAny_builtin push_entry ?_
  rw [Around.under_plainId push_plain _, push_eq]
  refine wpAny_bind (wpAny_bind (wp_list la' (wpAny_pure ?_)))
  refine wpAny_bind (wpAny_updateSeq ho rfl ?_ (by omega) (by simp; omega))
  have la2 := LA.up la' (·.push v)
  obtain ⟨n2, ho2⟩ := id la2
  refine wpAny_bind (wp_items ho2 rfl ?_)
  have e : (xs.push v).size - 1 = xs.size := by simp
  rw [e]
  refine wpAny_pure ⟨plainId_quiet sift_plain _, ?_⟩
  have sb := Heap.SameBut.update s.heap a (Obj.mapSeq (·.push v))
  have vwe : ∀ i, i < xs.size → vw .none (xs.push v) i = vw .none xs i := fun i hi => by
    rw [vw_at hi, vw_at (show i < (xs.push v).size by simp; omega), Array.getElem_push_lt hi]
  refine up_run O C xs.size (xs.push v) _ sb la2 (by simp; omega) (fun x hx => ?_) (by simp) (by have := hh.push vwe; rw [show (xs.push v).size = xs.size + 1 by simp]; exact this) fun s' hl => ?_
  · rcases Array.mem_push.mp hx with z | z
    · exact hP x z
    · rw [z]; exact hv
  · obtain ⟨h', ys, rfl, e2, e3, e4, e5, e6⟩ := hl
    refine hR h' ys ⟨e2.1.trans sb.1, fun b hb => (e2.2 b hb).trans (sb.2 b hb)⟩ e3 e4 (by rw [e5]; simp) e6
theorem pop_permL (l : List Value) (h : 1 < l.length) : ((l.dropLast).set 0 (l[l.length - 1]'(by omega)) ++ [l[0]'(by omega)]).Perm l := by
  obtain ⟨x, mid, z, rfl⟩ : ∃ x mid z, l = x :: (mid ++ [z]) := by
    match l, h with
    | x :: y :: r, _ => exact ⟨x, (y :: r).dropLast, (y :: r).getLast (by simp), by rw [List.dropLast_concat_getLast]⟩
  have e2 : (x :: (mid ++ [z])).dropLast = x :: mid := by rw [show x :: (mid ++ [z]) = (x :: mid) ++ [z] from rfl, List.dropLast_concat]
  have e3 : (x :: (mid ++ [z]))[(x :: (mid ++ [z])).length - 1]'(by omega) = z := by
    simp
  rw [e3, e2]
  show ((z :: mid) ++ [x]).Perm (x :: (mid ++ [z]))
  refine List.perm_append_comm.trans ?_
  show (x :: z :: mid).Perm (x :: (mid ++ [z]))
  exact List.Perm.cons x (List.perm_append_comm (l₁ := [z]) (l₂ := mid))
theorem pop_permA {xs : Array Value} (h : 1 < xs.size) : ((xs.pop.setIfInBounds 0 (xs[xs.size - 1]'(by omega))).toList ++ [xs[0]'(by omega)]).Perm xs.toList := by
  have q := pop_permL xs.toList (by rw [Array.length_toList]; exact h)
  rw [Array.toList_setIfInBounds, Array.toList_pop]
  exact q
theorem pop_one {xs : Array Value} (h : xs.size = 1) : (xs.pop.toList ++ [xs[0]'(by omega)]).Perm xs.toList := by
  have q : ∀ (l : List Value) (h : l.length = 1), (l.dropLast ++ [l[0]'(by omega)]).Perm l := fun l h => by
    match l, h with
    | [x], _ => exact List.Perm.refl _
  rw [Array.toList_pop]
  exact q xs.toList (by rw [Array.length_toList]; exact h)
theorem pop_run (O : Swo lt) (C : Cmp A a s.heap P lt) (la : LA s.heap a xs) (hz : xs.size ≤ sizeLine) (hP : ∀ x ∈ xs, P x) (h0 : 0 < xs.size) (hh : HeapF lt (vw .none xs) xs.size)
    (hR : ∀ h' ys, Heap.SameBut a s.heap h' → LA h' a ys → (ys.toList ++ [xs[0]]).Perm xs.toList → HeapF lt (vw .none ys) ys.size → R (.ok (.ret xs[0])) { s with heap := h' }) :
    codeAny (model prog w) A (.builtin "_heapq.heappop" ⟨[.ref a], []⟩) R s := by
  have la' := la
  obtain ⟨n, ho⟩ := la
  refine codeAny_builtin pop_entry ?_
  rw [Around.under_plainId pop_plain _, pop_eq]
  refine wpAny_bind (wpAny_bind (wp_list la' (wpAny_pure ?_)))
  refine wpAny_bind (wp_items ho rfl ?_)
  have hb : xs.back? = some xs[xs.size - 1] := by
    rw [Array.back?_eq_getElem?, Array.getElem?_eq_getElem (by omega)]
  rw [hb]
  refine wpAny_bind (wpAny_updateSeq ho rfl ?_ hz (by simp; omega))
  have la2 := LA.up la' (·.pop)
  have sb := Heap.SameBut.update s.heap a (Obj.mapSeq (·.pop))
  obtain ⟨n2, ho2⟩ := id la2
  by_cases e1 : xs.size = 1
  · rw [if_pos (by simp [e1])]
    refine wpAny_bind (wpAny_pure (wpAny_pure ?_))
    have e : xs[xs.size - 1] = xs[0] := by congr 1; omega
    show R (.ok (.ret xs[xs.size - 1])) _
    rw [e]
    refine hR _ (xs.pop) sb la2 ?_ fun i i0 ni => ?_
    · exact pop_one e1
    · simp at ni; omega
  · rw [if_neg (by simpa using e1)]
    have hp0 : 0 < xs.size := h0
    refine wpAny_bind (wp_at hp0 ?_)
    refine wpAny_bind (wpAny_updateSeq ho2 rfl ?_ (by simp; omega) (by simp; omega))
    have la3 := LA.up la2 (·.setIfInBounds 0 xs[xs.size - 1])
    have sb2 := Heap.SameBut.update (s.heap.update a (Obj.mapSeq (·.pop))) a (Obj.mapSeq (·.setIfInBounds 0 xs[xs.size - 1]))
    refine wpAny_pure ⟨plainId_quiet sift_plain _, ?_⟩
    have hsz : (xs.pop.setIfInBounds 0 xs[xs.size - 1]).size = xs.size - 1 := by simp
    have sb3 : Heap.SameBut a s.heap ((s.heap.update a (Obj.mapSeq (·.pop))).update a (Obj.mapSeq (·.setIfInBounds 0 xs[xs.size - 1]))) := ⟨sb2.1.trans sb.1, fun b hb => (sb2.2 b hb).trans (sb.2 b hb)⟩
    have hpm : ((xs.pop.setIfInBounds 0 xs[xs.size - 1]).toList ++ [xs[0]]).Perm xs.toList := pop_permA (by omega)
    refine down_run O C _ 0 (xs.pop.setIfInBounds 0 xs[xs.size - 1]) _ rfl sb3 la3 (by rw [hsz]; omega) (fun x hx => ?_) (by rw [hsz]; omega) ?_ fun s' hl => ?_
    · have q : x ∈ (xs.pop.setIfInBounds 0 xs[xs.size - 1]).toList ++ [xs[0]] := List.mem_append_left _ (Array.mem_toList_iff.mpr hx)
      exact hP x (Array.mem_toList_iff.mp (hpm.mem_iff.mp q))
    · rw [hsz]
      refine hh.down (by omega) fun i i0 ni => ?_
      rw [vw_at (show i < (xs.pop.setIfInBounds 0 xs[xs.size - 1]).size by rw [hsz]; exact ni), vw_at (show i < xs.size by omega), Array.getElem_setIfInBounds (by simp; omega)]
      rw [if_neg (by omega)]
      simp
    · obtain ⟨h', ys, rfl, e2, e3, e4, e5, e6⟩ := hl
      refine hR h' ys ⟨e2.1.trans sb3.1, fun b hb => (e2.2 b hb).trans (sb3.2 b hb)⟩ e3 ?_ e6
      refine List.Perm.trans ?_ hpm
      exact List.Perm.append_right _ (Array.perm_iff_toList_perm.mp e4)
end
end Hq
end
section
set_option Elab.async false
set_option linter.all false
set_option maxRecDepth 100000
set_option maxHeartbeats 4000000
/-! Own layer: heappush, heappop of tuples in the hand layer. -/
namespace Vf
open PySem PySem.Spec PyProof.Rows L2 PySem.SeqAt PySem.W
theorem dataLt_asym {x y : PyData} (h : dataLt x y = true) : dataLt y x = false := by
  cases e : dataLt y x with
  | false => rfl
  | true =>
    have q := lex_trans (O := itemOrd) _ _ _ h e
    rw [lex_irrefl] at q
    cases q
theorem dataLt_neg {x y z : PyData} (h1 : dataLt x y = false) (h2 : dataLt y z = false) : dataLt x z = false := by
  cases e : dataLt x z with
  | false => rfl
  | true =>
    rcases lex_negTrans (O := itemOrd) _ (keyToks y) _ e with q | q
    · have h1' : lexLt itemOrd (keyToks x) (keyToks y) = false := h1
      rw [h1'] at q; cases q
    · have h2' : lexLt itemOrd (keyToks y) (keyToks z) = false := h2
      rw [h2'] at q; cases q
theorem dataLt_swo : Hq.Swo dataLt := ⟨fun _ _ h => dataLt_asym h, fun _ _ _ h1 h2 => dataLt_neg h1 h2⟩
/-- the order of the things that the addresses stand for -/
def ltA (D : Addr → PyData) (x y : Addr) : Bool := dataLt (D x) (D y)
theorem ltA_swo (D : Addr → PyData) : Hq.Swo (ltA D) := ⟨fun x y => dataLt_swo.asym _ _, fun x y z => dataLt_swo.neg _ _ _⟩
def dvV (D : Addr → PyData) : Value → PyData
  | .ref x => D x
  | _ => .none
def ltV (D : Addr → PyData) (x y : Value) : Bool := dataLt (dvV D x) (dvV D y)
theorem ltV_swo (D : Addr → PyData) : Hq.Swo (ltV D) := ⟨fun x y => dataLt_swo.asym _ _, fun x y z => dataLt_swo.neg _ _ _⟩
/-- a heap of addresses -/
def HeapA (D : Addr → PyData) (ts : List Addr) : Prop := Hq.HeapF (ltA D) (fun k => ts.getD k 0) ts.length
theorem HeapA.nil {D : Addr → PyData} : HeapA D [] := fun i i0 h => by cases h
theorem HeapA.least {D : Addr → PyData} {t : Addr} {ts : List Addr} (h : HeapA D (t :: ts)) {x : Addr} (hx : x ∈ t :: ts) : ltA D x t = false := by
  obtain ⟨i, hi, e⟩ := List.mem_iff_getElem.mp hx
  have q := Hq.HeapF.least (ltA_swo D) h i hi
  have e1 : (t :: ts).getD i 0 = x := by rw [List.getD_eq_getElem?_getD, List.getElem?_eq_getElem hi, e]; rfl
  have q : ltA D ((t :: ts).getD i 0) ((t :: ts).getD 0 0) = false := q
  rw [e1] at q
  exact q
/-- what may stand in a queue -/
structure Okq (d : PyData) : Prop where
  n : noLst d = true
  x : d ≠ .none
  p : d.depth ≤ 50
mutual
theorem reads_nil {h : Heap} : ∀ (d : PyData) (v : Value) (as : List Addr), PyData.plain d = true → noLst d = true → Reads h v d as → as = []
  | .none, _, _, _, _, r => by cases r; rfl
  | .bool _, _, _, _, _, r => by cases r; rfl
  | .int _, _, _, _, _, r => by cases r; rfl
  | .str _, _, _, _, _, r => by cases r; rfl
  | .list _, _, _, _, n, _ => by cases n
  | .tuple ds, _, _, c, n, r => by
    cases r with
    | tuple h1 h2 h3 h4 => exact readsA_nil ds _ _ c n h4
  | .dict _, _, _, c, _, _ => by cases c
theorem readsA_nil {h : Heap} : ∀ (ds : List PyData) (vs : List Value) (as : List Addr), PyData.plainAll ds = true → noLstA ds = true → ReadsAll h vs ds as → as = []
  | [], _, _, _, _, r => by cases r; rfl
  | d :: ds, _, _, c, n, r => by
    have c : (PyData.plain d && PyData.plainAll ds) = true := c
    have n : (noLst d && noLstA ds) = true := n
    rw [Bool.and_eq_true] at c n
    cases r with
    | cons h1 h2 => rw [reads_nil d _ _ c.1 n.1 h1, readsA_nil ds _ _ c.2 n.2 h2]; rfl
end
def rPushH (K : PySem.W.Frag) : List V → Hp → VK → Prop := fun vs H Q => ∃ (a t : Addr) (ts : List Addr) (D : Addr → PyData), vs = [.ref a, .ref t] ∧ H a = some (.lst (ts.map V.ref)) ∧ ts.length < sizeLine ∧
  (∀ x ∈ t :: ts, Dp K H (.ref x) (D x) ∧ Okq (D x) ∧ PyData.plain (D x) = true) ∧ (∀ x ∈ t :: ts, ∀ y ∈ t :: ts, alike (D x) (D y) = true) ∧ HeapA D ts ∧
  ∀ us : List Addr, us.Perm (t :: ts) → HeapA D us → Q .non (upd H a (.lst (us.map V.ref)))
def rPopH (K : PySem.W.Frag) : List V → Hp → VK → Prop := fun vs H Q => ∃ (a t : Addr) (ts : List Addr) (D : Addr → PyData), vs = [.ref a] ∧ H a = some (.lst ((t :: ts).map V.ref)) ∧
  (∀ x ∈ t :: ts, Dp K H (.ref x) (D x) ∧ Okq (D x) ∧ PyData.plain (D x) = true) ∧ (∀ x ∈ t :: ts, ∀ y ∈ t :: ts, alike (D x) (D y) = true) ∧ HeapA D (t :: ts) ∧
  ∀ us : List Addr, us.Perm ts → HeapA D us → Q (.ref t) (upd H a (.lst (us.map V.ref)))
theorem refs_of : ∀ {ts : List Addr} {us : List Value}, Vals (ts.map V.ref) us → us = ts.map Value.ref
  | [], _, h => by cases h; rfl
  | t :: ts, _, h => by
    cases h with
    | cons h1 h2 =>
      cases h1
      rw [refs_of h2]; rfl
theorem vals_refs : ∀ ts : List Addr, Vals (ts.map V.ref) (ts.map Value.ref)
  | [] => .nil
  | t :: ts => .cons rfl (vals_refs ts)
theorem heap_vw {D : Addr → PyData} {ts : List Addr} : HeapA D ts ↔ Hq.HeapF (ltV D) (Hq.vw .none (ts.map Value.ref).toArray) (ts.map Value.ref).toArray.size := by
  have sz : (ts.map Value.ref).toArray.size = ts.length := by simp
  have e : ∀ i, i < ts.length → dvV D (Hq.vw .none (ts.map Value.ref).toArray i) = D (ts.getD i 0) := fun i hi => by
    rw [Hq.vw_at (by rw [sz]; exact hi)]
    rw [List.getD_eq_getElem?_getD, List.getElem?_eq_getElem hi]
    simp [dvV]
  rw [sz]
  constructor
  · intro h i i0 ni
    show dataLt _ _ = false
    rw [e i ni, e ((i - 1) / 2) (by omega)]
    exact h i i0 ni
  · intro h i i0 ni
    have q : dataLt _ _ = false := h i i0 ni
    rw [e i ni, e ((i - 1) / 2) (by omega)] at q
    exact q
section
variable {X : Cx}
theorem cmp_of {pins : List (Addr × Obj)} {s : Shared} {σ : L2.St} {H : Hp} {a : Addr} {ts : List Addr} {D : Addr → PyData} {A : Around} (I : Inv X pins σ H s) {xs : List V} (hl : H a = some (.lst xs)) (hu : A.in1.units + 60 < cLine)
    (hd : ∀ x ∈ ts, Dp X.K H (.ref x) (D x) ∧ Okq (D x) ∧ PyData.plain (D x) = true) (ha : ∀ x ∈ ts, ∀ y ∈ ts, alike (D x) (D y) = true) : Hq.Cmp A a s.heap (fun v => ∃ x ∈ ts, v = .ref x) (ltV D) := by
  rintro s' sb _ _ ⟨x, hx, rfl⟩ ⟨y, hy, rfl⟩
  have hla : ∀ o, s.heap.get? a = some o → o.cls = .type "list" := fun o ho => by
    obtain ⟨_, its, n, _, _, e⟩ := I.lstM hl
    rw [e] at ho
    cases ho; rfl
  have rd : ∀ z ∈ ts, Reads s'.heap (.ref z) (D z) [] := fun z hz => by
    obtain ⟨d1, d2, d3⟩ := hd z hz
    obtain ⟨as, r⟩ := Dp.reads I _ _ _ d1 (show RelV (.ref z) (.ref z) from rfl)
    have e := reads_nil _ _ _ d3 d2.n r
    subst e
    exact Reads.keepBut (fun b o hb e => by rw [sb.2 b hb]; exact e) hla _ _ _ (ha z hz z hz) r (by simp)
  exact rcLt_alike _ _ _ _ _ _ _ _ (rd x hx) (rd y hy) (ha x hx y hy) (hd x hx).2.1.x (by have h1 := (hd x hx).2.1.p; have h2 := (hd y hy).2.1.p; have h3 : min (D x).depth (D y).depth ≤ 50 := Nat.le_trans (Nat.min_le_left _ _) h1; show A.in1.units + min (D x).depth (D y).depth < cLine; omega)
theorem cr_push (hu : X.A.units + 64 < cLine) : CallR X (.builtin "_heapq.heappush") (rPushH X.K) := by
  intro pins s σ H vs us Q I r h
  obtain ⟨a, t, ts, D, rfl, hH, hz, hd, hal, hp, q⟩ := h
  obtain ⟨u1, u2, rfl, r1, r2⟩ := vals2 r
  cases r1
  cases r2
  obtain ⟨z, its, n, rv, hlen, e⟩ := I.lstM hH
  obtain rfl := refs_of rv
  refine wpAny_call (codeAny_of_tree ?_)
  show wpAny _ _ (do checkBuiltinCall "_heapq.heappush" ⟨[.ref a, .ref t], []⟩; again (.builtin "_heapq.heappush" ⟨[.ref a, .ref t], []⟩)) _ _ s
  rw [Hq.push_check]
  refine wpAny_bind (wpAny_pure (wpAny_pure ⟨plainId_quiet Hq.push_plain _, ?_⟩))
  have hsz : (ts.map Value.ref).toArray.size = ts.length := by simp
  refine Hq.push_run (P := fun v => ∃ x ∈ t :: ts, v = .ref x) (lt := ltV D) (ltV_swo D) (cmp_of (ts := t :: ts) I hH (by show X.A.units + 1 + 60 < _; omega) hd hal) ⟨n, e⟩ (by rw [hsz]; exact hz) (fun x hx => ?_) ⟨t, List.mem_cons_self, rfl⟩ (heap_vw.mp hp) fun h' ys sb la pm sz hh => ?_
  · simp at hx
    obtain ⟨b, hb, rfl⟩ := hx
    exact ⟨b, List.mem_cons_of_mem _ hb, rfl⟩
  · obtain ⟨n', e'⟩ := la
    have pl : ys.toList.Perm ((t :: ts).map Value.ref) := by
      have q1 := Array.perm_iff_toList_perm.mp pm
      refine q1.trans ?_
      rw [Array.toList_push]
      exact List.perm_append_comm
    obtain ⟨us, pu, eu⟩ : ∃ us : List Addr, us.Perm (t :: ts) ∧ ys.toList = us.map Value.ref := by
      have : ∀ l ∈ ys.toList, ∃ x, l = Value.ref x := fun l hl => by
        obtain ⟨x, _, rfl⟩ := List.mem_map.mp (pl.mem_iff.mp hl)
        exact ⟨x, rfl⟩
      refine ⟨ys.toList.map (fun v => match v with | .ref x => x | _ => 0), ?_, ?_⟩
      · have q2 := pl.map (fun v => match v with | .ref x => x | _ => 0)
        rw [List.map_map] at q2
        refine q2.trans (List.Perm.of_eq ?_)
        exact List.map_id _
      · rw [List.map_map]
        conv => lhs; rw [← List.map_id ys.toList]
        refine List.map_congr_left fun l hl => ?_
        obtain ⟨x, rfl⟩ := this l hl
        rfl
    have ey : ys = (us.map Value.ref).toArray := by rw [← eu]
    subst ey
    have lu : us.length = ts.length + 1 := pu.length_eq
    refine ⟨.non, upd H a (.lst (us.map V.ref)), ?_, rfl, q us pu (heap_vw.mpr hh)⟩
    exact I.write (x := a) (e := a) (by rw [hH]; exact trivial) (.inl rfl) (fun b' u hb hu => (sb.2 b' hb).trans hu) ⟨_, e'⟩ ⟨by rw [List.length_map]; omega, us.map Value.ref, n', vals_refs us, e'⟩
theorem cr_pop (hu : X.A.units + 64 < cLine) : CallR X (.builtin "_heapq.heappop") (rPopH X.K) := by
  intro pins s σ H vs us Q I r h
  obtain ⟨a, t, ts, D, rfl, hH, hd, hal, hp, q⟩ := h
  obtain ⟨u1, rfl, r1⟩ := vals1 r
  cases r1
  obtain ⟨z, its, n, rv, hlen, e⟩ := I.lstM hH
  obtain rfl := refs_of rv
  refine wpAny_call (codeAny_of_tree ?_)
  show wpAny _ _ (do checkBuiltinCall "_heapq.heappop" ⟨[.ref a], []⟩; again (.builtin "_heapq.heappop" ⟨[.ref a], []⟩)) _ _ s
  rw [Hq.pop_check]
  refine wpAny_bind (wpAny_pure (wpAny_pure ⟨plainId_quiet Hq.pop_plain _, ?_⟩))
  have hsz : ((t :: ts).map Value.ref).toArray.size = ts.length + 1 := by simp
  have z' : ts.length + 1 ≤ sizeLine := by rw [List.length_map] at z; exact z
  refine Hq.pop_run (P := fun v => ∃ x ∈ t :: ts, v = .ref x) (lt := ltV D) (ltV_swo D) (cmp_of (ts := t :: ts) I hH (by show X.A.units + 1 + 60 < _; omega) hd hal) ⟨n, e⟩ (by rw [hsz]; exact z') (fun x hx => ?_) (by rw [hsz]; omega) (heap_vw.mp hp) fun h' ys sb la pm hh => ?_
  · have hx : x ∈ (t :: ts).map Value.ref := by simpa using hx
    obtain ⟨b, hb, rfl⟩ := List.mem_map.mp hx
    exact ⟨b, hb, rfl⟩
  · obtain ⟨n', e'⟩ := la
    have e0 : (((t :: ts).map Value.ref).toArray)[0]'(by rw [hsz]; omega) = Value.ref t := rfl
    rw [e0] at pm
    have pl : ys.toList.Perm (ts.map Value.ref) := by
      have q1 : (Value.ref t :: ys.toList).Perm (Value.ref t :: ts.map Value.ref) := (List.perm_append_comm (l₁ := [Value.ref t]) (l₂ := ys.toList)).trans pm
      exact List.Perm.cons_inv q1
    obtain ⟨us, pu, eu⟩ : ∃ us : List Addr, us.Perm ts ∧ ys.toList = us.map Value.ref := by
      have : ∀ l ∈ ys.toList, ∃ x, l = Value.ref x := fun l hl => by
        obtain ⟨x, _, rfl⟩ := List.mem_map.mp (pl.mem_iff.mp hl)
        exact ⟨x, rfl⟩
      refine ⟨ys.toList.map (fun v => match v with | .ref x => x | _ => 0), ?_, ?_⟩
      · have q2 := pl.map (fun v => match v with | .ref x => x | _ => 0)
        rw [List.map_map] at q2
        refine q2.trans (List.Perm.of_eq ?_)
        exact List.map_id _
      · rw [List.map_map]
        conv => lhs; rw [← List.map_id ys.toList]
        refine List.map_congr_left fun l hl => ?_
        obtain ⟨x, rfl⟩ := this l hl
        rfl
    have ey : ys = (us.map Value.ref).toArray := by rw [← eu]
    subst ey
    have lu : us.length = ts.length := pu.length_eq
    refine ⟨.ref t, upd H a (.lst (us.map V.ref)), ?_, rfl, q us pu (heap_vw.mpr hh)⟩
    exact I.write (x := a) (e := a) (by rw [hH]; exact trivial) (.inl rfl) (fun b' u hb hu => (sb.2 b' hb).trans hu) ⟨_, e'⟩ ⟨by rw [List.length_map]; omega, us.map Value.ref, n', vals_refs us, e'⟩
end
end Vf
end
section
set_option Elab.async false
set_option linter.all false
set_option maxRecDepth 100000
set_option maxHeartbeats 4000000
/-! Own layer: dict comprehensions over any walk. -/
namespace Vf
open PySem PySem.Spec PyProof.Rows L2 GxR GenW RZ
section
variable {J : It} {n : Nat} {G : Hp → Prop} {Y : Nat → Hp → V → Hp → Prop}
/-- the entries that a dict comprehension over a walk leaves, by an invariant of its turns -/
theorem dc_it (wk : Walk J n G Y) {g : TG} {tt : TT} {tk tv : TE} {ws : List Nat} {σ : L2.St} {H1 : Hp} {D : Addr} {Qd : Hp → Prop} (Pv : Nat → Hp → Prop) (start : Pv 0 (upd H1 D (.dK []))) (stand : ∀ i H, i ≤ n → Pv i H → G H)
    (turn : ∀ i x H H', i < n → Pv i H → Y i H x H' → g x (wipe σ ws) H' fun σ2 H2 => wipe σ2 ws = wipe σ ws ∧ tt σ2 H2 fun b H3 =>
      if b = true then tk σ2 H3 fun y H4 => tv σ2 H4 fun z H5 => ∃ kvs k, y = kV k ∧ H5 D = some (.dK kvs) ∧ kvs.length < sizeLine ∧ Pv (i + 1) (upd H5 D (.dK (putK kvs k z))) else Pv (i + 1) H3) (leave : ∀ H, Pv n H → Qd H) :
    ∃ W : Nat → Nat → Hp → Prop, (∃ m, W 0 m (upd H1 D (.dK []))) ∧ ∀ i m H, W i m H →
      (J.stop i H ∧ Qd H) ∨ (J.go i H ∧ ∃ Nx : Hp → Prop, (∀ H', Nx H' → ∃ m', m' < m ∧ W (i + 1) m' H') ∧ ∀ x H', J.yld i H x H' → g x (wipe σ ws) H' fun σ2 H2 => wipe σ2 ws = wipe σ ws ∧ tt σ2 H2 fun b H3 =>
        if b = true then tk σ2 H3 fun y H4 => tv σ2 H4 fun z H5 => ∃ kvs k, y = kV k ∧ H5 D = some (.dK kvs) ∧ kvs.length < sizeLine ∧ Nx (upd H5 D (.dK (putK kvs k z))) else Nx H3) := by
  refine ⟨fun i m H => (m = n - i ∧ i ≤ n) ∧ Pv i H, ⟨n, ⟨by omega, Nat.zero_le n⟩, start⟩, ?_⟩
  rintro i m H ⟨⟨rfl, le⟩, inv⟩
  have stands := stand i H le inv
  rcases Nat.lt_or_ge i n with lt | ge
  · exact .inr ⟨wk.goes i H lt stands, Pv (i + 1), fun H' inv' => ⟨n - (i + 1), by omega, ⟨rfl, lt⟩, inv'⟩, fun x H' y => turn i x H H' lt inv (wk.yields i H x H' lt stands y)⟩
  · obtain rfl : i = n := Nat.le_antisymm le ge
    exact .inl ⟨wk.stops H stands, leave H inv⟩
end
end Vf
end
section
set_option Elab.async false
set_option linter.all false
set_option maxRecDepth 100000
set_option maxHeartbeats 4000000
/-! Own layer: y = {k: v for ..} whose own name is a name of the def too. -/
namespace Vf
open PySem PySem.Spec PyProof.Rows L2 GxR GenW RZ
/-- in the block of a comprehension -/
abbrev InBlk (X : Cx) (sc : Scope) (p : Cx → Prop) : Prop := ∀ (s : Shared) (H : Hp) (C : Addr) (cl : List (Str × Addr)) (fp : List Addr), p (X.blk s H sc (compEnvC sc cl C X.env) fp)
theorem sw_trueD {kx vx : Expr} {gens : List Comprehension} {sc : Scope} {pos py : Pos} {y : Str} {l : Nat} {env : Env} (isFn : env.scope.kind = .function) (isLoc : env.scope.names.lookup y = some .local) (same : (py.line == pos.line) = true)
    (free : (sc.names.any fun (n, k) => n == y && (k == .local || k == .cell)) = false) : swapsWith (.DictComp kx vx gens sc pos) (some (.Name y py)) l env = pure true := by
  have k1 : env.kindOf y = some .local := isLoc
  have k2 : env.blockKind = .function := by
    unfold Env.blockKind
    rw [isFn]; rfl
  unfold swapsWith
  simp only [k2, k1, free, Expr.pos, same]
  rfl
section
variable {X : Cx}
theorem ps_setDc {i : Nat} {y : Str} {py : Pos} {kx vx tg iter : Expr} {ifs : List Expr} {sc : Scope} {own : List (Str × Nat)} {pos sp : Pos} {wi : TI} {g : TG} {tt : TT} {tk tv : TE} (calm : X.calm = true) (nd : X.N.Nodup) (at_ : X.N[i]? = some y) (loc : X.env.scope.names.lookup y = some .local)
    (used : swapsWith (.DictComp kx vx [⟨tg, iter, ifs, 0⟩] sc pos) (some (.Name y py)) sp.line X.env = pure true) (hi : PI X tg iter wi) (ok : BlkOk X.N X.env.scope sc own)
    (hg : InBlk X sc fun Y => PG Y tg g) (ht : InBlk X sc fun Y => PTs Y ifs tt) (hk : InBlk X sc fun Y => PE Y kx tk) (hv : InBlk X sc fun Y => PE Y vx tv) (hs : ∀ x, foldedSetIterable iter X.env x = pure x := by intro _; rfl) :
    PS X (.Assign [.Name y py] (.DictComp kx vx [⟨tg, iter, ifs, 0⟩] sc pos) sp) (tAsg (tDc wi g tt tk tv (own.map (·.2))) (gName i)) := by
  refine ⟨fun pins s σ H D I h => ?_⟩
  rw [exec_Assign_Name_used _ _ _ _ used]
  refine wpAny_bind (wpAny_standAt (wpAny_bind ?_))
  have h : tDc wi g tt tk tv (own.map (·.2)) σ H (fun x H1 => gName i x σ H1 D.nx) := h
  show wpAny _ X.A (do let _ ← comprehension (.DictComp kx vx [⟨tg, iter, ifs, 0⟩] sc pos) sc X.env (firstIterPos [⟨tg, iter, ifs, 0⟩] pos) newDict false (eval iter X.env) (some (assign (.Name y py) X.env))) _ _ s
  refine wpAny_bind (thn (dc_core (Qf := fun _ s' => SP X pins D .next s') calm nd I hi ok hg ht hk hv hs h fun L C s' m H' I' q ns f => ?_) fun _ s' done => wpAny_pure (wpAny_pure done))
  show wpAny _ _ (assign (.Name y py) X.env (.ref L)) _ _ _
  refine wpAny_assign_Name (store_ok2 (v := V.ref L) I' nd at_ (.inl loc) rfl (fun s2 I2 ⟨a, sb, ha⟩ => ?_) (.inr loc))
  obtain ⟨p0, p1, p2, p3, p4, p5⟩ := f
  have ne : C ≠ a := by
    rcases ha with z | z
    · rw [z]; exact p1
    · exact fun e => p4 y a z e.symm
  exact ⟨m, ns.sameBut sb ne, fun h3 sb3 => ⟨_, H', I2.turned (t' := s2.toks) (fun b o hb e => (sb3.2 b hb).trans e) p0 p1 p3 p4 p5, q⟩⟩
end
end Vf
end
section
set_option Elab.async false
set_option linter.all false
set_option maxRecDepth 100000
set_option maxHeartbeats 4000000
/-! Own layer: min of two alike data; sorted of a list of alike tuples. -/
namespace Vf
open PySem PySem.Spec PyProof.Rows L2 PySem.SeqAt PySem.W
section
variable {prog : Program} {w : World} {A : Around} {E : Value → Shared → Prop} {s : Shared}
theorem min2_data {a b : Value} {da db : PyData} {as bs : List Addr} {Q : Value → Shared → Prop} (hh : A.handled = none) (ra : Reads s.heap a da as) (rb : Reads s.heap b db bs) (al : AlikeAll [da, db]) (hu : A.units + 1 + PyData.depthAll [da, db] < cLine)
    (h : ∀ h' tk, (∀ c o, s.heap.get? c = some o → h'.get? c = some o) → Q (if dataLt db da then b else a) { s with heap := h', toks := tk }) : wpAny (model prog w) A (call (.builtin "min") [a, b]) Q E s := by
  have nm : (toString "min" ++ toString ".loop" : String) = "min.loop" := by decide
  refine call_function_tree F.kind_min F.plain_min F.entry_min (F.args_min2 _ _) (wpAny_bind (m := Builtin.Builtins.bindParams "min" ["key", "default"] 0 ⟨[], []⟩) (wpAny_of_eq (show Builtin.Builtins.bindParams "min" ["key", "default"] 0 ⟨[], []⟩ = pure [none, none] from rfl) ?_))
  refine wpAny_bind (m := newTuple [a, b]) (wpAny_newObj_type ?_)
  have tp : (s.heap.push { cls := .type "tuple", data := .seq #[a, b] }).IsTuple s.heap.objs.size #[a, b] := ⟨_, Heap.get?_push_size _ rfl, rfl, 0, rfl⟩
  have old : ∀ c o, s.heap.get? c = some o → (s.heap.push { cls := .type "tuple", data := .seq #[a, b] }).get? c = some o := fun c o e => Heap.get?_push_of_some _ e
  have rr : ∃ cs, ReadsAll (s.heap.push { cls := .type "tuple", data := .seq #[a, b] }) (#[a, b] : Array Value).toList [da, db] cs := ⟨_, .cons (reads_keeps old ra) (.cons (reads_keeps old rb) .nil)⟩
  obtain ⟨cs, rr⟩ := rr
  refine wpAny_bind (iter_tupleW (s := { s with heap := s.heap.push { cls := .type "tuple", data := .seq #[a, b] } }) (A := A.in1) hh tp fun s₂ e W st hfp hw hk => ?_)
  refine wpAny_bind (wpAny_newObj_type ?_)
  rw [nm]
  refine wpAny_pure ⟨plainId_quiet F.plain_min_loop _, codeAny_min_loop_firstH W _ hw _ (cmpIn_lt (A := A.in1) rr al (by show A.units + 1 + _ < _; exact hu)) s₂.heap.objs.size (fun hm => Nat.lt_irrefl _ (hfp _ hm)) (fresh_in hk) _ (show 0 < 2 by decide) (fun c o q => Heap.get?_push_of_some _ (hk c o q)) (W.frame 0 s₂ _ s₂.toks st (Nat.le_refl _) fun c _ o q => Heap.get?_push_of_some _ q) (Heap.get?_push_size _ rfl) fun v s' hP hm => ?_⟩
  obtain ⟨h', tk, rfl, hk'⟩ := moved_old (s := { s with heap := s.heap.push { cls := .type "tuple", data := .seq #[a, b] } }) e rfl (Moved.drop_new (tk := s₂.toks) hm (Nat.le_refl _))
  have q := h h' tk fun c o e => hk' c o (old c o e)
  have ev : v = if dataLt db da then b else a := by
    cases hc : dataLt db da <;> simp [argBest, hc] at hP <;> simp [hP]
  rw [ev]; exact q
end
/-- min(x, y) of two alike data -/
def rMin2 (K : PySem.W.Frag) : List V → Hp → VK → Prop := fun vs H Q => ∃ (x y : V) (d e : PyData), vs = [x, y] ∧ Dp K H x d ∧ Dp K H y e ∧ AlikeAll [d, e] ∧ PyData.depthAll [d, e] ≤ 50 ∧ Q (if dataLt e d then y else x) H
section
variable {X : Cx}
theorem cr_min2 (hc : X.calm = true) (hu : X.A.units + 64 < cLine) : CallR X (.builtin "min") (rMin2 X.K) := by
  intro pins s σ H vs us Q I r h
  obtain ⟨x, y, d, e, rfl, hx, hy, al, dp, q⟩ := h
  obtain ⟨u1, u2, rfl, r1, r2⟩ := vals2 r
  obtain ⟨as, ra⟩ := Dp.reads I _ _ _ hx r1
  obtain ⟨bs, rb⟩ := Dp.reads I _ _ _ hy r2
  refine min2_data (I.ok.hd hc) ra rb al (by omega) fun h' tk hk => ?_
  have I2 : Inv X pins σ H { s with heap := h', toks := tk } := I.kept hk
  cases z : dataLt e d with
  | true =>
    rw [z] at q
    exact ⟨y, H, I2, r2, q⟩
  | false =>
    rw [z] at q
    exact ⟨x, H, I2, r1, q⟩
end
end Vf
end
section
set_option Elab.async false
set_option linter.all false
set_option maxRecDepth 100000
set_option maxHeartbeats 4000000
/-! Own layer: sorted of a list of alike tuples. -/
namespace Vf
open PySem PySem.Spec PyProof.Rows L2 PySem.SeqAt PySem.W
/-- sorted(xs), the things of xs tuples that are alike -/
def rSortD (K : PySem.W.Frag) : List V → Hp → VK → Prop := fun vs H Q => ∃ (a : Addr) (ts : List Addr) (D : Addr → PyData), vs = [.ref a] ∧ SqL K H a (ts.map V.ref) ∧ ts.length ≤ 10000 ∧
  (∀ x ∈ ts, Dp K H (.ref x) (D x) ∧ (D x).depth ≤ 50 ∧ ∃ y r, D x = .tuple (y :: r)) ∧ (∀ x ∈ ts, ∀ y ∈ ts, alike (D x) (D y) = true) ∧
  ∀ (us : List Addr) (p : Addr), us.Perm ts → us.Pairwise (fun x y => dataLt (D y) (D x) = false) → H p = none → Q (.ref p) (upd H p (.lst (us.map V.ref)))
theorem eachIs_refs {R : Value → Addr → Prop} (hR : ∀ v b, R v b → v = .ref b) : ∀ {vs : List Value} {bs : List Addr}, EachIs R vs bs → vs = bs.map Value.ref
  | _, _, .nil => rfl
  | _, _, .cons h1 h2 => by rw [hR _ _ h1, eachIs_refs hR h2]; rfl
theorem refs_eachIs {R : Value → Addr → Prop} : ∀ {bs : List Addr}, (∀ b ∈ bs, R (.ref b) b) → EachIs R (bs.map Value.ref) bs
  | [], _ => .nil
  | b :: bs, h => .cons (h b List.mem_cons_self) (refs_eachIs fun x hx => h x (List.mem_cons_of_mem _ hx))
section
variable {X : Cx}
theorem cr_sortD (hc : X.calm = true) (hu : X.A.units + 64 < cLine) : CallR X (.builtin "sorted") (rSortD X.K) := by
  intro pins s σ H vs us Q I r h
  obtain ⟨a, ts, D, rfl, hs, hz, hd, hal, q⟩ := h
  obtain ⟨its, rv, hl, _⟩ := I.list hs
  rw [Vals.ref1 r]
  obtain rfl := refs_of rv
  refine sorted_data (R := fun v b => v = .ref b) (enc := D) (bs := ts) hl.isList (refs_eachIs fun b _ => rfl) (refs_eachIs fun b hb => Dp.reads I _ _ _ (hd b hb).1 (show RelV (.ref b) (.ref b) from rfl)) (fun d hd' d' hd'' => ?_) (.inl fun d hd' => ?_) (by rw [sizeLine_eq]; omega) (fun b hb => by have := (hd b hb).2.1; omega) fun out ol e => ?_
  · obtain ⟨x, hx, rfl⟩ := List.mem_map.mp hd'
    obtain ⟨y, hy, rfl⟩ := List.mem_map.mp hd''
    exact hal x hx y hy
  · obtain ⟨x, hx, rfl⟩ := List.mem_map.mp hd'
    exact (hd x hx).2.2
  · have eo := eachIs_refs (fun v b h => h) e
    have pm : (ts.mergeSort (dataLe false D)).Perm ts := List.mergeSort_perm _ _
    have sr : (ts.mergeSort (dataLe false D)).Pairwise (fun x y => dataLt (D y) (D x) = false) := by
      have q := List.pairwise_mergeSort (le := dataLe false D) (fun x y z h1 h2 => ?_) (fun x y => ?_) ts
      · refine q.imp fun {x y} h => ?_
        rw [dataLe_eq] at h
        simpa using h
      · rw [dataLe_eq] at h1 h2 ⊢
        have h1 : dataLt (D y) (D x) = false := by simpa using h1
        have h2 : dataLt (D z) (D y) = false := by simpa using h2
        show (!dataLt (D z) (D x)) = true
        rw [dataLt_neg h2 h1]; rfl
      · rw [dataLe_eq]
        show (!dataLt (D y) (D x) || !dataLt (D x) (D y)) = true
        cases h : dataLt (D y) (D x) with
        | false => rfl
        | true => rw [dataLt_asym h]; rfl
    generalize ts.mergeSort (dataLe false D) = us at eo pm sr
    subst eo
    obtain ⟨ep, he⟩ := sortedAll_at s.heap (ts.map Value.ref) (us.map Value.ref).toArray
    have hlen : (us.map V.ref).length ≤ sizeLine := by rw [List.length_map, pm.length_eq, sizeLine_eq]; omega
    exact ⟨.ref _, upd H (s.heap.objs.size + 1) (.lst (us.map V.ref)), I.laid (t' := s.toks) (fun _ _ => sortedAll_old) (Nat.le_succ _) ⟨hlen, _, ep, vals_refs us, he⟩, rfl, q us _ pm sr (I.hok.fresh (Nat.le_succ _))⟩
end
end Vf
end
section
set_option Elab.async false
set_option linter.all false
set_option maxRecDepth 100000
set_option maxHeartbeats 8000000
/-! Own layer: sorted(d.items()), the values alike. -/
namespace Vf
open PySem PySem.Spec PyProof.Rows L2 PySem.SeqAt PySem.W PySem.Calls
section
variable {fs ex : List Addr} {H Hn : Hp} {h h' : Heap}
theorem Un.many (k : ∀ b u, h.get? b = some u → h'.get? b = some u) (f1 : ∀ b o, H b = some o → Hn b = some o) (f2 : ∀ b o, h.get? b = some o → H b = none → Hn b = none) : Un fs ex H Hn h h' where
  keep := fun b u q _ _ _ => k b u q
  slot := fun b u q _ _ _ => ⟨u.slots, k b u q⟩
  free := fun b u q n _ => f2 b u q n
  there := fun b u q _ => ⟨u, k b u q⟩
  tups := fun b xs q => f1 b _ q
  frzs := fun b u xs q => f1 b _ q
  tbls := fun b ps q => ⟨#[], by rw [f1 b _ q]; simp⟩
theorem HOk.many {P : Program} {w : World} (x : HOk P w H h) (k : ∀ b u, h.get? b = some u → h'.get? b = some u) (f1 : ∀ b o, H b = some o → Hn b = some o) (new : ∀ b u, Hn b = some u → H b = some u ∨ ObjOk P w Hn h' b u) : HOk P w Hn h' := fun b u e => by
  rcases new b u e with q | q
  · exact (x b u q).stay (fun c v _ r => k c v r) (fun c r => f1 c _ r) fun c xs r => f1 c _ r
  · exact q
end
theorem paired_at {α β : Type} {F : α → β → Prop} : ∀ {l₁ : List α} {l₂ : List β}, Paired F l₁ l₂ → ∀ {j : Nat} {a : α} {b : β}, l₁[j]? = some a → l₂[j]? = some b → F a b
  | _, _, .nil, j, a, b, h, _ => by simp at h
  | _, _, .cons h1 h2, 0, a, b, h, h' => by cases h; cases h'; exact h1
  | _, _, .cons h1 h2, j + 1, a, b, h, h' => paired_at h2 (by simpa using h) (by simpa using h')
abbrev It := Str × V × PyData
def itD (q : It) : PyData := .tuple [.str q.1, q.2.2]
/-- a heap with a tuple for each item -/
def layI (H : Hp) (as : List Addr) (ks : List It) : Hp := fun b => match (as.zip ks).find? (fun p => decide (p.1 = b)) with
  | some p => some (.tup [.str p.2.1, p.2.2.1])
  | none => H b
theorem layI_no {H : Hp} {as : List Addr} {ks : List It} {b : Addr} (h : b ∉ as) : layI H as ks b = H b := by
  unfold layI
  have e : (as.zip ks).find? (fun p => decide (p.1 = b)) = none := List.find?_eq_none.mpr fun p hp z => h (by
    have := (List.of_mem_zip hp).1
    rw [of_decide_eq_true z] at this
    exact this)
  rw [e]
theorem layI_at {H : Hp} {as : List Addr} {ks : List It} (nd : as.Nodup) {p : Addr × It} (h : p ∈ as.zip ks) : layI H as ks p.1 = some (.tup [.str p.2.1, p.2.2.1]) := by
  unfold layI
  cases e : (as.zip ks).find? (fun q => decide (q.1 = p.1)) with
  | none =>
    have := List.find?_eq_none.mp e p h
    simp at this
  | some q =>
    have h1 := List.mem_of_find?_eq_some e
    have h2 : q.1 = p.1 := by simpa using List.find?_some e
    have h3 : q = p := by
      obtain ⟨i, hi, ei⟩ := List.mem_iff_getElem.mp h1
      obtain ⟨j, hj, ej⟩ := List.mem_iff_getElem.mp h
      rw [List.length_zip] at hi hj
      rw [List.getElem_zip] at ei ej
      have e2 : as[i]'(by omega) = as[j]'(by omega) := by rw [← ei, ← ej] at h2; exact h2
      have := nodup_at nd (List.getElem?_eq_getElem (show i < as.length by omega)) (by rw [List.getElem?_eq_getElem (show j < as.length by omega), e2])
      subst this
      rw [← ei, ← ej]
    rw [h3]
theorem eachIs_map {β : Type} {R : Value → β → Prop} (f : β → Value) : ∀ {bs : List β}, (∀ b ∈ bs, R (f b) b) → EachIs R (bs.map f) bs
  | [], _ => .nil
  | b :: bs, h => .cons (h b List.mem_cons_self) (eachIs_map f fun x hx => h x (List.mem_cons_of_mem _ hx))
theorem eachIs_mapI {β : Type} {R : Value → β → Prop} (f : β → Value) (hR : ∀ v b, R v b → v = f b) : ∀ {vs : List Value} {bs : List β}, EachIs R vs bs → vs = bs.map f
  | _, _, .nil => rfl
  | _, _, .cons h1 h2 => by rw [hR _ _ h1, eachIs_mapI f hR h2]; rfl
theorem sorted_dataLe {β : Type} (D : β → PyData) (ts : List β) : (ts.mergeSort (dataLe false D)).Pairwise (fun x y => dataLt (D y) (D x) = false) := by
  have q := List.pairwise_mergeSort (le := dataLe false D) (fun x y z h1 h2 => ?_) (fun x y => ?_) ts
  · refine q.imp fun {x y} h => ?_
    rw [dataLe_eq] at h
    simpa using h
  · rw [dataLe_eq] at h1 h2 ⊢
    have h1 : dataLt (D y) (D x) = false := by simpa using h1
    have h2 : dataLt (D z) (D y) = false := by simpa using h2
    show (!dataLt (D z) (D x)) = true
    rw [dataLt_neg h2 h1]; rfl
  · rw [dataLe_eq]
    show (!dataLt (D y) (D x) || !dataLt (D x) (D y)) = true
    cases h : dataLt (D y) (D x) with
    | false => rfl
    | true => rw [dataLt_asym h]; rfl
def tSortItems (K : PySem.W.Frag) (td : TE) : TE := fun σ H Q => td σ H fun x H1 => ∃ (d : Addr) (ks : List It), x = .ref d ∧ H1 d = some (.dK (ks.map fun q => ((Sum.inr q.1 : Key), q.2.1))) ∧ ks.length ≤ 10000 ∧
  (∀ q ∈ ks, (∀ H', Gr H1 H' → Dp K H' q.2.1 q.2.2) ∧ q.2.2.depth ≤ 40 ∧ noLst q.2.2 = true ∧ PyData.plain q.2.2 = true) ∧ (∀ q ∈ ks, ∀ q' ∈ ks, alike q.2.2 q'.2.2 = true) ∧
  ∀ (us : List (Addr × It)) (p : Addr) (H2 : Hp), (us.map (·.2)).Perm ks → us.Pairwise (fun x y => dataLt (itD y.2) (itD x.2) = false) → Gr H1 H2 → (∀ u ∈ us, H2 u.1 = some (.tup [.str u.2.1, u.2.2.1])) → H2 p = some (.lst (us.map fun u => .ref u.1)) → Q (.ref p) H2
section
variable {X : Cx}
theorem pe_sortItems {K : PySem.W.Frag} {e : Expr} {te : TE} {p pos apos cpos : Pos} (hK : X.K = K) (hc : X.calm = true) (hu : X.A.units + 64 < cLine) (hg : Gl X "sorted") (hm : X.mg "sorted" = none) (he : PE X e te) (hbs : bootBuiltins "sorted" = some (.builtin "sorted") := by decide +kernel)
    (hbase : attributeBase e "items" X.env (eval e X.env) = eval e X.env := by rfl) (hline : (apos.endLine == cpos.line) = true := by rfl)
    (na : starEach [(.Call (.Attribute e "items" apos) [] [] cpos : Expr)] X.env = (false, eval (.Call (.Attribute e "items" apos) [] [] cpos) X.env) :: starEach [] X.env := by rfl) :
    PE X (.Call (.Name "sorted" p) [.Call (.Attribute e "items" apos) [] [] cpos] [] pos) (tSortItems K te) := by
  subst hK
  refine ⟨fun pins s σ H Q I h => Call_ (ld_blt I hg hm hbs (PyProof.Rows.callWith_builtin1 (PyProof.Rows.args_cons ?_ na) na rfl))⟩
  refine wpAny_Call_method (T := "dict") (id := "dict.items") hbase rfl hline F.plainAttrs_dict F.slot_dict_items F.type_dict_items (thn (he.run pins s σ H _ I h) fun u s1 ⟨x, H1, I1, rx, d, ks, ex, hd, hz, hk1, hal, q⟩ => ?_)
  subst ex
  obtain rfl : u = Value.ref d := rx
  obtain ⟨z, lo, vs, rk, hda⟩ := (show ObjOk X.prog X.w H1 s1.heap d (.dK _) from I1.hok d _ hd)
  obtain ⟨ep, hm2⟩ := hda.dictAt
  have hl : ks.length = vs.length := by
    have := Paired.length rk
    rwa [List.length_map] at this
  refine ⟨hm2.dictOf.typeIs, hm2.dictOf.mapOf.noDict, ?_⟩
  have I2 : Inv X pins σ H1 { s1 with heap := s1.heap.push { cls := .type "dict_items", data := .fields #[.ref d] } } := I1.kept (t' := s1.toks) fun b ob q => Heap.get?_push_of_some _ q
  show wpAny _ _ (callWith cpos (.builtin "dict.items") [.ref d] [] []) _ X.xe s1
  refine method_meetsIn F.slot_dict_items F.entry_dict_items rfl (PySem.evalArgs_none ⟨rfl, hm2.dictOf.typeIs, F.args_dict_items_1 _, _, meets_dict_items (mixKind X.prog X.w) d lo, ⟨vs, hm2.dictOf⟩, ?_⟩)
  refine PyProof.Rows.args_nil ?_
  have zl : vs.length ≤ sizeLine := by rw [← hl, sizeLine_eq]; omega
  refine call_function_entry kind_sorted plain_sorted entry_sorted (args_sorted1 _) ?_
  unfold Builtin.«sorted»
  refine wpAny_bind (m := checkCount "sorted" 1 1 _) (wpAny_pure (wpAny_bind (kdx_collect (A := X.A.in1) (knd := mixKind X.prog X.w) (kvs := vs) (ep := ep) (I2.ok.hd hc) ⟨_, Heap.get?_push_size _ rfl, rfl, rfl⟩ (hm2.push _) zl fun h' tk as hk hlen hG => ?_)))
  have old : ∀ b o, s1.heap.get? b = some o → h'.get? b = some o := fun b o q => hk b o (Heap.get?_push_of_some _ q)
  have lo2 : ∀ b ∈ as, s1.heap.objs.size < b := fun b hb => by
    have := hG.above b hb
    rw [Heap.size_push] at this
    exact Nat.lt_of_succ_lt this
  have nold : ∀ b o, s1.heap.get? b = some o → b ∉ as := fun b o q hb => Nat.lt_irrefl _ (Nat.lt_trans (lo2 b hb) (Heap.lt_size q))
  have ndA : as.Nodup := hG.rise.imp fun h => Nat.ne_of_lt h
  have lk : as.length = ks.length := hlen.trans hl.symm
  have f1 : ∀ b o, H1 b = some o → layI H1 as ks b = some o := fun b o q => by
    rw [layI_no (fun hb => Nat.lt_irrefl _ (Nat.lt_trans (lo2 b hb) (I1.hok.lt q)))]; exact q
  have f2 : ∀ b o, s1.heap.get? b = some o → H1 b = none → layI H1 as ks b = none := fun b o e n => by
    rw [layI_no (nold b o e)]; exact n
  have new : ∀ b u, layI H1 as ks b = some u → H1 b = some u ∨ ObjOk X.prog X.w (layI H1 as ks) h' b u := fun b u e => by
    by_cases hb : b ∈ as
    · obtain ⟨j, hj, ej⟩ := List.mem_iff_getElem.mp hb
      have hjk : j < ks.length := by omega
      obtain ⟨key, k, xv, ev, ik, et⟩ := hG.pairs j b (by rw [List.getElem?_eq_getElem hj, ej])
      have hz : (b, ks[j]) ∈ as.zip ks := by
        rw [← ej]
        exact List.mem_iff_getElem.mpr ⟨j, by rw [List.length_zip]; omega, by rw [List.getElem_zip]⟩
      have e2 := layI_at (H := H1) ndA hz
      rw [e2] at e
      cases e
      refine .inr ⟨by rw [sizeLine_eq]; exact Nat.le_trans (show 2 ≤ 2 from Nat.le_refl _) (by decide), [key, xv], ?_, ?_⟩
      · have pa := paired_at rk (j := j) (a := ((Sum.inr ks[j].1 : Key), ks[j].2.1)) (b := (k, xv)) (by rw [List.getElem?_map, List.getElem?_eq_getElem hjk]; rfl) ev
        have pa1 : (Sum.inr ks[j].1 : Key) = k := pa.1
        subst pa1
        rcases keyIs_shape (show keyIs (Sum.inr ks[j].1 : Key) key = true from ik) with ⟨i, t, z, _⟩ | ⟨y, t, z, z2⟩
        · cases z
        · have z := Sum.inr.inj z
          subst z2
          exact .cons ⟨t, by rw [z]⟩ (.cons pa.2 .nil)
      · exact ⟨_, et, rfl, 0, rfl⟩
    · rw [layI_no hb] at e
      exact .inl e
  have I3 : Inv X pins σ (layI H1 as ks) { s1 with heap := h', toks := tk } := I1.un (Un.many old f1 f2) (HOk.many I1.hok old f1 new)
  have gr : Gr H1 (layI H1 as ks) := fun b o e => .inl (f1 b o e)
  refine wpAny_bind (wpAny_newList ?_ (by rw [List.length_map, lk, sizeLine_eq]; omega))
  have oL : (h'.push (seqObj "list" (as.map Value.ref).toArray 0)).get? h'.objs.size = some (seqObj "list" (as.map Value.ref).toArray 0) := Heap.get?_push_size _ rfl
  have D3 : ∀ b ∈ as.zip ks, Dp X.K (layI H1 as ks) (.ref b.1) (itD b.2) := fun b hb => by
    have mb := (List.of_mem_zip hb).2
    exact .tup (SqT.of (layI_at ndA hb)) (.cons (.str _) (.cons ((hk1 b.2 mb).1 _ gr) .nil))
  have pl : ∀ b ∈ as.zip ks, PyData.plain (itD b.2) = true ∧ noLst (itD b.2) = true ∧ (itD b.2).depth ≤ 41 := fun b hb => by
    have mb := (List.of_mem_zip hb).2
    obtain ⟨_, k2, k3, k4⟩ := hk1 b.2 mb
    refine ⟨by simp [itD, PyData.plain, PyData.plainAll, k4], by simp [itD, noLst, noLstA, k3], ?_⟩
    simp [itD, PyData.depth, PyData.depthAll]
    omega
  have hfst : (as.zip ks).map (·.1) = as := List.map_fst_zip (Nat.le_of_eq lk)
  have hsnd : (as.zip ks).map (·.2) = ks := List.map_snd_zip (Nat.le_of_eq lk.symm)
  have evs : as.map Value.ref = (as.zip ks).map fun b => Value.ref b.1 := by
    conv => lhs; rw [← hfst]
    rw [List.map_map]; rfl
  rw [evs] at oL ⊢
  refine wpAny_bind (wpAny_holding (list_sort_data (R := fun v b => v = .ref b.1) (enc := fun b : Addr × It => itD b.2) (bs := as.zip ks) oL (eachIs_map _ fun b _ => rfl) (eachIs_map _ fun b hb => ?_) (fun x hx y hy => ?_) (.inl fun x hx => ?_) ?_ (fun b hb => ?_) fun out ol eo => ?_))
  · obtain ⟨cs, r⟩ := Dp.reads I3 _ _ _ (D3 b hb) (show RelV (.ref b.1) (.ref b.1) from rfl)
    have e0 := reads_nil _ _ _ (pl b hb).1 (pl b hb).2.1 r
    subst e0
    exact ⟨[], reads_keeps (fun c o q => Heap.get?_push_of_some _ q) r, by simp⟩
  · obtain ⟨b, hb, rfl⟩ := List.mem_map.mp hx
    obtain ⟨c, hc', rfl⟩ := List.mem_map.mp hy
    have := hal b.2 (List.of_mem_zip hb).2 c.2 (List.of_mem_zip hc').2
    simp [itD, alike, alikeAll, this]
  · obtain ⟨b, hb, rfl⟩ := List.mem_map.mp hx
    exact ⟨_, _, rfl⟩
  · rw [List.length_zip, lk, Nat.min_self, sizeLine_eq]; omega
  · have := (pl b hb).2.2
    show X.A.units + 1 + 1 + _ < _
    omega
  have eo := eachIs_mapI (fun b : Addr × It => Value.ref b.1) (fun v b h => h) eo
  have pm : ((as.zip ks).mergeSort (dataLe false fun b : Addr × It => itD b.2)).Perm (as.zip ks) := List.mergeSort_perm _ _
  have sr := sorted_dataLe (fun b : Addr × It => itD b.2) (as.zip ks)
  generalize (as.zip ks).mergeSort (dataLe false fun b : Addr × It => itD b.2) = us at eo pm sr
  subst eo
  obtain ⟨c, hc'⟩ := sortedHeap_at (vs := (as.zip ks).map fun b => Value.ref b.1) (out := (us.map fun b => Value.ref b.1).toArray) oL
  have hlen : (us.map fun b : Addr × It => V.ref b.1).length ≤ sizeLine := by rw [List.length_map, pm.length_eq, List.length_zip, lk, Nat.min_self, sizeLine_eq]; omega
  have vr : Vals (us.map fun b : Addr × It => V.ref b.1) (us.map fun b => Value.ref b.1) := by
    have := vals_refs (us.map (·.1))
    rw [List.map_map, List.map_map] at this
    exact this
  have hn : layI H1 as ks h'.objs.size = none := I3.hok.fresh (Nat.le_refl _)
  refine wpAny_pure ⟨_, rfl, .ref h'.objs.size, upd (layI H1 as ks) h'.objs.size (.lst (us.map fun b => V.ref b.1)), ?_, rfl, ?_⟩
  · refine I3.laid (t' := tk) (fun b o e => ?_) (Nat.le_refl _) ⟨hlen, _, c, vr, hc'⟩
    have lt := Heap.lt_size e
    rw [sortedHeap_old (Nat.ne_of_lt lt) (by rw [Heap.size_push]; exact Nat.lt_succ_of_lt lt)]
    exact Heap.get?_push_of_some _ e
  · refine q us _ _ ?_ sr (gr.trans (Gr.new hn)) (fun u hu' => ?_) upd_same
    · have := pm.map (·.2)
      rwa [hsnd] at this
    · have mz := pm.mem_iff.mp hu'
      have e2 := layI_at (H := H1) ndA mz
      rw [upd_ne (fun z => by rw [z, hn] at e2; cases e2)]
      exact e2
end
end Vf
end
section
set_option Elab.async false
set_option linter.all false
set_option maxRecDepth 100000
set_option maxHeartbeats 8000000
/-! Own layer: list(enumerate(zip(xs, ys))) as an expression. -/
namespace Vf
open PySem PySem.Spec PyProof.Rows L2 RZ PySem.SeqAt PySem.W PySem.Calls
theorem nbr {a b : Nat} (h : a + 1 < b) : ¬ a = b ∧ ¬ a + 1 = b ∧ ¬ a = b + 1 ∧ ¬ a + 1 = b + 1 := by omega
theorem oldZ {I x y b : Nat} (h : b < I) : ¬ b ∈ (ZeA.mk (I + 5) (I + 4) (I + 2) (I + 3) I (I + 1) x y (I + 6)).wr := by
  show b ∉ [I + 5, I + 4, I + 3, I, I + 1]
  simp only [List.mem_cons, List.not_mem_nil, or_false, not_or]
  omega
theorem ltZ {b I : Nat} (h : b < I) : b ≠ I + 6 ∧ b ≤ I + 6 := by omega
theorem farZ {b s p : Nat} (h : s + 6 < p) (hb : b ≤ s + 6) : b ≠ p ∧ b ≠ p + 1 := by omega
/-- where b lies among pairs of neighbours -/
def pairAt (ps : List Addr) (b : Addr) : Option Nat := ps.findIdx? fun p => p == b || p + 1 == b
theorem pairAt_of {ps : List Addr} (r : ps.Pairwise fun p q => p + 1 < q) {j : Nat} {p : Addr} (h : ps[j]? = some p) {b : Addr} (hb : b = p ∨ b = p + 1) : pairAt ps b = some j := by
  obtain ⟨hj, ej⟩ := List.getElem?_eq_some_iff.mp h
  unfold pairAt
  rw [List.findIdx?_eq_some_iff_getElem]
  refine ⟨hj, ?_, fun i hi => ?_⟩
  · rw [ej]
    rcases hb with rfl | rfl <;> simp
  · have := List.pairwise_iff_getElem.mp r i j (by omega) hj hi
    rw [ej] at this
    simp only [Bool.or_eq_true, beq_iff_eq, not_or]
    rcases hb with rfl | rfl
    · exact ⟨(nbr this).1, (nbr this).2.1⟩
    · exact ⟨(nbr this).2.2.1, (nbr this).2.2.2⟩
theorem pairAt_some {ps : List Addr} {b : Addr} {j : Nat} (h : pairAt ps b = some j) : ∃ p, ps[j]? = some p ∧ (b = p ∨ b = p + 1) := by
  unfold pairAt at h
  rw [List.findIdx?_eq_some_iff_getElem] at h
  obtain ⟨hj, q, _⟩ := h
  refine ⟨ps[j], List.getElem?_eq_getElem hj, ?_⟩
  simp only [Bool.or_eq_true, beq_iff_eq] at q
  rcases q with q | q
  · exact .inl q.symm
  · exact .inr q.symm
/-- a heap with two tuples for each turn -/
def layZ (H : Hp) (ps : List Addr) (ks : List (V × V)) : Hp := fun b => match pairAt ps b with
  | some j => if ps.getD j 0 = b then some (.tup [(ks.getD j (.int 0, .int 0)).1, (ks.getD j (.int 0, .int 0)).2]) else some (.tup [.int j, .ref (ps.getD j 0)])
  | none => H b
theorem layZ_no {H : Hp} {ps : List Addr} {ks : List (V × V)} {b : Addr} (h : ∀ p ∈ ps, b ≠ p ∧ b ≠ p + 1) : layZ H ps ks b = H b := by
  unfold layZ
  cases e : pairAt ps b with
  | none => rfl
  | some j =>
    obtain ⟨p, hp, q⟩ := pairAt_some e
    have := h p (List.mem_of_getElem? hp)
    rcases q with q | q
    · exact absurd q this.1
    · exact absurd q this.2
theorem layZ_l {H : Hp} {ps : List Addr} {ks : List (V × V)} (r : ps.Pairwise fun p q => p + 1 < q) {j : Nat} {p : Addr} {x y : V} (h : ps[j]? = some p) (hk : ks[j]? = some (x, y)) : layZ H ps ks p = some (.tup [x, y]) := by
  unfold layZ
  rw [pairAt_of r h (.inl rfl)]
  simp [List.getD_eq_getElem?_getD, h, hk]
theorem layZ_r {H : Hp} {ps : List Addr} {ks : List (V × V)} (r : ps.Pairwise fun p q => p + 1 < q) {j : Nat} {p : Addr} (h : ps[j]? = some p) : layZ H ps ks (p + 1) = some (.tup [.int j, .ref p]) := by
  unfold layZ
  rw [pairAt_of r h (.inr rfl)]
  simp [List.getD_eq_getElem?_getD, h]
theorem zeD_of (I a b : Nat) (h1 : a < I) (h2 : b < I) : ZeD ⟨I + 5, I + 4, I + 2, I + 3, I, I + 1, a, b, I + 6⟩ := by
  refine ⟨PySem.W.ktu_apart I a b h1 h2, PySem.W.neN ?_, PySem.W.neN ?_, PySem.W.neN ?_, PySem.W.neN ?_, PySem.W.neN ?_, PySem.W.neN ?_, PySem.W.neN ?_, ?_, PySem.W.neN ?_, PySem.W.neN ?_, PySem.W.neN ?_⟩
  case refine_8 =>
    show I + 6 ∉ [I + 5, I + 4, I + 3, I, I + 1]
    simp
  all_goals (dsimp only; omega)
def tEnZip (K : PySem.W.Frag) (ta : TA) : TE := fun σ H Q => ta σ H fun vs H1 => ∃ (a b : Addr) (xs ys : List V), vs = [.ref a, .ref b] ∧ SqL K H1 a xs ∧ SqL K H1 b ys ∧ xs.length ≤ 10000 ∧
  ∀ (qs : List (Addr × Addr)) (p : Addr) (H2 : Hp), Gr H1 H2 → qs.length = min xs.length ys.length → (∀ (j : Nat) (q : Addr × Addr), qs[j]? = some q → ∃ x y, xs[j]? = some x ∧ ys[j]? = some y ∧ H2 q.1 = some (.tup [x, y]) ∧ H2 q.2 = some (.tup [.int j, .ref q.1])) → H1 p = none → H2 p = some (.lst (qs.map fun q => .ref q.2)) → Q (.ref p) H2
section
variable {X : Cx}
theorem pe_enZip {K : PySem.W.Frag} {e e2 : Expr} {ta : TA} {p p2 p3 pos pos2 pos3 : Pos} (hK : X.K = K) (hc : X.calm = true) (hg : Gl X "list") (hm : X.mg "list" = none) (hg2 : Gl X "enumerate") (hm2 : X.mg "enumerate" = none) (hg3 : Gl X "zip") (hm3 : X.mg "zip" = none) (ha : PA X [e, e2] ta)
    (hs : starEach [e, e2] X.env = (false, eval e X.env) :: starEach [e2] X.env := by rfl) (hpl : (backTo pos3 (starEach [e2] X.env)).any (·.1) = false := by rfl)
    (bl : bootBuiltins "list" = some (.type "list") := by decide +kernel) (be : bootBuiltins "enumerate" = some (.type "enumerate") := by decide +kernel)
    (n1 : starEach [(.Call (.Name "enumerate" p2) [.Call (.Name "zip" p3) [e, e2] [] pos3] [] pos2 : Expr)] X.env = (false, eval (.Call (.Name "enumerate" p2) [.Call (.Name "zip" p3) [e, e2] [] pos3] [] pos2) X.env) :: starEach [] X.env := by rfl)
    (n2 : starEach [(.Call (.Name "zip" p3) [e, e2] [] pos3 : Expr)] X.env = (false, eval (.Call (.Name "zip" p3) [e, e2] [] pos3) X.env) :: starEach [] X.env := by rfl) :
    PE X (.Call (.Name "list" p) [.Call (.Name "enumerate" p2) [.Call (.Name "zip" p3) [e, e2] [] pos3] [] pos2] [] pos) (tEnZip K ta) := by
  subst hK
  refine ⟨fun pins s σ H Q I h => ?_⟩
  refine Call_ (ld_blt I hg hm bl ?_)
  refine PyProof.Rows.callWith_type1 (PyProof.Rows.args_cons ?_ n1) n1 rfl
  refine Call_ (ld_blt I hg2 hm2 be ?_)
  refine PyProof.Rows.callWith_type1 (PyProof.Rows.args_cons ?_ n2) n2 rfl
  refine Call_ (ld_blt I hg3 hm3 PyProof.Rows.boot_zip (PyProof.Rows.callWith_type1 (thn (ha.run pos3 pins s σ H _ I h) fun us s1 ⟨vs, H1, I1, r1, q1⟩ => ?_) hs hpl))
  obtain ⟨a, b, xs, ys, ex, hqx, hqy, hxl, q⟩ := q1
  subst ex
  cases r1 with
  | cons r rr =>
  cases rr with
  | cons r' rr =>
  cases rr
  cases r
  cases r'
  obtain ⟨its, rv, p1, _⟩ := I1.list hqx
  obtain ⟨its2, rv2, p2, _⟩ := I1.list hqy
  refine call_zip_2 p1.isList p2.isList fun h1 hz hTI hTO hi1 hi2 hsz hk => ?_
  refine PyProof.Rows.args_nil ?_
  refine call_enum_zip (s := { s1 with heap := h1 }) hz fun h2 he hsz2 hk2 => ?_
  refine PyProof.Rows.args_nil ?_
  dsimp only at he hsz2 hk2 ⊢
  rw [hsz] at he hsz2 ⊢
  have l1 := p1.lt
  have l2 := p2.lt
  let A : ZeA := ⟨s1.heap.objs.size + 5, s1.heap.objs.size + 4, s1.heap.objs.size + 2, s1.heap.objs.size + 3, s1.heap.objs.size, s1.heap.objs.size + 1, a, b, s1.heap.objs.size + 6⟩
  have D : ZeD A := zeD_of _ a b l1 l2
  have k2 : ∀ c o, s1.heap.get? c = some o → h2.get? c = some o := fun c o e => hk2 _ _ (hk c o e)
  have zs : min its.toArray.size its2.toArray.size = min xs.length ys.length := by
    have e1 := rv.length
    have e2 := rv2.length
    rw [List.size_toArray, List.size_toArray, e1, e2]
  have eS : A.S = h2.objs.size := by rw [hsz2]
  refine zl_call (s := { s1 with heap := h2 }) (a := A) (xs := its.toArray) (ys := its2.toArray) (I1.ok.hd hc) D eS (hk2 _ _ hTI) (hi1.at fun o e => hk2 _ o e) (hi2.at fun o e => hk2 _ o e) (p1.isList.at fun o e => k2 _ o e) (p2.isList.at fun o e => k2 _ o e) (hk2 _ _ hz) ⟨_, _, hk2 _ _ hTO⟩ ⟨_, he⟩ (by rw [zs, sizeLine_eq]; omega) fun h' tk acc c ps kw hS hl hG hacc => ?_
  dsimp only at kw hS ⊢
  rw [zs] at hl
  have old : ∀ b o, s1.heap.get? b = some o → h'.get? b = some o := fun b o e => kw b o (fun m => by
    have := Heap.lt_size e
    exact oldZ this m) (k2 b o e)
  have above : ∀ p ∈ ps, s1.heap.objs.size + 6 < p := fun p hp => by
    have := hG.above p hp
    rw [hsz2] at this
    exact this
  have nold : ∀ b, (∃ p ∈ ps, b = p ∨ b = p + 1) → s1.heap.objs.size + 6 < b := fun b ⟨p, hp, q⟩ => by
    have := above p hp
    rcases q with rfl | rfl <;> omega
  have out : ∀ {b : Addr}, b ≤ s1.heap.objs.size + 6 → ∀ p ∈ ps, b ≠ p ∧ b ≠ p + 1 := fun {b} hb p hp => by
    exact farZ (above p hp) hb
  have lxy : ∀ {j : Nat} {p : Addr}, ps[j]? = some p → ∃ x y u v, xs[j]? = some x ∧ ys[j]? = some y ∧ its[j]? = some u ∧ its2[j]? = some v ∧ RelV x u ∧ RelV y v := fun {j p} hj => by
    have hlt : j < min xs.length ys.length := by rw [← hl]; exact (List.getElem?_eq_some_iff.mp hj).1
    have hx : xs[j]? = some (xs[j]'(by omega)) := List.getElem?_eq_getElem _
    have hy : ys[j]? = some (ys[j]'(by omega)) := List.getElem?_eq_getElem _
    obtain ⟨u, hu, ru⟩ := rv.get hx
    obtain ⟨v, hv, ru2⟩ := rv2.get hy
    exact ⟨_, _, u, v, hx, hy, hu, hv, ru, ru2⟩
  have nS1 : H1 A.S = none := I1.hok.fresh (by show s1.heap.objs.size ≤ s1.heap.objs.size + 6; omega)
  have vr : Vals (ps.map fun p => V.ref (p + 1)) (ps.map fun p => Value.ref (p + 1)) := by
    have := vals_refs (ps.map (· + 1))
    rw [List.map_map, List.map_map] at this
    exact this
  have accE : acc = (ps.map fun p => Value.ref (p + 1)).toArray := by rw [← hacc]
  let Hn : Hp := upd (layZ H1 ps (xs.zip ys)) A.S (.lst (ps.map fun p => V.ref (p + 1)))
  have hn0 : ∀ b, b < s1.heap.objs.size → Hn b = H1 b := fun b hb => by
    show upd _ A.S _ b = _
    rw [upd_ne (ltZ hb).1, layZ_no (out (ltZ hb).2)]
  have hnl : ∀ {j : Nat} {p : Addr} {x y : V}, ps[j]? = some p → xs[j]? = some x → ys[j]? = some y → Hn p = some (.tup [x, y]) ∧ Hn (p + 1) = some (.tup [.int j, .ref p]) := fun {j p x y} hj hx hy => by
    have ne := out (b := A.S) (Nat.le_refl _) p (List.mem_of_getElem? hj)
    refine ⟨?_, ?_⟩
    · show upd _ A.S _ p = _
      rw [upd_ne (Ne.symm ne.1)]
      exact layZ_l hG.rise hj (List.getElem?_zip_eq_some.mpr ⟨hx, hy⟩)
    · show upd _ A.S _ (p + 1) = _
      rw [upd_ne (Ne.symm ne.2)]
      exact layZ_r hG.rise hj
  have f1 : ∀ b o, H1 b = some o → Hn b = some o := fun b o e => by
    rw [hn0 b (I1.hok.lt e)]; exact e
  have f2 : ∀ b o, s1.heap.get? b = some o → H1 b = none → Hn b = none := fun b o e n => by
    rw [hn0 b (Heap.lt_size e)]; exact n
  have new : ∀ b u, Hn b = some u → H1 b = some u ∨ ObjOk X.prog X.w Hn h' b u := fun b u e => by
    by_cases hb : ∃ p ∈ ps, b = p ∨ b = p + 1
    · obtain ⟨p, hp, q⟩ := hb
      obtain ⟨j, hj⟩ := List.mem_iff_getElem?.mp hp
      obtain ⟨u1, v1, t, e1, e2, e3, e4⟩ := hG.at_ j p hj
      obtain ⟨x, y, u2, v2, hx, hy, hu, hv, ru, rv'⟩ := lxy hj
      have e1 : its[j]? = some u1 := by simpa using e1
      have e2 : its2[j]? = some v1 := by simpa using e2
      rw [hu] at e1
      rw [hv] at e2
      obtain rfl := Option.some.inj e1
      obtain rfl := Option.some.inj e2
      obtain ⟨t1, t2⟩ := hnl hj hx hy
      rcases q with rfl | rfl
      · rw [t1] at e
        cases e
        exact .inr ⟨by show 2 ≤ sizeLine; decide, [_, _], .cons ru (.cons rv' .nil), ⟨_, e3, rfl, _, rfl⟩⟩
      · rw [t2] at e
        cases e
        exact .inr ⟨by show 2 ≤ sizeLine; decide, [.int j t, .ref p], .cons ⟨t, rfl⟩ (.cons rfl .nil), ⟨_, e4, rfl, _, rfl⟩⟩
    · by_cases hS' : b = A.S
      · subst hS'
        have e : Hn A.S = some u := e
        rw [show Hn A.S = _ from upd_same] at e
        cases e
        exact .inr ⟨by rw [List.length_map, hl, sizeLine_eq]; omega, _, c, vr, by rw [hS, accE]⟩
      · rw [show Hn b = _ from upd_ne hS', layZ_no fun p hp => ⟨fun e => hb ⟨p, hp, .inl e⟩, fun e => hb ⟨p, hp, .inr e⟩⟩] at e
        exact .inl e
  have I3 : Inv X pins σ Hn { s1 with heap := h', toks := tk } := I1.un (Un.many old f1 f2) (HOk.many I1.hok old f1 new)
  have gr : Gr H1 Hn := fun b o e => .inl (f1 b o e)
  refine ⟨.ref A.S, Hn, I3, rfl, q (ps.map fun p => (p, p + 1)) A.S Hn gr (by rw [List.length_map, hl]) (fun j q hq => ?_) nS1 (by show upd _ A.S _ A.S = _; rw [upd_same, List.map_map]; rfl)⟩
  rw [List.getElem?_map] at hq
  obtain ⟨p, hp, rfl⟩ := Option.map_eq_some_iff.mp hq
  obtain ⟨x, y, _, _, hx, hy, _⟩ := lxy hp
  exact ⟨x, y, hx, hy, hnl hp hx hy⟩
end
end Vf
end
section
set_option Elab.async false
set_option linter.all false
set_option maxRecDepth 100000
set_option maxHeartbeats 8000000
/-! Own layer: the set of a list of texts, sorted. -/
namespace Vf
open PySem PySem.Spec PyProof.Rows L2 GxR GenW
def keyT (e : Int × Value) : Str := match e.2 with
  | .str x _ => x
  | _ => Str.empty
def GoodT (P : Program) (w : World) (e : Int × Value) : Prop := ∃ (x : Str) (tk : Tok), e.2 = .str x tk ∧ e.1 = (PySem.strKind P w).hash x
/-- a set of texts: those of ks -/
def SetT (P : Program) (w : World) (h : Heap) (a : Addr) (ks : List Str) : Prop :=
  ∃ o es ep t, h.get? a = some o ∧ o.ExactSet ∧ o.data = .set es ep t ∧ (∀ e ∈ es.toList, GoodT P w e) ∧ (es.toList.map keyT).Nodup ∧ (∀ k, k ∈ es.toList.map keyT ↔ k ∈ ks) ∧
    es.size < scanBound ∧ t.fits es.size = true ∧ Ris t.place.toList ∧ (w.params.followText "set-order" = true ∨ t.led = true)
section
variable {P : Program} {w : World} {A : Around} {E : Value → Shared → Prop} {s : Shared} {a : Addr} {ks : List Str}
theorem goodT_elems {l : List (Int × Value)} (g : ∀ e ∈ l, GoodT P w e) : ElemsOf (PySem.strKind P w) l := fun e he => by
  obtain ⟨x, tk, h1, h2⟩ := g e he
  exact ⟨⟨x, by rw [h1]; exact strKind_is P w x tk, h2⟩, by rw [h1]; rfl⟩
theorem goodT_is {e : Int × Value} (g : GoodT P w e) (k : Str) : (PySem.strKind P w).is k e.2 = true ↔ keyT e = k := by
  obtain ⟨x, tk, h1, _⟩ := g
  unfold keyT
  rw [h1]
  show ((x == k) = true) ↔ x = k
  exact beq_iff_eq
theorem SetT.mono {h h' : Heap} (R : SetT P w h a ks) (k : ∀ o, h.get? a = some o → h'.get? a = some o) : SetT P w h' a ks := by
  obtain ⟨o, es, ep, t, ho, r⟩ := R
  exact ⟨o, es, ep, t, k o ho, r⟩
theorem setT_tail {g : Bool → Sem Unit} (hg : ∀ (b : Bool) (s₁ : Shared) (Q' : Unit → Shared → Prop), Q' () s₁ → wpAny (model P w) A (g b) Q' E s₁) {o : Obj} {es : Array (Int × Value)} {ep : Nat} {t : SetTable} (ho : s.heap.get? a = some o) (hex : o.ExactSet) (hd : o.data = .set es ep t)
    {es1 : Array (Int × Value)} {t2 : SetTable} {ks' : List Str} (g1 : ∀ e ∈ es1.toList, GoodT P w e) (nd1 : (es1.toList.map keyT).Nodup) (m1 : ∀ k, k ∈ es1.toList.map keyT ↔ k ∈ ks') (hb1 : es1.size < scanBound) (hf2 : t2.fits es1.size = true) (hr : Ris t2.place.toList) (hl : w.params.followText "set-order" = true ∨ t2.led = true) {wasDummy : Bool} {R : Option Bool → Shared → Prop}
    (hR : ∀ h', Heap.SameBut a s.heap h' → SetT P w h' a ks' → R (some true) { s with heap := h' }) :
    wpAny (model P w) A (do storeSet a es1 t2; if (!wasDummy && t2.tooFull) = true then do { g (relayAll t2 es1 (SetTable.grown es1.size)).2.2; storeSet a (relayAll t2 es1 (SetTable.grown es1.size)).1 (relayAll t2 es1 (SetTable.grown es1.size)).2.1; pure (some true) } else pure (some true)) R E s := by
  refine wpAny_bind (wpAny_storeSet_of ho hd ?_ (fits_of_scanBound hb1))
  have at1 := store_at (es' := es1) (t' := t2) ho hd
  have sb := Heap.SameBut.update s.heap a (Obj.putSet es1 t2)
  split
  · have p1 := relayAll_perm t2 es1 (SetTable.grown es1.size)
    have p2 := relayAll_fits t2 es1 (SetTable.grown es1.size)
    have p3 := relayAll_ris t2 es1 (SetTable.grown es1.size)
    have p4 := relayAll_led t2 es1 (SetTable.grown es1.size)
    generalize relayAll t2 es1 (SetTable.grown es1.size) = Z at p1 p2 p3 p4 ⊢
    obtain ⟨es2, t3, gave⟩ := Z
    have p1 : es2.toList.Perm es1.toList := p1
    have sz : es2.size = es1.size := by rw [← Array.length_toList, p1.length_eq, Array.length_toList]
    have b2 : es2.size < scanBound := by rw [sz]; exact hb1
    refine wpAny_bind (hg _ _ _ (wpAny_bind (wpAny_storeSet_of at1 rfl (wpAny_pure (hR _ (sb.trans (Heap.SameBut.update _ a _)) ?_)) (fits_of_scanBound b2))))
    exact ⟨_, es2, _, t3, store_at (es' := es2) (t' := t3) at1 rfl, hex, rfl, fun e he => g1 e (p1.mem_iff.mp he), (p1.map keyT).nodup_iff.mpr nd1, fun k => (p1.map keyT).mem_iff.trans (m1 k), b2, p2, p3, hl.imp id fun z => p4.trans z⟩
  · exact wpAny_pure (hR _ sb ⟨_, es1, _, t2, at1, hex, rfl, g1, nd1, m1, hb1, hf2, hr, hl⟩)
theorem SetT.size {h : Heap} {o : Obj} {es : Array (Int × Value)} (nd : (es.toList.map keyT).Nodup) (hm : ∀ k, k ∈ es.toList.map keyT ↔ k ∈ ks) : es.size ≤ ks.length := by
  have key : ∀ {l m : List Str}, l.Nodup → (∀ x ∈ l, x ∈ m) → l.length ≤ m.length := by
    intro l
    induction l with
    | nil => intro m _ _; exact Nat.zero_le _
    | cons x l ih =>
      intro m nd h
      obtain ⟨n1, n2⟩ := List.nodup_cons.mp nd
      obtain ⟨u, v, e⟩ := List.append_of_mem (h x List.mem_cons_self)
      have q := ih (m := u ++ v) n2 fun y hy => by
        have := h y (List.mem_cons_of_mem _ hy)
        rw [e] at this
        rcases List.mem_append.mp this with z | z
        · exact List.mem_append_left _ z
        · rcases List.mem_cons.mp z with rfl | z
          · exact absurd hy n1
          · exact List.mem_append_right _ z
      rw [e, List.length_append, List.length_cons, List.length_cons]
      rw [List.length_append] at q
      omega
  have q := key nd fun x hx => (hm x).mp hx
  rw [List.length_map, Array.length_toList] at q
  exact q
theorem setT_add {k : Str} {tk : Tok} {Q : Bool → Shared → Prop} (R : SetT P w s.heap a ks) (room : ks.length + 1 < scanBound) (hQ : ∀ (b : Bool) h', Heap.SameBut a s.heap h' → SetT P w h' a (ks ++ [k]) → Q b { s with heap := h' }) :
    wpAny (model P w) A (setAddHashed a (.str k tk) ((PySem.strKind P w).hash k)) Q E s := by
  obtain ⟨o, es, ep, t, ho, hex, hd, g, nd, hm, hb, hf, hr, hl⟩ := R
  have sz0 := SetT.size (h := s.heap) (o := o) nd hm
  have hkey := strKind_is P w k tk
  have hsc : (Value.str k tk).scannable = true := rfl
  have hel := goodT_elems g
  unfold setAddHashed setAddHashedIn
  refine wpAny_holding (wpAny_bind (wpAny_setState_of ho hd hf ?_))
  dsimp only
  rw [byScan_of hsc hb hel, if_pos rfl]
  unfold setAddByScan
  refine wpAny_bind (wpAny_bind (wpAny_rule (wpAny_bind (wpAny_setScan_of hkey ho hd hf hel ?_))))
  cases hfi : List.findIdx? (fun e => (PySem.strKind P w).is k e.2) es.toList with
  | some j =>
    obtain ⟨hj, pj, _⟩ := List.findIdx?_eq_some_iff_getElem.mp hfi
    have hk : k ∈ ks := (hm k).mp (List.mem_map.mpr ⟨es.toList[j], List.getElem_mem hj, (goodT_is (g _ (List.getElem_mem hj)) k).mp pj⟩)
    exact wpAny_pure (wpAny_pure (hQ _ s.heap (Heap.SameBut.refl a s.heap) ⟨o, es, ep, t, ho, hex, hd, g, nd, fun i => (hm i).trans ⟨fun z => List.mem_append_left _ z, fun z => (List.mem_append.mp z).elim id fun z => (List.mem_singleton.mp z).symm ▸ hk⟩, hb, hf, hr, hl⟩))
  | none =>
    have hnk : k ∉ es.toList.map keyT := fun z => by
      obtain ⟨e, he, q⟩ := List.mem_map.mp z
      have c := List.findIdx?_eq_none_iff.mp hfi e he
      rw [(goodT_is (g e he) k).mpr q] at c
      cases c
    have p1 := layNew_perm t es ((PySem.strKind P w).hash k) (.str k tk)
    have p2 := layNew_fits t es ((PySem.strKind P w).hash k) (.str k tk)
    have p3 := layNew_ris t es ((PySem.strKind P w).hash k) (.str k tk) hr
    have p4 := layNew_led t es ((PySem.strKind P w).hash k) (.str k tk)
    dsimp only
    generalize layNew t es ((PySem.strKind P w).hash k) (.str k tk) = Z at p1 p2 p3 p4 ⊢
    obtain ⟨es1, t1, wasDummy, gave⟩ := Z
    dsimp only at p1 p2 p3 p4 ⊢
    rw [Array.toList_push] at p1
    have pc : es1.toList.Perm (((PySem.strKind P w).hash k, Value.str k tk) :: es.toList) := p1.trans (List.perm_append_singleton _ _)
    have pk : (es1.toList.map keyT).Perm (k :: es.toList.map keyT) := pc.map keyT
    have g1 : ∀ e ∈ es1.toList, GoodT P w e := fun e he => (List.mem_cons.mp (pc.mem_iff.mp he)).elim (fun z => by rw [z]; exact ⟨k, tk, rfl, rfl⟩) (g e)
    have nd1 : (es1.toList.map keyT).Nodup := pk.nodup_iff.mpr (List.nodup_cons.mpr ⟨hnk, nd⟩)
    have m1 : ∀ i, i ∈ es1.toList.map keyT ↔ i ∈ ks ++ [k] := fun i => by
      rw [pk.mem_iff, List.mem_cons, hm i, List.mem_append, List.mem_singleton]
      exact Or.comm
    have b1 : es1.size < scanBound := by
      rw [← Array.length_toList, pc.length_eq, List.length_cons, Array.length_toList]
      omega
    have led : w.params.followText "set-order" = true ∨ t1.led = true := hl.imp id fun z => p4.trans z
    have fin : ∀ h', Heap.SameBut a s.heap h' → SetT P w h' a (ks ++ [k]) → Q true { s with heap := h' } := fun h' sb r => hQ true h' sb r
    have gw : ∀ (b : Bool) {s₁ : Shared} {Q' : Unit → Shared → Prop}, Q' () s₁ → wpAny (model P w) A (match b with | true => rule "set.scan.the-table-gave-way" | false => pure ()) Q' E s₁ := fun b s₁ Q' q => by
      cases b
      · exact wpAny_pure q
      · exact wpAny_rule q
    refine wpAny_bind (gw _ ?_)
    split
    · refine wpAny_bind ?_
      rw [hashByValue_scannable 8 hsc]
      refine wpAny_pure (setT_tail (fun b s₁ Q' q => ?_) ho hex hd g1 nd1 m1 b1 ?_ ?_ ?_ fun h' sb r => ?_)
      · cases b
        · exact wpAny_pure q
        · exact wpAny_rule q
      · first | (split <;> first | exact p2 | exact SetTable.fits_plain_off p2) | exact p2
      · first | (split <;> exact p3) | exact p3
      · first | (split <;> exact led) | exact led
      · exact wpAny_pure (fin h' sb r)
    · refine wpAny_bind (wpAny_pure ?_)
      simp only [↓reduceIte]
      refine setT_tail (fun b s₁ Q' q => ?_) ho hex hd g1 nd1 m1 b1 p2 p3 led fun h' sb r => wpAny_pure (fin h' sb r)
      cases b
      · exact wpAny_pure q
      · exact wpAny_rule q
end
end Vf
end
section
set_option Elab.async false
set_option linter.all false
set_option maxRecDepth 100000
set_option maxHeartbeats 8000000
/-! Own layer: set(texts) with what sorting it needs; sorted(set(texts)). -/
namespace Vf
open PySem PySem.Spec PyProof.Rows L2 GxR GenW
section
variable {prog : Program} {w : World} {A : Around} {R : Result → Shared → Prop} {I : Addr} {fp wr : List Addr} {G : Array GenState → Array GenState → Prop} {n : Nat} {P : Nat → Value → Prop} {St : Nat → Shared → Prop}
theorem upd_loopT (W : WalksS prog w A.in1 I fp wr G n P St) (S : Addr) (hSf : S ∉ fp) (xs : List Str) (hn : xs.length = n) (hv : ∀ i v, P i v → ∃ t, v = .str (xs.getD i Str.empty) t) (hb : n + 1 < scanBound) :
    ∀ (k i : Nat) (s : Shared), n - i = k → i ≤ n → St i s → SetT prog w s.heap S (xs.take i) →
      (∀ s', Moved (S :: wr) G s s' → SetT prog w s'.heap S xs → R (.ok (.ret .none)) s') →
      codeAny (model prog w) A (.builtin "set.update.loop" ⟨[.ref S, .ref I], []⟩) R s := by
  have nS : S ∉ wr := fun z => hSf (W.sub _ z)
  have more : ∀ b ∈ wr, b ∈ S :: wr := fun b z => List.mem_cons_of_mem _ z
  have stay : ∀ {s s' : Shared} {ks : List Str}, Moved wr G s s' → SetT prog w s.heap S ks → SetT prog w s'.heap S ks := fun hm R => R.mono fun o ho => hm.heap S o nS ho
  intro k
  induction k with
  | zero =>
    intro i s hk hi st hS hR
    have e : i = n := by omega
    subst e
    refine codeAny_builtin PyProof.Rows.F.entry_set_update_loop ?_
    rw [Around.under_plainId PyProof.Rows.F.plain_set_update_loop _]
    show wpAny _ A.in1 (pyNext (.ref I) >>= _) _ _ s
    refine wpAny_bind (W.done s _ _ st fun s' hm => ?_)
    show wpAny _ A.in1 (ret Value.none) _ _ s'
    have q := stay hm hS
    rw [← hn, List.take_length] at q
    exact wpAny_pure (hR s' (hm.mono more) q)
  | succ k ih =>
    intro i s hk hi st hS hR
    have lt : i < n := by omega
    refine codeAny_builtin PyProof.Rows.F.entry_set_update_loop ?_
    rw [Around.under_plainId PyProof.Rows.F.plain_set_update_loop _]
    show wpAny _ A.in1 (pyNext (.ref I) >>= _) _ _ s
    refine wpAny_bind (W.item i s _ _ lt st fun v s' hP st' hm => ?_)
    obtain ⟨t, rfl⟩ := hv i v hP
    have lx : i < xs.length := by omega
    have eg : xs.getD i Str.empty = xs[i] := by simp [List.getD, List.getElem?_eq_getElem lx]
    rw [eg]
    show wpAny _ A.in1 (holding [Value.str xs[i] t] (setAdd S (.str xs[i] t)) >>= _) _ _ s'
    refine wpAny_bind (wpAny_holding ?_)
    unfold setAdd
    refine wpAny_holding (wpAny_bind ((PySem.strKind prog w).pyHash (k := xs[i]) (strKind_is _ _ _ _) ?_))
    have hS' := stay hm hS
    have room : (xs.take i).length + 1 < scanBound := by
      rw [List.length_take]
      omega
    refine setT_add (s := { s' with toks := s'.toks + 1 }) hS' room fun bb h' hsb hS2 => ?_
    have et : xs.take (i + 1) = xs.take i ++ [xs[i]] := by rw [List.take_succ, List.getElem?_eq_getElem lx]; rfl
    have hSi : SetT prog w h' S (xs.take (i + 1)) := by rw [et]; exact hS2
    have other : ∀ b, b ≠ S → ∀ o, s'.heap.get? b = some o → h'.get? b = some o := fun b hb o e => (hsb.2 b hb).trans e
    refine wpAny_pure ⟨plainId_quiet PyProof.Rows.F.plain_set_update_loop _, ih (i + 1) _ (by omega) lt (W.frame _ s' _ _ st' (Nat.le_succ _) fun b hb o e => other b (fun z => hSf (z ▸ hb)) o e) hSi fun s'' hm2 hS3 => ?_⟩
    exact hR s'' (Moved.trans W.gtrans ((hm.mono more).then_heap (Nat.le_succ _) fun b o hb e => other b (fun z => hb (z ▸ List.mem_cons_self)) o e) hm2) hS3
end
section
variable {prog : Program} {w : World} {A : Around} {E : Value → Shared → Prop} {s : Shared}
theorem set_of_strsT {l : Addr} {its : Array Value} {xs : List Str} {Q : Value → Shared → Prop} (hh : A.handled = none) (hl : s.heap.IsList l its) (hi : PyProof.Rows.StrsAre its.toList xs) (hb : its.size + 1 < scanBound)
    (h : ∀ (h' : Heap) (tk : Nat), SetT prog w h' s.heap.objs.size xs → (∀ b o, b < s.heap.objs.size → s.heap.get? b = some o → h'.get? b = some o) →
      Q (.ref s.heap.objs.size) { s with heap := h', toks := tk }) : wpAny (model prog w) A (call (.type "set") [.ref l]) Q E s := by
  obtain ⟨c, tl, m1⟩ := PySem.F.called_set.mro
  have m2 := PySem.F.called_set.made
  have m3 := PySem.F.called_set.sub
  refine wpAny_call (codeAny_of_tree ?_)
  show wpAny _ _ (callAny (.type "set") _) _ _ _
  refine wpAny_pure ⟨Code.quiet_builtin _ (by decide +kernel), codeAny_builtin PySem.F.entry_type_call ?_⟩
  rw [Around.under_plain (weight_type_call_type "set" [.ref l] []) rfl]
  have m4 := PySem.F.called_set.notType
  have m5 := PySem.F.called_set.canCreate
  have m6 := PySem.F.typeCall_set_1 (.ref l)
  repeat (any_goals (first | assumption | wp_step))
  refine codeAny_mono (code_set_led1 (.ref l) (E := E) (Q₁ := fun obj s₁ => obj = .ref s.heap.objs.size ∧ s₁ = { s with heap := s.heap.push { cls := .type "set", dict := none, data := .set #[] 0 (.fresh 0 0 (!w.params.followText "set-order")) } }) ⟨rfl, rfl⟩) fun r s₁ hr => ?_
  cases r with
  | error e => exact hr
  | ok fl =>
    cases fl with
    | ret obj =>
      obtain ⟨rfl, rfl⟩ := hr
      have hled : w.params.followText "set-order" = true ∨ (!w.params.followText "set-order") = true := by cases w.params.followText "set-order" <;> simp
      generalize (!w.params.followText "set-order") = led at *
      have gS : (s.heap.push ({ cls := .type "set", dict := none, data := .set #[] 0 (.fresh 0 0 led) } : Obj)).get? s.heap.objs.size = some ({ cls := .type "set", dict := none, data := .set #[] 0 (.fresh 0 0 led) } : Obj) := Heap.get?_push_size _ rfl
      have tS : Shared.TypeIs { s with heap := s.heap.push ({ cls := .type "set", dict := none, data := .set #[] 0 (.fresh 0 0 led) } : Obj) } (.ref s.heap.objs.size) "set" := ⟨_, gS, rfl⟩
      have m7 := PySem.F.called_set.init.lookup
      have m8 := PySem.F.called_set.init.bind (.ref s.heap.objs.size)
      repeat (any_goals (first | assumption | wp_step))
      refine codeAny_mono (codeAny_call_builtin (R := wants (fun r s₂ => r = .none ∧ ∃ h' tk, s₂ = { s with heap := h', toks := tk } ∧ SetT prog w h' s.heap.objs.size xs ∧
          (∀ b o, b < s.heap.objs.size → s.heap.get? b = some o → h'.get? b = some o)) E) PySem.F.called_set.init.plain PySem.F.entry_set_init (check_set_init_1 tS ?_)) fun r₂ s₂ hr₂ => ?_
      · obtain ⟨ol, hol, hcl, nl, hdl⟩ := hl
        obtain ⟨ocls, odict, odata, oslots⟩ := ol
        simp only at hcl hdl
        subst hcl; subst hdl
        have k1 : (s.heap.push ({ cls := .type "set", dict := none, data := .set #[] 0 (.fresh 0 0 led) } : Obj)).get? l = some { cls := .type "list", dict := odict, data := .seq its nl, slots := oslots } := Heap.get?_push_of_some _ hol
        have m9 := PySem.F.sub_list_set
        have m10 := PySem.F.sub_list_frozenset
        have m11 : (Value.type "list" == Value.type "dict") = false := by decide
        have k2 : (s.heap.push ({ cls := .type "set", dict := none, data := .set #[] 0 (.fresh 0 0 led) } : Obj)).IsList l its := ⟨_, k1, rfl, nl, rfl⟩
        unfold Builtin.«set.__init__» noKeywords Builtin.Frozenset.updateFrom
        generalize hPI : pyIter = PI
        wp_walk
        subst hPI
        refine wpAny_pyIter_list k2 (wpAny_bind (wpAny_runValue ?_))
        have lS : l < s.heap.objs.size := Heap.lt_size hol
        have size1 : (s.heap.push ({ cls := .type "set", dict := none, data := .set #[] 0 (.fresh 0 0 led) } : Obj)).objs.size = s.heap.objs.size + 1 := Heap.size_push ..
        have h3 : A.in1.in1.in1.handled = none := hh
        have nI : l ≠ (s.heap.push ({ cls := .type "set", dict := none, data := .set #[] 0 (.fresh 0 0 led) } : Obj)).objs.size := by rw [size1]; exact Nat.ne_of_lt (Nat.lt_succ_of_lt lS)
        have nS : s.heap.objs.size ∉ [(s.heap.push ({ cls := .type "set", dict := none, data := .set #[] 0 (.fresh 0 0 led) } : Obj)).objs.size, l] := by
          rw [size1]
          intro z
          rcases List.mem_cons.mp z with z | z
          · exact absurd z (Nat.ne_of_lt (Nat.lt_succ_self _))
          · exact absurd (List.mem_singleton.mp z) (Nat.ne_of_gt lS)
        have len : xs.length = its.size := by rw [← StrsAre.len_eq hi, Array.length_toList]
        refine upd_loopT ((Walks.list h3 _ l nI its).toS) s.heap.objs.size nS xs len (fun i v hv => SS.strs_at hi i v (by rw [Array.getElem?_toList]; exact hv)) hb (its.size - 0) 0 _ (by omega) (Nat.zero_le _) ⟨⟨_, Heap.get?_push_size _ rfl, rfl, rfl⟩, (k2.push _)⟩ ?hS0 ?hR
        case hS0 =>
          have g2 : ((s.heap.push ({ cls := .type "set", dict := none, data := .set #[] 0 (.fresh 0 0 led) } : Obj)).push { cls := .type "list_iterator", data := .fields #[.ref l, .int 0 0] }).get? s.heap.objs.size = some ({ cls := .type "set", dict := none, data := .set #[] 0 (.fresh 0 0 led) } : Obj) := Heap.get?_push_of_some _ gS
          exact ⟨_, #[], 0, .fresh 0 0 led, g2, ⟨rfl, rfl, rfl⟩, rfl, fun e he => by simp at he, by simp, fun k => by simp, by unfold scanBound; decide, rfl, List.Pairwise.nil, hled⟩
        case hR =>
          rintro ⟨h', g', d', tk', os'⟩ hm hS'
          obtain rfl : g' = s.gens := hm.gens
          obtain rfl : d' = s.drawn := hm.drawn
          obtain rfl : os' = s.os := hm.os
          show wpAny _ _ _ _ _ _
          refine wpAny_pure ?_
          show wpAny _ _ (ret Value.none) _ _ _
          refine wpAny_pure ⟨rfl, h', tk', rfl, hS', fun b o hb e => ?_⟩
          refine hm.heap b o ?_ (Heap.get?_push_of_some _ (Heap.get?_push_of_some _ e))
          intro z
          rcases List.mem_cons.mp z with z | z
          · exact absurd z (Nat.ne_of_lt hb)
          · rw [List.mem_singleton.mp z, size1] at hb
            exact absurd (Nat.lt_of_succ_lt hb) (Nat.lt_irrefl _)
      · cases r₂ with
        | error e => exact hr₂
        | ok f2 =>
          cases f2 with
          | ret r =>
            obtain ⟨rfl, h', tk, rfl, q1, q2⟩ := hr₂
            repeat (any_goals (first | assumption | wp_step))
            exact h _ _ q1 q2
          | _ => exact hr₂.elim
    | _ => exact hr.elim
end
end Vf
end
section
set_option Elab.async false
set_option linter.all false
set_option maxRecDepth 100000
set_option maxHeartbeats 8000000
/-! Own layer: sorted(set(texts)). -/
namespace Vf
open PySem PySem.Spec PyProof.Rows L2 GxR GenW
section
variable {P : Program} {w : World} {A : Around} {E : Value → Shared → Prop} {s : Shared}
theorem strsT_of : ∀ (vs : List Value), (∀ v ∈ vs, ∃ x tk, v = .str x tk) → StrsAre vs (vs.map fun v => keyT (0, v))
  | [], _ => StrsAre.nil
  | v :: vs, h => by
    obtain ⟨x, tk, rfl⟩ := h v List.mem_cons_self
    exact StrsAre.cons _ _ (strsT_of vs fun u hu => h u (List.mem_cons_of_mem _ hu))
theorem sorted_setT {a : Addr} {ks : List Str} {Q : Value → Shared → Prop} (R : SetT P w s.heap a ks) (hh : A.handled = none)
    (hQ : ∀ s' p (out : Array Value) (c : Nat) (ys : List Str), (∀ b o, s.heap.get? b = some o → s'.heap.get? b = some o) → s'.gens = s.gens → s'.os = s.os → s.heap.objs.size ≤ p → s'.heap.get? p = some (seqObj "list" out c) → StrsAre out.toList ys → sortedS ys = true → ys.Nodup → (∀ k, k ∈ ys ↔ k ∈ ks) → Q (.ref p) s') :
    wpAny (model P w) A (call (.builtin "sorted") [.ref a]) Q E s := by
  obtain ⟨o, es, ep, t, ho, hex, hd, g, nd, hm, hb, hf, hr, hl⟩ := R
  have hbz : es.size ≤ sizeLine := by rw [sizeLine_eq]; unfold scanBound at hb; omega
  refine Calls.call_function_entry kind_sorted plain_sorted entry_sorted (args_sorted1 _) ?_
  unfold Builtin.«sorted»
  refine wpAny_bind (m := checkCount "sorted" 1 1 _) (wpAny_pure (wpAny_bind (collect_set (A := A.in1) hh ⟨o, ho, hex.1, hd⟩ hf hb hr hl fun s1 vs k1 hz g1 o1 pm => ?_)))
  have lv : vs.length = es.size := by rw [pm.length_eq, List.length_map, Array.length_toList]
  have hS : StrsAre vs (vs.map fun v => keyT (0, v)) := strsT_of vs fun v hv => by
    obtain ⟨e, he, q⟩ := List.mem_map.mp (pm.mem_iff.mp hv)
    obtain ⟨x, tk, h1, _⟩ := g e he
    exact ⟨x, tk, by rw [← q]; exact h1⟩
  have pk : (vs.map fun v => keyT (0, v)).Perm (es.toList.map keyT) := by
    have q := pm.map fun v => keyT (0, v)
    rw [List.map_map] at q
    exact q
  refine wpAny_bind (wpAny_newList ?_ (by rw [lv]; exact hbz))
  have oL : (s1.heap.push (seqObj "list" vs.toArray 0)).get? s1.heap.objs.size = some (seqObj "list" vs.toArray 0) := Heap.get?_push_size _ rfl
  refine wpAny_bind (wpAny_holding (wpAny_call_entry slot_list_sort ⟨_, oL, rfl⟩ entry_list_sort (list_sort_treeKSt strKind_oneLt oL hS.keysOf (fun v₁ v₂ rest e => keyKind_strs (by rw [← e]; exact hS)) (by rw [lv]; exact hbz) fun st' hp hs _ => ⟨_, rfl, ?_⟩) (args_list_sort _)))
  obtain ⟨ys, a1, a2, a3⟩ := sorted_out_str hS hp hs
  obtain ⟨c, hc⟩ := sortedHeap_at (vs := vs) (out := (arrOf st').map (·.2)) oL
  have pn : ys.Perm (es.toList.map keyT) := a2.trans pk
  refine wpAny_pure ⟨_, rfl, hQ _ s1.heap.objs.size _ c ys (fun b u e => ?_) g1 o1 hz hc a1 a3 (pn.nodup_iff.mpr nd) fun k => pn.mem_iff.trans (hm k)⟩
  have q := k1 b u e
  have lt := Heap.lt_size q
  show (sortedHeap (s1.heap.push (seqObj "list" vs.toArray 0)) s1.heap.objs.size vs ((arrOf st').map (·.2))).get? b = some u
  rw [sortedHeap_old (Nat.ne_of_lt lt) (by rw [Heap.size_push]; exact Nat.lt_succ_of_lt lt)]
  exact Heap.get?_push_of_some _ q
end
end Vf
end
section
set_option Elab.async false
set_option linter.all false
set_option maxRecDepth 100000
set_option maxHeartbeats 8000000
/-! Own layer: the expression sorted(set(texts)). -/
namespace Vf
open PySem PySem.Spec PyProof.Rows L2 GxR GenW
section
variable {X : Cx}
def tSortSet (K : PySem.W.Frag) (ta : TE) : TE := fun σ H Q => ta σ H fun x H1 => ∃ (l : Addr) (xs : List Str), x = .ref l ∧ SqL K H1 l (xs.map V.str) ∧ xs.length ≤ 4000 ∧
  ∀ ys p, sortedS ys = true → ys.Nodup → (∀ k, k ∈ ys ↔ k ∈ xs) → H1 p = none → Q (.ref p) (upd H1 p (.lst (ys.map V.str)))
theorem pe_sortSet {K : PySem.W.Frag} {a : Expr} {ta : TE} {p p2 q pos : Pos} (hK : X.K = K) (hg : Gl X "sorted") (hm : X.mg "sorted" = none) (hg2 : Gl X "set") (hm2 : X.mg "set" = none) (ha : PE X a ta) (hc : X.calm = true := by rfl) (hbs : bootBuiltins "sorted" = some (.builtin "sorted") := by decide +kernel)
    (na : starEach [a] X.env = (false, eval a X.env) :: starEach [] X.env := by rfl) : PE X (.Call (.Name "sorted" p) [.Call (.Name "set" p2) [a] [] q] [] pos) (tSortSet K ta) := by
  subst hK
  refine ⟨fun pins s σ H Q I h => Call_ (ld_blt I hg hm hbs ?_)⟩
  refine PyProof.Rows.callWith_builtin1 (PyProof.Rows.args_cons ?_ rfl) rfl rfl
  refine Call_ (ld_blt I hg2 hm2 boot_set (PyProof.Rows.callWith_type1 (PyProof.Rows.args_cons (thn (ha.run pins s σ H _ I h) ?_) na) na rfl))
  rintro v s1 ⟨x, H1, I1, r1, l, xs, rfl, hq, hl, q1⟩
  refine PyProof.Rows.args_nil ?_
  cases r1
  obtain ⟨its, r, pl, hz⟩ := I1.list hq
  have hlen : its.toArray.size = xs.length := by rw [List.size_toArray, ← r.length, List.length_map]
  refine set_of_strsT (I1.ok.hd hc) pl.isList (xs := xs) (by simpa using strs_vals r) (by rw [hlen]; unfold scanBound; omega) fun h' tk hS hk => ?_
  refine PyProof.Rows.args_nil ?_
  have I2 : Inv X pins σ H1 { s1 with heap := h', toks := tk } := I1.kept fun b o e => hk b o (Heap.lt_size e) e
  refine sorted_setT hS (I2.ok.hd hc) fun s' p out c ys k g o hp hg hi hs nd hm => ?_
  have key : ∀ {l m : List Str}, l.Nodup → (∀ x ∈ l, x ∈ m) → l.length ≤ m.length := by
    intro l
    induction l with
    | nil => intro m _ _; exact Nat.zero_le _
    | cons x l ih =>
      intro m nd h
      obtain ⟨n1, n2⟩ := List.nodup_cons.mp nd
      obtain ⟨u, v, e⟩ := List.append_of_mem (h x List.mem_cons_self)
      have q := ih (m := u ++ v) n2 fun y hy => by
        have := h y (List.mem_cons_of_mem _ hy)
        rw [e] at this
        rcases List.mem_append.mp this with z | z
        · exact List.mem_append_left _ z
        · rcases List.mem_cons.mp z with rfl | z
          · exact absurd hy n1
          · exact List.mem_append_right _ z
      rw [e, List.length_append, List.length_cons, List.length_cons]
      rw [List.length_append] at q
      omega
  have yl : (ys.map V.str).length ≤ sizeLine := by
    have := key nd fun x hx => (hm x).mp hx
    rw [List.length_map, sizeLine_eq]
    omega
  have hn : H1 p = none := I2.hok.fresh hp
  have J : Inv X pins σ (upd H1 p (.lst (ys.map V.str))) { { s1 with heap := h', toks := tk } with heap := s'.heap, gens := s'.gens, drawn := s'.drawn, toks := s'.toks } :=
    I2.call (ch := []) (Un.laid k hp hn) (I2.hok.laid k hp ⟨yl, out.toList, c, vals_of_strs hi, hg⟩) (by rw [g]; exact I2.bare) (fun _ z => nomatch z)
  have e : s' = { { s1 with heap := h', toks := tk } with heap := s'.heap, gens := s'.gens, drawn := s'.drawn, toks := s'.toks } := by
    cases s'
    cases s1
    cases o
    rfl
  rw [e]
  exact ⟨.ref p, _, J, rfl, q1 ys p hs nd hm hn⟩
end
end Vf
end
section
set_option Elab.async false
set_option linter.all false
set_option maxRecDepth 100000
set_option maxHeartbeats 4000000
/-! Own layer: repr of a pair of a dict (texts to tuples of texts) and data. -/
namespace Vf
open PySem PySem.Spec PyProof.Rows L2 GxR GenW
/-- a dict of texts to tuples of texts, as it stands -/
inductive FdV (K : PySem.W.Frag) (H : Hp) : List (Key × V) → List (Str × List Str) → Prop
  | nil : FdV K H [] []
  | cons {n : Str} {ss : List Str} {t : Addr} {kvs : List (Key × V)} {L : List (Str × List Str)} : SqT K H t (ss.map V.str) → FdV K H kvs L → FdV K H (((Sum.inr n : Key), .ref t) :: kvs) ((n, ss) :: L)
def fdD (L : List (Str × List Str)) : PyData := .dict (L.map fun p => (.str p.1, .tuple (p.2.map PyData.str)))
section
variable {X : Cx} {pins : List (Addr × Obj)} {σ : L2.St} {H : Hp} {s : Shared}
theorem dd_strT {K : PySem.W.Frag} : ∀ ns : List Str, DdAll K H (ns.map V.str) (ns.map PyData.str)
  | [] => .nil
  | n :: ns => .cons (.str n) (dd_strT ns)
theorem noL_strT : ∀ ns : List Str, noLstA (ns.map PyData.str) = true
  | [] => rfl
  | n :: ns => by simp [noLstA, noLst, noL_strT ns]
theorem fd_vals (I : Inv X pins σ H s) {kvs : List (Key × V)} {L : List (Str × List Str)} (f : FdV X.K H kvs L) : ∀ {vs : List (Key × Value)} {es : List DictEntry}, KV kvs vs → Pairs (mixKind X.prog X.w) es vs →
    ∃ as bs, ReadsAll s.heap (es.map (·.key)) (L.map fun p => .str p.1) as ∧ sysModules ∉ as ∧ ReadsAll s.heap (es.map (·.val)) (L.map fun p => .tuple (p.2.map PyData.str)) bs ∧ sysModules ∉ bs := by
  induction f with
  | nil =>
    intro vs es kv pr
    cases kv
    cases pr
    exact ⟨[], [], .nil, by simp, .nil, by simp⟩
  | @cons n ss t kvs L h1 _ ih =>
    intro vs es kv pr
    cases kv with
    | cons q kv =>
      cases pr with
      | cons p1 p2 pr =>
        rename_i bb l2 e es2
        obtain ⟨as, bs, r1, n1, r2, n2⟩ := ih kv pr
        obtain ⟨k, val⟩ := bb
        have q1 : (Sum.inr n : Key) = k := q.1
        subst q1
        have q2 : RelV (.ref t) val := q.2
        have p2 : e.val = val := p2
        obtain ⟨cs, rd, nn⟩ := Dd.reads I (.tuple (ss.map PyData.str)) _ _ (.tup h1 (dd_strT ss)) q2
        have nn := nn (by simp [noLst, noL_strT])
        rcases keyIs_shape (show keyIs (Sum.inr n : Key) e.key = true from p1) with ⟨i, tk, z, _⟩ | ⟨y, tk, z, z2⟩
        · cases z
        · have z := Sum.inr.inj z
          refine ⟨[] ++ as, cs ++ bs, ?_, by simpa using n1, ?_, ?_⟩
          · rw [List.map_cons, List.map_cons, z2, z]
            exact .cons (.str y tk) r1
          · rw [List.map_cons, List.map_cons, p2]
            exact .cons rd r2
          · intro m
            rcases List.mem_append.mp m with m | m
            · exact nn m
            · exact n2 m
/-- repr((d, x)), d a dict of texts to tuples of texts -/
theorem call_reprF (hgu : X.A.guards = some []) (hu : X.A.units + 64 < cLine) : CallR X (.builtin "repr") (fun xs H Q => ∃ (p d : Addr) (v : V) (kvs : List (Key × V)) (L : List (Str × List Str)) (e : PyData), xs = [.ref p] ∧ SqT X.K H p [.ref d, v] ∧ H d = some (.dK kvs) ∧ FdV X.K H kvs L ∧ Dd X.K H v e ∧ noLst e = true ∧
    (PyData.tuple [fdD L, e]).showable = true ∧ (PyData.tuple [fdD L, e]).depth < 60 ∧ (PyData.tuple [fdD L, e]).shown.length ≤ sizeLine ∧ Q (.str (PyData.tuple [fdD L, e]).shown) H) := by
  intro pins s σ H xs us Q I r h
  obtain ⟨p, d, v, kvs, L, e, rfl, hp, hd, hf, he, ne, hs, hdp, hz, q⟩ := h
  rw [Vals.ref1 r]
  obtain ⟨its, rv, ⟨o, ho, hc, n, hda⟩, _⟩ := I.tuple hp
  obtain ⟨_, hne, vs, kv, hdo⟩ := I.hok _ _ hd
  obtain ⟨od, es, ep, hod, hx, hdd, _, hpr, _⟩ := hdo
  obtain ⟨as, bs, r1, n1, r2, n2⟩ := fd_vals I hf kv hpr
  have rd : Reads s.heap (.ref d) (fdD L) (d :: as ++ bs) := by
    refine Reads.dict hod hx.1 hdd ?_ ?_
    · rw [List.map_map]; exact r1
    · rw [List.map_map]; exact r2
  have nd : sysModules ∉ (d :: as ++ bs) := by
    intro m
    rcases List.mem_append.mp m with m | m
    · rcases List.mem_cons.mp m with m | m
      · rw [← m] at hne
        simp at hne
      · exact n1 m
    · exact n2 m
  obtain ⟨u1, u2, e0, ra, rb⟩ := vals2 rv
  cases ra
  obtain ⟨cs, rde, nn⟩ := Dd.reads I e v u2 he rb
  have rt : Reads s.heap (.ref p) (.tuple [fdD L, e]) ((d :: as ++ bs) ++ (cs ++ [])) := by
    refine Reads.tuple ho hc hda ?_
    rw [show its.toArray.toList = its from List.toList_toArray, e0]
    exact .cons rd (.cons rde .nil)
  refine PySem.repr_of_reads' rt hs (fun _ m => ?_) hgu (by omega) (fun _ _ e => e) (fun h' u tk k => ⟨.str _, H, I.kept k, ⟨_, rfl⟩, q⟩) hz
  rcases List.mem_append.mp m with m | m
  · exact nd m
  · rw [List.append_nil] at m
    exact nn ne m
end
end Vf
end
section
set_option Elab.async false
set_option linter.all false
set_option maxRecDepth 100000
set_option maxHeartbeats 4000000
/-! Own layer: t[::-1], t a tuple. -/
namespace Vf
open PySem PySem.Spec PyProof.Rows L2 HT
section
variable {prog : Program} {w : World} {A : Around} {E : Value → Shared → Prop} {s : Shared}
theorem adjust_rev (n : Nat) : Builtin.Slice.sliceAdjust none none (-1) (n : Int) = ((n : Int) - 1, -1) := by
  unfold Builtin.Slice.sliceAdjust
  simp
theorem places_rev (n : Nat) : Builtin.Slice.slicePlaces ((n : Int) - 1) (-1) (-1) = n := by
  unfold Builtin.Slice.slicePlaces
  have h1 : ¬ ((-1 : Int) > 0) := by decide
  simp only [h1, if_false]
  split
  · have e : (((n : Int) - 1 - -1 - 1) / - -1 + 1).toNat = n := by
      rw [show (- -1 : Int) = 1 by decide, Int.ediv_one]
      omega
    first
    | exact e
    | (simp; omega)
    | omega
  · omega
theorem pick_rev (xs : Array Value) : ((List.range xs.size).filterMap fun (m : Nat) => xs[(((xs.size : Int) - 1) + (m : Int) * (-1)).toNat]?).toArray = xs.toList.reverse.toArray := by
  have e : (fun (m : Nat) => xs[(((xs.size : Int) - 1) + (m : Int) * (-1)).toNat]?) = (fun k : Nat => xs[k]?) ∘ fun m => xs.size - 1 - m := by
    funext m
    have : (((xs.size : Int) - 1) + (m : Int) * (-1)).toNat = xs.size - 1 - m := by omega
    show xs[_]? = xs[xs.size - 1 - m]?
    rw [this]
  rw [e, ← List.filterMap_map, PySem.W.krv_range, List.filterMap_reverse, PySem.W.krv_all]
theorem getItem_tuple_rev {t sl : Addr} {items : Array Value} {vs : Value} {Q : Value → Shared → Prop} (ht : IsTup s.heap t items) (hs : s.heap.IsSliceOf sl .none .none vs) (ps : IsPart vs (some (-1))) (hsz : items.size ≤ sizeLine)
    (h : Q (.ref s.heap.objs.size) { s with heap := s.heap.push { cls := .type "tuple", data := .seq items.toList.reverse.toArray } }) : wpAny (model prog w) A (getItem (.ref t) (.ref sl)) Q E s := by
  have hz : sizeOk (.seq items.toList.reverse.toArray) := by
    show items.toList.reverse.toArray.size ≤ sizeLine
    rw [List.size_toArray, List.length_reverse, Array.length_toList]
    exact hsz
  obtain ⟨os, hos, hcs, hds⟩ := id hs
  have hT : s.TypeIs (.ref sl) "slice" := ⟨os, hos, hcs⟩
  unfold getItem
  try with_reducible refine wpAny_holding ?_
  first | refine wpAny_bind (wpAny_pure ?_) | skip
  refine wpAny_bind (wpAny_sequenceKey ht.typeIs (by decide) (wpAny_bind (wpAny_callSpecial?_slot (name := Str.ofString "__getitem__") ht.typeIs PyProof.Rows.slot_tuple_getitem (wpAny_call_entry PyProof.Rows.slot_tuple_getitem ht.typeIs entry_tuple_getitem ?_ (args_tuple_getitem _ _)))))
  refine wpAny_bind (m := Builtin.Tuple.tupleItemsOf (.ref t)) (tupleItemsOf_ ht (wpAny_bind (wpAny_typeOf hT ?_)))
  rw [if_pos (by decide)]
  have ap : ∀ {Q' : Int × Int × Nat → Shared → Prop} {E' : Value → Shared → Prop} {A' : Around}, Q' ((items.size : Int) - 1, -1, items.size) s → wpAny (model prog w) A' (Builtin.Slice.sliceApplied (.ref sl) (pure (items.size : Int))) Q' E' s := fun {Q' E' A'} q => by
    unfold Builtin.Slice.sliceApplied Builtin.Slice.sliceFields
    refine wpAny_bind (wpAny_bind (wpAny_field hos hds (x := .none) rfl (wpAny_bind (wpAny_field hos hds (x := .none) rfl (wpAny_bind (wpAny_field hos hds (x := vs) rfl (wpAny_pure ?_)))))))
    refine wpAny_bind (slicePart_ ps ?_)
    show wpAny _ _ (if ((-1 : Int) == 0) = true then _ else _) _ _ s
    rw [if_neg (by decide)]
    refine wpAny_bind (slicePart_none (wpAny_bind (slicePart_none (wpAny_bind (wpAny_pure ?_)))))
    show wpAny _ _ (match Builtin.Slice.sliceAdjust none none (-1) (items.size : Int) with | (lo, hi) => pure (lo, (-1 : Int), Builtin.Slice.slicePlaces lo hi (-1))) _ _ s
    rw [adjust_rev]
    show wpAny _ _ (pure ((items.size : Int) - 1, (-1 : Int), Builtin.Slice.slicePlaces ((items.size : Int) - 1) (-1) (-1))) _ _ s
    rw [places_rev]
    exact wpAny_pure q
  refine wpAny_bind (ap ?_)
  show wpAny _ _ (if (((items.size : Int) - 1) == 0 && (-1 : Int) == 1 && items.size == items.size) = true then _ else _) _ _ s
  rw [if_neg (by rw [show ((-1 : Int) == 1) = false by decide, Bool.and_false, Bool.false_and]; exact Bool.false_ne_true), pick_rev]
  first
    | exact wpAny_bind (m := Builtin.Tuple.tupleExact _) (wpAny_newObj_type (wpAny_pure ⟨_, rfl, wpAny_pure h⟩) hz)
    | exact wpAny_bind (m := Builtin.Tuple.tupleExact _) (wpAny_newObj_type (wpAny_bind (wpAny_pure (wpAny_pure ⟨_, rfl, wpAny_pure h⟩))) hz)
    | exact wpAny_bind (wpAny_bind (m := Builtin.Tuple.tupleExact _) (wpAny_newObj_type (wpAny_pure (wpAny_pure ⟨_, rfl, wpAny_pure h⟩)) hz))
    | exact wpAny_bind (wpAny_bind (m := Builtin.Tuple.tupleExact _) (wpAny_newObj_type (wpAny_pure ⟨_, rfl, wpAny_pure h⟩) hz))
end
end Vf
end
section
set_option Elab.async false
set_option linter.all false
set_option maxRecDepth 100000
set_option maxHeartbeats 4000000
/-! Own layer: the expression t[::-1], t a tuple. -/
namespace Vf
open PySem PySem.Spec PyProof.Rows L2 HT
section
variable {X : Cx}
def tRevT (K : PySem.W.Frag) (te : TE) : TE := fun σ H Q => te σ H fun x H1 => ∃ a xs, x = .ref a ∧ SqT K H1 a xs ∧ ∀ p, H1 p = none → Q (.ref p) (upd H1 p (.tup xs.reverse))
theorem pe_revT {K : PySem.W.Frag} {e : Expr} {te : TE} {k : Nat} {p1 p2 p3 pos : Pos} (hK : X.K = K) (he : PE X e te) : PE X (.Subscript e (.Slice none none (some (.UnaryOp .USub (.Constant (.int 1) k p1) p2)) p3) pos) (tRevT K te) := by
  subst hK
  refine ⟨fun pins s σ H Q I h => Subscript_ (thn (he.run pins s σ H _ I h) fun v s1 ⟨x, H1, I1, r1, a, xs, ex, hx, q⟩ => ?_)⟩
  subst ex
  cases r1
  have st : PO X (some (.UnaryOp .USub (.Constant (.int 1) k p1) p2)) (tPart (tUn (rU fun i => .int (-i)) (tC (.int 1)))) := po_some (pe_un un_neg pe_int)
  refine wpAny_Slice (thn (po_none.run pins s1 σ H1 (fun o H2 => o = none ∧ H2 = H1) I1 ⟨rfl, rfl⟩) fun vl s2 ⟨l, H2, I2, pl, el, e2⟩ => ?_)
  subst el e2
  refine thn (po_none.run pins s2 σ H2 (fun o H3 => o = none ∧ H3 = H2) I2 ⟨rfl, rfl⟩) fun vu s3 ⟨u, H3, I3, pu, eu, e3⟩ => ?_
  subst eu e3
  refine thn (st.run pins s3 σ H3 (fun o H4 => o = some (-1) ∧ H4 = H3) I3 ⟨1, rfl, -1, rfl, rfl, rfl⟩) fun vs s4 ⟨o, H4, I4, ps, eo, e4⟩ => ?_
  subst eo e4
  cases pl
  cases pu
  have I5 : Inv X pins σ H4 { s4 with heap := s4.heap.push { cls := .type "slice", data := .fields #[.none, .none, vs] } } := I4.kept (t' := s4.toks) fun b ob q => Heap.get?_push_of_some _ q
  obtain ⟨its, r, ht, hz⟩ := I5.tuple hx
  have hlen := r.length
  show wpAny (model X.prog X.w) X.A (subscriptTail e (.Slice none none (some (.UnaryOp .USub (.Constant (.int 1) k p1) p2)) p3) (.ref a) (.ref s4.heap.objs.size)) (EP X pins σ Q) X.xe { s4 with heap := s4.heap.push { cls := .type "slice", data := .fields #[.none, .none, vs] } }
  refine tail_any (ops := [.ref a, .ref s4.heap.objs.size]) ht.typeIs (PyProof.Rows.slot_tuple_getitem.lookup) ?_ (by with_unfolding_all rfl)
  refine getItem_tuple_rev ht (Heap.IsSliceOf.new _ .none .none vs) ps (by rw [List.size_toArray]; omega) ?_
  refine ⟨.ref _, _, I5.laid (t' := s4.toks) (o := .tup xs.reverse) (fun b ob q => Heap.get?_push_of_some _ q) (Nat.le_refl _) ?_, rfl, q _ (I5.hok.fresh (Nat.le_refl _))⟩
  exact ⟨by rw [List.length_reverse]; exact hz, _, r.reverse, ⟨_, Heap.get?_push_size _ rfl, rfl, 0, rfl⟩⟩
end
end Vf
end
section
set_option Elab.async false
set_option linter.all false
set_option maxRecDepth 100000
set_option maxHeartbeats 4000000
namespace Vf
open PySem PySem.Spec PyProof.Rows L2 GxR GenW
def top (i : Nat) : Stmt := PySem.Challenge.pw_clipforms_k08_best_chains.main.body.getD i (.Pass ⟨0, 0, 0, 0⟩)
abbrev s__law_churned : Stmt := top 24
abbrev n__law_churned : List Str := ["seed", "lap", "prime", "amount", "again"]
abbrev p__law_churned : List Str := ["seed", "lap"]
theorem sc__law_churned : FnScope n__law_churned p__law_churned (defScope s__law_churned) := ⟨rfl, rfl, rfl, by decide +kernel, rfl, by decide +kernel, by decide +kernel⟩

abbrev s__law_urn_of : Stmt := top 25
abbrev n__law_urn_of : List Str := ["script", "cell", "cells", "place"]
abbrev p__law_urn_of : List Str := ["script"]
theorem sc__law_urn_of : FnScope n__law_urn_of p__law_urn_of (defScope s__law_urn_of) := ⟨rfl, rfl, rfl, by decide +kernel, rfl, by decide +kernel, by decide +kernel⟩

abbrev s__law_upto : Stmt := top 26
abbrev n__law_upto : List Str := ["urn", "bound", "cells", "place", "amount", "found"]
abbrev p__law_upto : List Str := ["urn", "bound"]
theorem sc__law_upto : FnScope n__law_upto p__law_upto (defScope s__law_upto) := ⟨rfl, rfl, rfl, by decide +kernel, rfl, by decide +kernel, by decide +kernel⟩

abbrev s__law_choice : Stmt := top 27
abbrev n__law_choice : List Str := ["urn", "items"]
abbrev p__law_choice : List Str := ["urn", "items"]
theorem sc__law_choice : FnScope n__law_choice p__law_choice (defScope s__law_choice) := ⟨rfl, rfl, rfl, by decide +kernel, rfl, by decide +kernel, by decide +kernel⟩

abbrev s__law_equal : Stmt := top 28
abbrev n__law_equal : List Str := ["one", "other"]
abbrev p__law_equal : List Str := ["one", "other"]
theorem sc__law_equal : FnScope n__law_equal p__law_equal (defScope s__law_equal) := ⟨rfl, rfl, rfl, by decide +kernel, rfl, by decide +kernel, by decide +kernel⟩

/-- what the module's names are -/
structure TX (mg : Str → Option Value) : Prop where
  b_range : mg "range" = none
  b_abs : mg "abs" = none
  b_enumerate : mg "enumerate" = none
  b_len : mg "len" = none
  b_int : mg "int" = none
  b_repr : mg "repr" = none

local macro_rules | `(tactic| walk_at "rd") => `(tactic| repeat (first
  | refine ⟨_, rfl, ?_⟩ | refine a_ii ?_ | (refine m_ii (by first | exact .inl ⟨by decide, by decide⟩ | exact .inr ⟨by decide, by decide⟩) ?_) | refine md_ii (by decide) ?_ | refine sb_ii ?_ | refine l_ii ?_ | refine le_ii ?_ | refine ge_ii ?_ | refine gt_ii ?_ | refine e_flat rfl ?_ | refine n_flat rfl ?_))
/-! ### the urn -/
/-- an urn stands at u: what stays of it is that it holds a list of ints and three ints -/
def Urn (c : Addr) (H : Hp) (u : Addr) : Prop := ∃ (ns : List Int) (p a r : Int), H u = some (.lst [.ref c, .int p, .int a, .int r]) ∧ H c = some (.lst (ns.map V.int))
/-- grown, but for what stands at u -/
def GrU (u : Addr) (H H' : Hp) : Prop := ∀ b o, b ≠ u → H b = some o → (H' b = some o ∨ ∃ ps more, o = .tbl ps ∧ H' b = some (.tbl (ps ++ more)) ∧ (TriplesOk ps.toList → TriplesOk (ps ++ more).toList))
theorem GrU.refl (u : Addr) (H : Hp) : GrU u H H := fun _ _ _ h => .inl h
theorem Gr.u {u : Addr} {H H' : Hp} (g : Gr H H') : GrU u H H' := fun b o _ h => g b o h
theorem GrU.trans {u : Addr} {H H1 H2 : Hp} (a : GrU u H H1) (b : GrU u H1 H2) : GrU u H H2 := by
  intro c o hc h
  rcases a c o hc h with h1 | ⟨ps, m1, rfl, h1, t1⟩
  · exact b c o hc h1
  · rcases b c _ hc h1 with h2 | ⟨qs, m2, e, h2, t2⟩
    · exact .inr ⟨ps, m1, rfl, h2, t1⟩
    · cases e
      exact .inr ⟨ps, m1 ++ m2, rfl, by rw [← Array.append_assoc]; exact h2, fun z => by rw [← Array.append_assoc]; exact t2 (t1 z)⟩
theorem GrU.upd {u : Addr} {H H' : Hp} {o : HO} (g : GrU u H H') : GrU u H (upd H' u o) := fun b w hb h => by
  rw [upd_ne hb]
  exact g b w hb h
theorem GrU.keep {u : Addr} {H H' : Hp} (g : GrU u H H') {b : Addr} {o : HO} (hb : b ≠ u) (h : H b = some o) (n : ∀ ps, o ≠ .tbl ps) : H' b = some o := by
  rcases g b o hb h with h1 | ⟨ps, _, rfl, _⟩
  · exact h1
  · exact absurd rfl (n ps)
theorem urn_ne {H : Hp} {u c : Addr} {ns : List Int} {p a r : Int} (h1 : H u = some (.lst [.ref c, .int p, .int a, .int r])) (h2 : H c = some (.lst (ns.map V.int))) : c ≠ u := by
  rintro rfl
  rw [h1] at h2
  have e : ([.ref c, .int p, .int a, .int r] : List V) = ns.map V.int := by injection h2 with h2; injection h2
  cases ns with
  | nil => cases e
  | cons z zs =>
    rw [List.map_cons] at e
    injection e with e1 _
    cases e1
/-- what is no list of values stays so -/
theorem GrU.notu {u c : Addr} {H H' : Hp} (g : GrU u H H') (hu : Urn c H u) {b : Addr} {o : HO} (h : H b = some o) (n : ∀ xs, o ≠ .lst xs) (n2 : ∀ ps, o ≠ .tbl ps) : H' b = some o := by
  refine g.keep ?_ h n2
  rintro rfl
  obtain ⟨ns, p, a, r, h1, _⟩ := hu
  rw [h1] at h
  cases h
  exact n _ rfl

def spChurned : Sp := fun vs H Q _ => ∃ s l : Int, vs = [.int s, .int l] ∧ ∀ r : Int, Q (.int r) H
def spUrnOf (K : PySem.W.Frag) : Sp := fun vs H Q _ => ∃ (a : Addr) (ns : List Int), vs = [.ref a] ∧ SqL K H a (ns.map V.int) ∧ ns.length ≤ 63 ∧ ∀ u c H', H u = none → H c = none → Gr H H' → Urn c H' u → Q (.ref u) H'
def spUpto : Sp := fun vs H Q _ => ∃ (u c : Addr) (b : Int), vs = [.ref u, .int b] ∧ Urn c H u ∧ 0 < b ∧ b < 1073741824 ∧ ∀ r H', 0 ≤ r → r < b → GrU u H H' → Urn c H' u → Q (.int r) H'
def spChoice (K : PySem.W.Frag) : Sp := fun vs H Q _ => ∃ (u c it : Addr) (xs : List V), vs = [.ref u, .ref it] ∧ Urn c H u ∧ it ≠ u ∧ (SqL K H it xs ∨ SqT K H it xs) ∧ xs ≠ [] ∧ xs.length < 1073741824 ∧ ∀ x H', x ∈ xs → GrU u H H' → Urn c H' u → Q x H'
def spEqual (K : PySem.W.Frag) : Sp := fun vs H Q _ => ∃ (x y : V) (d e : PyData), vs = [x, y] ∧ Dd K H x d ∧ Dd K H y e ∧ (d.showable = true ∧ (d.hasDict = true → noLst d = true) ∧ d.depth < 60 ∧ d.shown.length ≤ sizeLine) ∧
  (e.showable = true ∧ (e.hasDict = true → noLst e = true) ∧ e.depth < 60 ∧ e.shown.length ≤ sizeLine) ∧ Q (.bl (decide (V.str d.shown = V.str e.shown))) H
section
variable {P : Program} {w : World} {K : PySem.W.Frag} {mg : Str → Option Value} {base : Heap}
abbrev FnP (K : PySem.W.Frag) (x : Str) (st : Stmt) (fd : FuncData) : Prop := FunD K x x (defArgs st) (defBody st) (defScope st) [] [] (He.fAd K (x, none)) fd
theorem ok_churned {fd : FuncData} (F : FnP K "_law_churned" s__law_churned fd) (T : TX mg) : FnOk P w K mg base CX0 1 (He.fAd K ("_law_churned", none)) fd p__law_churned spChurned := by
  refine okP F sc__law_churned (fun vs H Q E h => by obtain ⟨s, l, rfl, _⟩ := h; rfl) (fun A outer s H vs Q E hr h => ?_)
  obtain ⟨a, l, rfl, k⟩ := h
  refine ⟨_, (pss_cons (ps_set (i := 2) sc__law_churned.nd rfl (by first | exact Or.inl rfl | exact Or.inr rfl) pe_int)
      (pss_cons (ps_set (i := 3) sc__law_churned.nd rfl (by first | exact Or.inl rfl | exact Or.inr rfl) (pe_op u_mod (pe_op (u_add (K := K) rfl) (pe_op (u_add (K := K) rfl) (pe_op (u_mul (K := K) rfl) (pv 0) pe_int) (pe_op (u_mul (K := K) rfl) (pv 1) pe_int)) pe_int) (pv 2)))
      (pss_cons (ps_for PassesOwn.never rfl (pi_range1 rfl T.b_range (pa_cons pe_int pa_nil)) (pg_name (i := 4) sc__law_churned.nd rfl (by first | exact Or.inl rfl | exact Or.inr rfl))
      (pss_one (ps_set (i := 3) sc__law_churned.nd rfl (by first | exact Or.inl rfl | exact Or.inr rfl) (pe_op u_mod (pe_op (u_add (K := K) rfl) (pe_op (u_add (K := K) rfl) (pe_op (u_add (K := K) rfl) (pe_op (u_mul (K := K) rfl) (pv 3) (pv 3)) (pe_op (u_mul (K := K) rfl) pe_int (pv 3))) (pe_op (u_mul (K := K) rfl) pe_int (pv 4))) (pv 1)) (pv 2)))))
      (pss_one (ps_ret (pe_op (u_add (K := K) rfl) (pe_op (u_mul (K := K) rfl) (pv 3) (pv 2)) (pe_op u_mod (pe_op (u_add (K := K) rfl) (pe_op (u_mul (K := K) rfl) (pv 3) pe_int) (pv 1)) (pv 2)))))))), ?_⟩
  have hm : ∀ x : Int, x.fmod 2305843009213693921 < 2 ^ 64 ∧ -(2 ^ 64) < x.fmod 2305843009213693921 := fun x => by
    have h1 := Int.fmod_nonneg_of_pos x (b := 2305843009213693921) (by decide)
    have h2 := Int.fmod_lt_of_pos x (b := 2305843009213693921) (by decide)
    omega
  walk_at "rd"
  refine ⟨by decide, by decide, for_range (n := 4) (fun i σ H' => H' = H ∧ ∃ (x : Int) (o : Option V), σ = [some (.int a), some (.int l), some (.int 2305843009213693921), some (.int (x.fmod 2305843009213693921)), o]) ⟨rfl, _, _, rfl⟩ ?_ ?_⟩
  · rintro i σ H' hi ⟨rfl, x, o, rfl⟩
    have := hm x
    walk_at "rd"
    refine m_ii (.inl ⟨this.2, this.1⟩) ?_
    walk_at "rd"
    exact ⟨rfl, _, _, rfl⟩
  · rintro σ H' ⟨rfl, x, o, rfl⟩
    have := hm x
    walk_at "rd"
    exact k _

theorem urn_upd {H : Hp} {u c : Addr} {ns : List Int} {p a r p' a' r' : Int} (h1 : H u = some (.lst [.ref c, .int p, .int a, .int r])) (h2 : H c = some (.lst (ns.map V.int))) : Urn c (upd H u (.lst [.ref c, .int p', .int a', .int r'])) u :=
  ⟨ns, p', a', r', upd_same, by rw [upd_ne (urn_ne h1 h2)]; exact h2⟩
theorem dp_ints {H : Hp} : ∀ ns : List Int, DpAll K H (ns.map V.int) (ns.map PyData.int)
  | [] => .nil
  | z :: zs => .cons (.int z) (dp_ints zs)
theorem lay_ints : ∀ ns : List Int, PyData.canLayAll0 (ns.map PyData.int) = true
  | [] => rfl
  | z :: zs => by
    show (PyData.canLay0 (.int z) && PyData.canLayAll0 (zs.map PyData.int)) = true
    rw [lay_ints zs]; rfl
theorem dep_ints : ∀ ns : List Int, PyData.depthAll (ns.map PyData.int) ≤ 1
  | [] => Nat.zero_le _
  | z :: zs => by
    have := dep_ints zs
    simp only [List.map_cons, PyData.depthAll, PyData.depth]
    omega
theorem shp_ints (ns : List Int) : SeqAt.shaped (.list (ns.map PyData.int)) = true := by
  unfold SeqAt.shaped
  have h1 : PyData.canLay0 (.list (ns.map PyData.int)) = true := lay_ints ns
  have h2 := dep_ints ns
  have h3 : PyData.depth (.list (ns.map PyData.int)) ≤ 64 := by simp only [PyData.depth]; omega
  rw [h1, decide_eq_true h3]; rfl
theorem ok_upto {fd : FuncData} (F : FnP K "_law_upto" s__law_upto fd) (T : TX mg) (D__law_churned : Df P w K mg base "_law_churned" 1 p__law_churned spChurned) : FnOk P w K mg base CX0 2 (He.fAd K ("_law_upto", none)) fd p__law_upto spUpto := by
  refine okP F sc__law_upto (fun vs H Q E h => by obtain ⟨s, c, l, rfl, _⟩ := h; rfl) (fun A outer s H vs Q E hr h => ?_)
  obtain ⟨u, c, b, rfl, ⟨ns, p, a, r, h1, h2⟩, hb, hb2, k⟩ := h
  have hcu := urn_ne h1 h2
  refine ⟨_, (C8.pss_cut (ps_if (pt_cmpR u_lt (pe_ix (u_ix (K := K) rfl) (pv 0) pe_int (fun _ _ => rfl)) (pv 1) (nomark _))
      (pss_cons (ps_par (i := 2) (j := 3) (by rfl) sc__law_upto.nd rfl rfl (by decide) rfl rfl (pa_cons (pe_ix (u_ix (K := K) rfl) (pv 0) pe_int (fun _ _ => rfl)) (pa_cons (pe_ix (u_ix (K := K) rfl) (pv 0) pe_int (fun _ _ => rfl)) pa_nil)) (by rfl))
      (C8.pss_cut (ps_set (i := 4) sc__law_upto.nd rfl (by first | exact Or.inl rfl | exact Or.inr rfl) (pe_ifExp (pt_cmpR (u_ne (K := K) rfl hr.units) (pv 2) (pe_lst pa_nil) (nomark _)) (pe_ix (u_ix (K := K) rfl) (pv 2) (pe_op u_mod (pv 3) (pe_callB (k_len (K := K) rfl) rfl T.b_len (by decide +kernel) (pa_cons (pv 2) pa_nil))) (fun _ _ => rfl)) pe_int))
      (C8.pss_cut (ps_if (PW.pt (pw_or (pt_cmpR u_ge (pv 3) (pe_callB (k_len (K := K) rfl) rfl T.b_len (by decide +kernel) (pa_cons (pv 2) pa_nil)) (nomark _)) (pw_or1 (pt_cmpR u_lt (pv 4) (pe_op u_pow pe_int pe_int) (nomark _)))))
      (pss_one (ps_set (i := 4) sc__law_upto.nd rfl (by first | exact Or.inl rfl | exact Or.inr rfl) (pe_fn D__law_churned hr (by decide) rfl (pa_cons (pe_op u_mod (pe_callTy call_int1 rfl T.b_int (by decide +kernel) (pa_cons (pv 4) pa_nil)) pe_int) (pa_cons (pv 3) pa_nil)))))
      pss_nil)
      (pss_cons (ps_asg (pe_op (u_add (K := K) rfl) (pv 3) pe_int) (pg_sub (pv 0) pe_int set_list))
      (pss_cons (ps_asg (pv 4) (pg_sub (pv 0) pe_int set_list))
      (pss_one (ps_asg (pv 4) (pg_sub (pv 0) pe_int set_list))))))))
      pss_nil)
      (pss_cons (ps_set (i := 5) sc__law_upto.nd rfl (by first | exact Or.inl rfl | exact Or.inr rfl) (pe_op u_mod (pe_callTy call_int1 rfl T.b_int (by decide +kernel) (pa_cons (pe_ix (u_ix (K := K) rfl) (pv 0) pe_int (fun _ _ => rfl)) pa_nil)) (pv 1)))
      (pss_cons (ps_asg (pe_op u_fdiv (pe_ix (u_ix (K := K) rfl) (pv 0) pe_int (fun _ _ => rfl)) (pv 1)) (pg_sub (pv 0) pe_int set_list))
      (pss_cons (ps_asg (pe_op u_fdiv (pe_ix (u_ix (K := K) rfl) (pv 0) pe_int (fun _ _ => rfl)) (pv 1)) (pg_sub (pv 0) pe_int set_list))
      (pss_one (ps_ret (pv 5))))))), ?_⟩
  refine ⟨fun σ H' => ∃ x y z o3 o4, (∃ o2, σ = [some (.ref u), some (.int b), o2, o3, o4, none]) ∧ GrU u H H' ∧ H' u = some (.lst [.ref c, .int x, .int y, .int z]) ∧ H' c = some (.lst (ns.map V.int)), ?_, ?_⟩
  · refine ⟨_, rfl, x_l (SqL.of h1) rfl ⟨_, rfl, l_ii ⟨_, rfl, ite2 (fun _ => ?_) (fun _ => ?_)⟩⟩⟩
    · refine ⟨_, rfl, x_l (SqL.of h1) rfl ⟨_, rfl, x_l (SqL.of h1) rfl ⟨_, _, rfl, ?_⟩⟩⟩
      -- amount
      refine ⟨fun σ H' => ∃ v : Int, σ = [some (.ref u), some (.int b), some (.ref c), some (.int p), some (.int v), none] ∧ GrU u H H' ∧ H' u = some (.lst [.ref c, .int p, .int a, .int r]) ∧ H' c = some (.lst (ns.map V.int)), ?_, ?_⟩
      · refine ⟨_, rfl, Nat.zero_le _, fun l hl => ?_⟩
        have g1 : Gr H (upd H l (.lst [])) := Gr.new hl
        have e1 : upd H l (.lst []) u = some (.lst [.ref c, .int p, .int a, .int r]) := by rw [upd_ne (ne_of_none h1 hl)]; exact h1
        have e2 : upd H l (.lst []) c = some (.lst (ns.map V.int)) := by rw [upd_ne (ne_of_none h2 hl)]; exact h2
        refine n_data (Dp.lst (SqL.of e2) (dp_ints ns)) (Dp.lst (SqL.of upd_same) .nil) (shp_ints ns) rfl ⟨_, rfl, ?_⟩
        refine ite2 (fun hne => ?_) (fun _ => ⟨0, rfl, g1.u, e1, e2⟩)
        have hpos : 0 < ns.length := by
          cases ns with
          | nil => simp [PyData.eqv, PyData.eqvAll] at hne
          | cons z zs => exact Nat.succ_pos _
        refine ⟨_, rfl, _, rfl, _, rfl, _, _, rfl, .inl ⟨_, SqL.of e2, rfl⟩, ?_⟩
        refine md_ii (by rw [List.length_map]; omega) ?_
        have q0 := Int.fmod_nonneg_of_pos p (b := ((ns.map V.int).length : Int)) (by rw [List.length_map]; omega)
        have q1 := Int.fmod_lt_of_pos p (b := ((ns.map V.int).length : Int)) (by rw [List.length_map]; omega)
        obtain ⟨j, hj⟩ := Int.eq_ofNat_of_zero_le q0
        have hjl : j < ns.length := by
          rw [hj, List.length_map] at q1
          omega
        rw [hj]
        exact x_l (SqL.of e2) (atI_nat (v := .int ns[j]) (by rw [List.getElem?_map, List.getElem?_eq_getElem hjl]; rfl)) ⟨_, rfl, g1.u, e1, e2⟩
      · rintro σ H1 ⟨v, rfl, g1, e1, e2⟩
        -- the churned one
        refine ⟨fun σ H' => ∃ v : Int, σ = [some (.ref u), some (.int b), some (.ref c), some (.int p), some (.int v), none] ∧ H' = H1, ?_, ?_⟩
        · refine ⟨_, rfl, _, rfl, _, _, rfl, .inl ⟨_, SqL.of e2, rfl⟩, ge_ii ⟨_, rfl, ?_⟩⟩
          refine ite2 (fun _ => ?_) (fun _ => ?_)
          · refine ⟨_, rfl, .inl ⟨_, rfl, md_ii (by decide) ⟨_, rfl, _, _, rfl, fun z => ⟨z, rfl, rfl⟩⟩⟩⟩
          · refine ⟨_, rfl, pw_ii ⟨by decide, by decide, by decide⟩ (l_ii ⟨_, rfl, ite2 (fun _ => ?_) (fun _ => ⟨v, rfl, rfl⟩)⟩)⟩
            refine ⟨_, rfl, .inl ⟨_, rfl, md_ii (by decide) ⟨_, rfl, _, _, rfl, fun z => ⟨z, rfl, rfl⟩⟩⟩⟩
        · rintro σ H2 ⟨v, rfl, rfl⟩
          have hcu' := urn_ne e1 e2
          refine ⟨_, rfl, a_ii ⟨_, rfl, _, _, _, _, rfl, rfl, e1, rfl, ?_⟩⟩
          refine ⟨_, rfl, _, rfl, _, _, _, _, rfl, rfl, upd_same, rfl, ?_⟩
          rw [upd_upd]
          refine ⟨_, rfl, _, rfl, _, _, _, _, rfl, rfl, upd_same, rfl, ?_⟩
          rw [upd_upd]
          exact ⟨p + 1, v, v, some (.int p), some (.int v), ⟨some (.ref c), rfl⟩, g1.upd, upd_same, by rw [upd_ne hcu']; exact e2⟩
    · exact ⟨p, a, r, none, none, ⟨none, rfl⟩, GrU.refl _ _, h1, h2⟩
  · rintro σ H' ⟨x, y, z, o3, o4, ⟨o2, rfl⟩, g, e1, e2⟩
    refine ⟨_, rfl, x_l (SqL.of e1) rfl (.inl ⟨_, rfl, ⟨_, rfl, md_ii (by omega) ?_⟩⟩)⟩
    refine ⟨_, rfl, x_l (SqL.of e1) rfl ⟨_, rfl, f_ii ⟨by omega, by omega⟩ ⟨_, rfl, _, _, _, _, rfl, rfl, e1, rfl, ?_⟩⟩⟩
    refine ⟨_, rfl, x_l (SqL.of upd_same) rfl ⟨_, rfl, f_ii ⟨by omega, by omega⟩ ⟨_, rfl, _, _, _, _, rfl, rfl, upd_same, rfl, ?_⟩⟩⟩
    rw [upd_upd]
    refine ⟨_, rfl, k _ _ (Int.fmod_nonneg_of_pos _ hb) (Int.fmod_lt_of_pos _ hb) g.upd ?_⟩
    exact urn_upd e1 e2

theorem ok_choice {fd : FuncData} (F : FnP K "_law_choice" s__law_choice fd) (T : TX mg) (D__law_upto : Df P w K mg base "_law_upto" 2 p__law_upto spUpto) : FnOk P w K mg base CX0 3 (He.fAd K ("_law_choice", none)) fd p__law_choice (spChoice K) := by
  refine okP F sc__law_choice (fun vs H Q E h => by obtain ⟨s, c, l, xs, rfl, _⟩ := h; rfl) (fun A outer s H vs Q E hr h => ?_)
  obtain ⟨u, c, it, xs, rfl, hu, hit, hs, hne, hl, k⟩ := h
  have hpos : 0 < xs.length := List.length_pos_iff.mpr hne
  refine ⟨_, (pss_one (ps_ret (pe_ix (u_ix (K := K) rfl) (pv 1) (pe_fn D__law_upto hr (by decide) rfl (pa_cons (pv 0) (pa_cons (pe_callB (k_len (K := K) rfl) rfl T.b_len (by decide +kernel) (pa_cons (pv 1) pa_nil)) pa_nil))) (fun _ _ => rfl)))), ?_⟩
  have lv : LenV K (.ref it) H xs.length := by
    rcases hs with hs | hs
    · exact .inl ⟨_, hs, rfl⟩
    · exact .inr ⟨_, hs, rfl⟩
  refine ⟨_, rfl, _, rfl, _, rfl, _, _, rfl, lv, ?_⟩
  refine ⟨u, c, _, rfl, hu, by omega, by omega, fun r H' h0 h1 g hu' => ?_⟩
  obtain ⟨j, rfl⟩ := Int.eq_ofNat_of_zero_le h0
  have hj : j < xs.length := by omega
  have hs' : SqL K H' it xs ∨ SqT K H' it xs := by
    rcases hs with ((hs | ⟨o, hs⟩) | hs) | ((hs | ⟨o, hs⟩) | hs)
    · exact .inl (.inl (.inl (g.keep hit hs (fun _ z => by cases z))))
    · exact .inl (.inl (.inr ⟨o, g.keep hit hs (fun _ z => by cases z)⟩))
    · exact .inl (.inr hs)
    · exact .inr (.inl (.inl (g.keep hit hs (fun _ z => by cases z))))
    · exact .inr (.inl (.inr ⟨o, g.keep hit hs (fun _ z => by cases z)⟩))
    · exact .inr (.inr hs)
  have e := atI_nat (xs := xs) (List.getElem?_eq_getElem hj)
  rcases hs' with hs' | hs'
  · exact x_l hs' e (k _ _ (List.getElem_mem hj) g hu')
  · exact x_t hs' e (k _ _ (List.getElem_mem hj) g hu')
theorem ok_equal {fd : FuncData} (F : FnP K "_law_equal" s__law_equal fd) (T : TX mg) : FnG P w K mg base CX0 1 (He.fAd K ("_law_equal", none)) fd p__law_equal (spEqual K) := by
  refine okQ F sc__law_equal (fun vs H Q E h => by obtain ⟨x, y, d, e, rfl, _⟩ := h; rfl) (fun A outer s H vs Q E hgu hr h => ?_)
  obtain ⟨x, y, d, e, rfl, hx, hy, ⟨d1, d2, d3, d4⟩, ⟨e1, e2, e3, e4⟩, k⟩ := h
  refine ⟨_, (pss_one (ps_ret (pe_cmpR (u_eq (K := K) rfl hr.units) (pe_callB (call_reprD hgu hr.units) rfl T.b_repr (by decide +kernel) (pa_cons (pv 0) pa_nil)) (pe_callB (call_reprD hgu hr.units) rfl T.b_repr (by decide +kernel) (pa_cons (pv 1) pa_nil)) (nomark _)))), ?_⟩
  exact ⟨_, rfl, _, _, rfl, hx, d1, d2, d3, d4, _, rfl, _, _, rfl, hy, e1, e2, e3, e4, e_flat rfl k⟩
theorem cut18 {xs : List V} {i : Nat} {x : V} (h : (cutV xs (some 18) (some 60))[i]? = some x) : (cutV xs none (some 18)).length = 18 := by
  have q := (List.getElem?_eq_some_iff.mp h).1
  have e1 : HT.sIx xs.length 0 (some 18) = min 18 xs.length := HT.sIx_nat _ _ 18
  have e2 : HT.sIx xs.length xs.length (some 18) = min 18 xs.length := HT.sIx_nat _ _ 18
  have e3 : HT.sIx xs.length xs.length (some 60) = min 60 xs.length := HT.sIx_nat _ _ 60
  unfold cutV at q ⊢
  rw [List.length_take, List.length_drop] at q ⊢
  rw [e1, e3] at q
  rw [e2, HT.sIx_none]
  omega
theorem ixN_nat {n j : Nat} (h : j < n) : ixN n (j : Int) = some j := by
  unfold ixN
  rw [if_pos (by omega), if_pos (by omega), Int.toNat_natCast]
theorem cut_len (xs : List V) (lo hi : Option Int) : (cutV xs lo hi).length ≤ xs.length := cutV_length xs lo hi
theorem cut_int {ns : List Int} {lo hi : Option Int} {i : Nat} {x : V} (h : (cutV (ns.map V.int) lo hi)[i]? = some x) : ∃ z, x = .int z := by
  have hm := List.mem_of_getElem? h
  unfold cutV at hm
  have h1 := List.mem_of_mem_drop (List.mem_of_mem_take hm)
  obtain ⟨z, _, e⟩ := List.mem_map.mp h1
  exact ⟨z, e.symm⟩
theorem ok_urn_of {fd : FuncData} (F : FnP K "_law_urn_of" s__law_urn_of fd) (T : TX mg) : FnOk P w K mg base CX0 1 (He.fAd K ("_law_urn_of", none)) fd p__law_urn_of (spUrnOf K) := by
  refine okP F sc__law_urn_of (fun vs H Q E h => by obtain ⟨a, ns, rfl, _⟩ := h; rfl) (fun A outer s H vs Q E hr h => ?_)
  obtain ⟨a, ns, rfl, hS, hl, k⟩ := h
  refine ⟨_, (pss_cons (ps_setLc (i := 2) (own := [("cell", 1)]) (g := gName 1) (tt := tYes) rfl sc__law_urn_of.nd rfl rfl (sw_true rfl rfl rfl (by decide +kernel)) (k_list (K := K) rfl (pe_slice (u_sl (K := K) rfl) (pv 0) po_none (po_some pe_int))) (blkOk_by (own := [("cell", 1)]) (N := n__law_urn_of) (sc := defScope s__law_urn_of) (by decide +kernel)) (fun _ _ _ _ _ => (pg_name (i := 1) sc__law_urn_of.nd rfl (by first | exact Or.inl rfl | exact Or.inr rfl))) (fun _ _ _ _ _ => pts_nil) (fun _ _ _ _ _ => (pe_callB call_abs rfl T.b_abs (by decide +kernel) (pa_cons (pv 1) pa_nil))))
      (pss_cons (ps_for PassesOwn.never rfl (k_enum (K := K) rfl rfl T.b_enumerate (pa_cons (pe_slice (u_sl (K := K) rfl) (pv 0) (po_some pe_int) (po_some pe_int)) pa_nil)) (kg_tup 2 (K := K) rfl rfl (pgs_cons (pg_name (i := 3) sc__law_urn_of.nd rfl (by first | exact Or.inl rfl | exact Or.inr rfl)) (pgs_cons (pg_name (i := 1) sc__law_urn_of.nd rfl (by first | exact Or.inl rfl | exact Or.inr rfl)) pgs_nil)))
      (pss_one (ps_asg (pe_op (u_add (K := K) rfl) (pe_ix (u_ix (K := K) rfl) (pv 2) (pe_op u_mod (pv 3) pe_int) (fun _ _ => rfl)) (pe_callB call_abs rfl T.b_abs (by decide +kernel) (pa_cons (pv 1) pa_nil))) (pg_sub (pv 2) (pe_op u_mod (pv 3) pe_int) set_list))))
      (pss_one (ps_ret (pe_lst (pa_cons (pv 2) (pa_cons pe_int (pa_cons pe_int (pa_cons pe_int pa_nil))))))))), ?_⟩
  -- cells = [abs(cell) for cell in script[:18]]
  refine ⟨_, rfl, _, rfl, sl_l hS fun p hp => ⟨p, rfl, ⟨_, SqL.of upd_same⟩, fun D hD => ?_⟩⟩
  have g1 : Gr H (upd H p (.lst (cutV (ns.map V.int) none (some 18)))) := Gr.new hp
  have hpD : p ≠ D := ne_of_none (upd_same (H := H)) hD
  refine lc_list (K := K) (a := p) (xs := cutV (ns.map V.int) none (some 18)) (fun i H' => ∃ zs : List Int, zs.length = i ∧ H' = upd (upd H p (.lst (cutV (ns.map V.int) none (some 18)))) D (.lst (zs.map V.int))) ⟨[], rfl, rfl⟩ ?_ ?_ ?_
  · rintro i H' _ ⟨zs, _, rfl⟩
    exact SqL.of (by rw [upd_ne hpD]; exact upd_same)
  · rintro i x H' hx ⟨zs, hz, rfl⟩
    obtain ⟨z, rfl⟩ := cut_int hx
    refine ⟨rfl, ?_⟩
    refine ⟨_, rfl, z, rfl, zs.map V.int, upd_same, ?_, zs ++ [if z < 0 then -z else z], by rw [List.length_append, hz]; rfl, ?_⟩
    · have := (List.getElem?_eq_some_iff.mp hx).1
      have h2 := cut_len (ns.map V.int) none (some 18)
      rw [List.length_map] at h2 ⊢
      rw [sizeLine_eq]
      omega
    · rw [upd_upd, List.map_append]; rfl
  rintro H' ⟨zs, hz, rfl⟩
  have g2 : Gr H (upd (upd H p (.lst (cutV (ns.map V.int) none (some 18)))) D (.lst (zs.map V.int))) := g1.trans (Gr.new hD)
  have hD0 : H D = none := Gr.free g1 hD
  -- the others are folded in
  refine ⟨_, rfl, _, rfl, _, rfl, sl_l (g2.seqL hS) fun p2 hp2 => ⟨_, _, rfl, SqL.of upd_same, ?_⟩⟩
  have n2 : D ≠ p2 := ne_of_none upd_same hp2
  refine for_enum (xs := cutV (ns.map V.int) (some 18) (some 60)) (fun i σ H' => ∃ (ys : List Int) (o1 o3 : Option V), σ = [some (.ref a), o1, some (.ref D), o3] ∧ ys.length = zs.length ∧ Gr H H' ∧ H' D = some (.lst (ys.map V.int)) ∧ H' p2 = some (.lst (cutV (ns.map V.int) (some 18) (some 60))))
    ⟨zs, _, _, rfl, rfl, g2.trans (Gr.new hp2), by rw [upd_ne n2]; exact upd_same, upd_same⟩ ?_ ?_ ?_
  · rintro i σ H' _ ⟨ys, o1, o3, rfl, _, _, _, h⟩
    exact SqL.of h
  · rintro i x T σ H' hx ⟨ys, o1, o3, rfl, hy, g, h1, h2⟩ hT
    obtain ⟨z, rfl⟩ := cut_int hx
    have h18 : zs.length = 18 := hz.trans (cut18 hx)
    have e1 : upd H' T (.tup [.int (i : Nat), .int z]) D = some (.lst (ys.map V.int)) := by rw [upd_ne (ne_of_none h1 hT)]; exact h1
    have e2 : upd H' T (.tup [.int (i : Nat), .int z]) p2 = some (.lst (cutV (ns.map V.int) (some 18) (some 60))) := by rw [upd_ne (ne_of_none h2 hT)]; exact h2
    refine ⟨_, _, rfl, SqT.of upd_same, rfl, _, _, rfl, _, _, rfl, rfl, ?_⟩
    have q0 := Int.fmod_nonneg_of_pos (i : Int) (b := 18) (by decide)
    have q1 := Int.fmod_lt_of_pos (i : Int) (b := 18) (by decide)
    obtain ⟨j, hj⟩ := Int.eq_ofNat_of_zero_le q0
    have hj2 : j < ys.length := by omega
    refine ⟨_, rfl, _, rfl, md_ii (by decide) ?_⟩
    rw [hj]
    refine x_l (SqL.of e1) (atI_nat (v := .int ys[j]) (by rw [List.getElem?_map, List.getElem?_eq_getElem hj2]; rfl)) ⟨_, rfl, z, rfl, a_ii ?_⟩
    refine ⟨_, rfl, _, rfl, md_ii (by decide) ?_⟩
    rw [hj]
    refine ⟨_, _, _, j, rfl, rfl, e1, ?_, ys.set j (ys[j] + (if z < 0 then -z else z)), _, _, rfl, by rw [List.length_set]; exact hy, (g.trans (Gr.new hT)).upd' hD0, ?_, ?_⟩
    · rw [List.length_map]
      exact ixN_nat hj2
    · rw [upd_same, List.map_set]
    · rw [upd_ne (Ne.symm n2)]; exact e2
  · rintro σ H' ⟨ys, o1, o3, rfl, hy, g, h1, h2⟩
    refine ⟨_, rfl, by show 4 ≤ sizeLine; rw [sizeLine_eq]; decide, fun u hu => ?_⟩
    refine k u D _ (g.free hu) hD0 (g.trans (Gr.new hu)) ⟨ys, 0, 0, 0, upd_same, by rw [upd_ne (ne_of_none h1 hu)]; exact h1⟩
end
end Vf
end
section
set_option Elab.async false
set_option linter.all false
set_option maxRecDepth 100000
set_option maxHeartbeats 4000000
namespace Vf
open PySem PySem.Spec PyProof.Rows L2 GxR GenW RZ
def strV : List Str → List V := List.map V.str
/-- more of the module's names -/
abbrev tb (K : PySem.W.Frag) (x : Str) : Addr := He.tabOf K (He.codeOf K (x, none))
abbrev TBx (K : PySem.W.Frag) (mg : Str → Option Value) (base : Heap) (x : Str) : Prop := TabB base mg (He.codeOf K (x, none)) (tb K x)

/-! ### what they say -/
theorem str_at {ts : List Str} {i : Nat} {x : V} (hx : (strV ts)[i]? = some x) : ∃ t, ts[i]? = some t ∧ x = .str t := by
  unfold strV at hx
  rw [List.getElem?_map] at hx
  cases e : ts[i]? with
  | none => rw [e] at hx; cases hx
  | some t => rw [e] at hx; exact ⟨t, rfl, (Option.some.inj hx).symm⟩
theorem isStr_iff {d : PyData} : isaD "str" d = true ↔ ∃ x, d = .str x := by
  cases d <;> simp [isaD]
theorem ddA_len {K : PySem.W.Frag} {H : Hp} : ∀ {xs : List V} {ds : List PyData}, DdAll K H xs ds → xs.length = ds.length
  | _, [], h => by cases h; rfl
  | _, d :: ds, h => by
    cases h with
    | cons _ h2 => rw [List.length_cons, List.length_cons, ddA_len h2]
theorem ddA_at {K : PySem.W.Frag} {H : Hp} : ∀ {xs : List V} {ds : List PyData} {i : Nat} {x : V}, DdAll K H xs ds → xs[i]? = some x → ∃ d, ds[i]? = some d ∧ Dd K H x d
  | _, [], i, x, h, e => by cases h; simp at e
  | _, d :: ds, 0, x, h, e => by
    cases h with
    | cons h1 h2 => simp at e; subst e; exact ⟨d, rfl, h1⟩
  | _, d :: ds, i + 1, x, h, e => by
    cases h with
    | cons h1 h2 =>
      obtain ⟨d', e', q⟩ := ddA_at (i := i) h2 (by simpa using e)
      exact ⟨d', by simpa using e', q⟩
def strsOf : List PyData → Option (List Str)
  | [] => some []
  | .str x :: r => (strsOf r).map (x :: ·)
  | _ => none
theorem strsOf_len : ∀ {ds : List PyData} {ts : List Str}, strsOf ds = some ts → ts.length = ds.length
  | [], _, h => by cases h; rfl
  | .str x :: r, ts, h => by
    have h : (strsOf r).map (x :: ·) = some ts := h
    cases q : strsOf r with
    | none => rw [q] at h; cases h
    | some us =>
      rw [q] at h
      cases h
      rw [List.length_cons, List.length_cons, strsOf_len q]
  | .none :: _, _, h => by cases h
  | .bool _ :: _, _, h => by cases h
  | .int _ :: _, _, h => by cases h
  | .list _ :: _, _, h => by cases h
  | .tuple _ :: _, _, h => by cases h
  | .dict _ :: _, _, h => by cases h
theorem strsOf_mem : ∀ {ds : List PyData} {ts : List Str}, strsOf ds = some ts → ∀ t ∈ ts, PyData.str t ∈ ds
  | [], _, h, t, ht => by cases h; cases ht
  | .str x :: r, ts, h, t, ht => by
    have h : (strsOf r).map (x :: ·) = some ts := h
    cases q : strsOf r with
    | none => rw [q] at h; cases h
    | some us =>
      rw [q] at h
      cases h
      rcases List.mem_cons.mp ht with rfl | ht
      · exact List.mem_cons_self
      · exact List.mem_cons_of_mem _ (strsOf_mem q t ht)
  | .none :: _, _, h, _, _ => by cases h
  | .bool _ :: _, _, h, _, _ => by cases h
  | .int _ :: _, _, h, _, _ => by cases h
  | .list _ :: _, _, h, _, _ => by cases h
  | .tuple _ :: _, _, h, _, _ => by cases h
  | .dict _ :: _, _, h, _, _ => by cases h
theorem strs_all {K : PySem.W.Frag} {H : Hp} : ∀ {xs : List V} {ds : List PyData}, DdAll K H xs ds → (∀ d ∈ ds, isaD "str" d = true) → ∃ ts, xs = strV ts ∧ strsOf ds = some ts
  | _, [], h, _ => by cases h; exact ⟨[], rfl, rfl⟩
  | _, d :: ds, h, k => by
    cases h with
    | cons h1 h2 =>
      obtain ⟨ts, e1, e2⟩ := strs_all h2 fun z hz => k z (List.mem_cons_of_mem _ hz)
      obtain ⟨x, rfl⟩ := isStr_iff.mp (k d List.mem_cons_self)
      cases h1
      refine ⟨x :: ts, by rw [e1]; rfl, ?_⟩
      show (strsOf ds).map (x :: ·) = _
      rw [e2]; rfl
theorem strs_none : ∀ {ds : List PyData}, (∃ d ∈ ds, isaD "str" d = false) → strsOf ds = none
  | [], ⟨d, h, _⟩ => by simp at h
  | d :: ds, ⟨z, hz, e⟩ => by
    rcases List.mem_cons.mp hz with rfl | hz
    · cases z <;> first | rfl | simp [isaD] at e
    · have ih := strs_none ⟨z, hz, e⟩
      cases d <;> first | rfl | (show (strsOf ds).map _ = none; rw [ih]; rfl)
theorem k_bm {X : Cx} {K : PySem.W.Frag} {T name id : String} {r : V → List V → Hp → VK → Prop} {o e : Expr} {es : List Expr} {to : TE} {t : TA} {apos cpos : Pos} (hK : X.K = K) (pa : PlainAttrs T) (slot : Slot T name id) (hty : typeOf (.builtin id) = pure (.type "method_descriptor")) (hm : MtR X id r) (ho : PE X o to) (ha : PA X (e :: es) t)
    (hbase : attributeBase o name X.env (eval o X.env) = eval o X.env := by rfl)
    (hfew : ((backTo cpos (starEach (e :: es) X.env)).all (fun x => !x.1) && (backToKw cpos (keywordEach [] X.env)).all (fun x => x.1.isSome)
      && decide ((e :: es).length + ([] : List Keyword).length + (if ([] : List Keyword).isEmpty then 0 else 1) < 30)) = true := by rfl)
    (hline : (apos.endLine == cpos.line) = true := by rfl) (hs : starEach (e :: es) X.env = (false, eval e X.env) :: starEach es X.env := by rfl) (hplain : (backTo cpos (starEach es X.env)).any (·.1) = false := by rfl) :
    PE X (.Call (.Attribute o name apos) (e :: es) [] cpos) (tBM K T r to t) := by
  subst hK
  exact pe_bm pa slot hty hm ho ha hbase hfew hline hs hplain
@[elab_as_elim] theorem newH {C : Hp → Prop} {H : Hp} {p : Addr} {o : HO} (h : H p = none) (k : ∀ H1, Gr H H1 → H1 p = some o → C H1) : C (upd H p o) := k _ (Gr.new h) upd_same
theorem Gr.lst {H H' : Hp} (g : Gr H H') {p : Addr} {xs : List V} (h : H p = some (.lst xs)) : H' p = some (.lst xs) := g.keep h (fun _ z => by cases z)
theorem Gr.tup {H H' : Hp} (g : Gr H H') {p : Addr} {xs : List V} (h : H p = some (.tup xs)) : H' p = some (.tup xs) := g.keep h (fun _ z => by cases z)
theorem m_ll {K : PySem.W.Frag} {H : Hp} {Q : VK} {l : Addr} {k : Int} {xs : List V} (h1 : H l = some (.lst xs)) (h2 : -(2 ^ 63) ≤ k) (h3 : k < 2 ^ 63) (h4 : xs.length * k.toNat ≤ sizeLine) (q : ∀ p, H p = none → Q (.ref p) (upd H p (.lst (List.replicate k.toNat xs).flatten))) : rMu K (.ref l) (.int k) H Q := ⟨.inr (.inr (.inl ⟨_, _, _, rfl, rfl, h1, h2, h3, h4, q⟩))⟩
theorem dp_strs {K : PySem.W.Frag} {H : Hp} : ∀ ts : List Str, DpAll K H (strV ts) (ts.map PyData.str)
  | [] => .nil
  | z :: zs => .cons (.str z) (dp_strs zs)
theorem lay_strs : ∀ ts : List Str, (∀ t ∈ ts, PyData.canLay0 (.str t) = true) → PyData.canLayAll0 (ts.map PyData.str) = true
  | [], _ => rfl
  | z :: zs, h => by
    show (PyData.canLay0 (.str z) && PyData.canLayAll0 (zs.map PyData.str)) = true
    rw [lay_strs zs fun t ht => h t (List.mem_cons_of_mem _ ht), h z List.mem_cons_self]; rfl
theorem dep_strs : ∀ ts : List Str, PyData.depthAll (ts.map PyData.str) ≤ 1
  | [] => Nat.zero_le _
  | z :: zs => by
    have := dep_strs zs
    simp only [List.map_cons, PyData.depthAll, PyData.depth]
    omega
theorem shp_strsT {ts : List Str} (h : ∀ t ∈ ts, PyData.canLay0 (.str t) = true) : SeqAt.shaped (.tuple (ts.map PyData.str)) = true := by
  unfold SeqAt.shaped
  have h1 : PyData.canLay0 (.tuple (ts.map PyData.str)) = true := lay_strs ts h
  have h2 := dep_strs ts
  have h3 : PyData.depth (.tuple (ts.map PyData.str)) ≤ 64 := by simp only [PyData.depth]; omega
  rw [h1, decide_eq_true h3]; rfl
theorem k_truth {X : Cx} {K : PySem.W.Frag} {a : Expr} {ta : TE} (hK : X.K = K) (ha : PE X a ta) (he : ∀ whole, isTrue a X.env whole = (do let v ← whole; standAt a.pos; holding [v] (truthy v))) :
    PT X a (fun σ H Q => ta σ H fun x H' => ∃ k, TruV K x H' k ∧ Q k H') := by
  subst hK
  exact pt_truth ha he
theorem Urn.ne {c u : Addr} {H : Hp} (h : Urn c H u) : c ≠ u := by
  obtain ⟨ns, p, a, r, h1, h2⟩ := h
  exact urn_ne h1 h2
theorem Urn.gr {c u : Addr} {H H' : Hp} (h : Urn c H u) (g : Gr H H') : Urn c H' u := by
  obtain ⟨ns, p, a, r, h1, h2⟩ := h
  exact ⟨ns, p, a, r, g.keep h1 (fun _ z => by cases z), g.keep h2 (fun _ z => by cases z)⟩
theorem Urn.updD {c u D : Addr} {H : Hp} {o : HO} (h : Urn c H u) (n1 : D ≠ u) (n2 : D ≠ c) : Urn c (upd H D o) u := by
  obtain ⟨ns, p, a, r, h1, h2⟩ := h
  exact ⟨ns, p, a, r, by rw [upd_ne (Ne.symm n1)]; exact h1, by rw [upd_ne (Ne.symm n2)]; exact h2⟩
theorem Urn.ou {c u D : Addr} {H : Hp} (h : Urn c H u) (n : H D = none) : D ≠ u := by
  obtain ⟨ns, p, a, r, h1, h2⟩ := h
  exact Ne.symm (ne_of_none h1 n)
theorem Urn.oc {c u D : Addr} {H : Hp} (h : Urn c H u) (n : H D = none) : D ≠ c := by
  obtain ⟨ns, p, a, r, h1, h2⟩ := h
  exact Ne.symm (ne_of_none h2 n)
theorem gruD {u D : Addr} {H H' : Hp} {o : HO} (g : GrU u H H') (h : H D = none) : GrU u H (upd H' D o) := fun b w hb e => by
  rw [upd_ne (ne_of_none e h)]
  exact g b w hb e
theorem GrU.free {u b : Addr} {H H' : Hp} (g : GrU u H H') (hb : b ≠ u) (h : H' b = none) : H b = none := by
  cases q : H b with
  | none => rfl
  | some o =>
    rcases g b o hb q with h1 | ⟨_, _, _, h1, _⟩
    · rw [h] at h1; cases h1
    · rw [h] at h1; cases h1
theorem GrU.seqT {K : PySem.W.Frag} {u c a : Addr} {H H' : Hp} {xs : List V} (g : GrU u H H') (hu : Urn c H u) (h : SqT K H a xs) : SqT K H' a xs := by
  rcases h with (h | ⟨o, h⟩) | h
  · exact .inl (.inl (g.notu hu h (fun _ z => by cases z) (fun _ z => by cases z)))
  · exact .inl (.inr ⟨o, g.notu hu h (fun _ z => by cases z) (fun _ z => by cases z)⟩)
  · exact .inr h
def sS (x : Str) : List Str := x.cps.toList.map fun c => ⟨#[c]⟩
theorem sgn_strV (x : Str) : sgn x = strV (sS x) := by unfold strV sS; rw [List.map_map]; rfl
theorem bt {b : Bool} (h : ¬ (!b) = true) : b = true := by cases b <;> simp at h ⊢
theorem inV_str {x : Str} {l : List Str} : inV (.str x) (strV l) = true ↔ x ∈ l := by
  unfold inV strV
  rw [List.any_map, List.any_eq_true]
  constructor
  · rintro ⟨y, hy, e⟩
    have e : (y == x) = true := e
    have e := eq_of_beq e
    exact e ▸ hy
  · intro h
    exact ⟨x, h, show (x == x) = true from beq_self_eq_true x⟩
theorem strsOf_in : ∀ {ds : List PyData} {ts : List Str}, strsOf ds = some ts → ∀ t, PyData.str t ∈ ds → t ∈ ts
  | .str x :: r, ts, h, t, ht => by
    have h : (strsOf r).map (x :: ·) = some ts := h
    cases q : strsOf r with
    | none => rw [q] at h; cases h
    | some us =>
      rw [q] at h
      cases h
      rcases List.mem_cons.mp ht with e | ht
      · cases e; exact List.mem_cons_self
      · exact List.mem_cons_of_mem _ (strsOf_in q t ht)
  | .none :: _, _, h, _, _ => by cases h
  | .bool _ :: _, _, h, _, _ => by cases h
  | .int _ :: _, _, h, _, _ => by cases h
  | .list _ :: _, _, h, _, _ => by cases h
  | .tuple _ :: _, _, h, _, _ => by cases h
  | .dict _ :: _, _, h, _, _ => by cases h
theorem ddA_snoc {K : PySem.W.Frag} {H : Hp} : ∀ {ys : List V} {es : List PyData} {x : V} {d : PyData}, DdAll K H ys es → Dd K H x d → DdAll K H (ys ++ [x]) (es ++ [d])
  | _, [], _, _, h, k => by cases h; exact .cons k .nil
  | _, _ :: _, _, _, h, k => by
    cases h with
    | cons a b => exact .cons a (ddA_snoc b k)
theorem len0 {x : Str} : x.length = 0 ↔ x = "" := by
  constructor
  · intro h
    obtain ⟨⟨l⟩⟩ := x
    have h : l.length = 0 := h
    cases l with
    | nil => rfl
    | cons a b => cases h
  · rintro rfl
    rfl
theorem canLayAll_mem : ∀ {ds : List PyData}, PyData.canLayAll0 ds = true → ∀ d ∈ ds, PyData.canLay0 d = true
  | d :: ds, h, e, he => by
    have h : (PyData.canLay0 d && PyData.canLayAll0 ds) = true := h
    rw [Bool.and_eq_true] at h
    rcases List.mem_cons.mp he with rfl | he
    · exact h.1
    · exact canLayAll_mem h.2 e he
theorem canLayAll_of : ∀ {ds : List PyData}, (∀ d ∈ ds, PyData.canLay0 d = true) → PyData.canLayAll0 ds = true
  | [], _ => rfl
  | d :: ds, h => by
    show (PyData.canLay0 d && PyData.canLayAll0 ds) = true
    rw [h d List.mem_cons_self, canLayAll_of fun e he => h e (List.mem_cons_of_mem _ he)]; rfl
theorem depAll_mem : ∀ {ds : List PyData} {k : Nat}, PyData.depthAll ds ≤ k → ∀ d ∈ ds, d.depth ≤ k
  | d :: ds, k, h, e, he => by
    have h : max (PyData.depth d) (PyData.depthAll ds) ≤ k := h
    rcases List.mem_cons.mp he with rfl | he
    · omega
    · exact depAll_mem (by omega) e he
theorem depAll_of : ∀ {ds : List PyData} {k : Nat}, (∀ d ∈ ds, d.depth ≤ k) → PyData.depthAll ds ≤ k
  | [], k, _ => Nat.zero_le _
  | d :: ds, k, h => by
    show max (PyData.depth d) (PyData.depthAll ds) ≤ k
    have h1 := h d List.mem_cons_self
    have h2 := depAll_of fun e he => h e (List.mem_cons_of_mem _ he)
    omega
mutual
theorem dp_dd {K : PySem.W.Frag} {H : Hp} : ∀ (d : PyData) (v : V), Dd K H v d → PyData.canLay0 d = true → Dp K H v d
  | .none, _, h, _ => by cases h; exact .non
  | .bool _, _, h, _ => by cases h; exact .bl _
  | .int _, _, h, _ => by cases h; exact .int _
  | .str _, _, h, _ => by cases h; exact .str _
  | .list ds, _, h, c => by
    cases h with
    | lst a b => exact .lst a (dp_ddA ds _ b c)
  | .tuple ds, _, h, c => by
    cases h with
    | tup a b => exact .tup a (dp_ddA ds _ b c)
  | .dict _, _, h, c => by cases c
theorem dp_ddA {K : PySem.W.Frag} {H : Hp} : ∀ (ds : List PyData) (vs : List V), DdAll K H vs ds → PyData.canLayAll0 ds = true → DpAll K H vs ds
  | [], _, h, _ => by cases h; exact .nil
  | d :: ds, _, h, c => by
    have c : (PyData.canLay0 d && PyData.canLayAll0 ds) = true := c
    rw [Bool.and_eq_true] at c
    cases h with
    | cons a b => exact .cons (dp_dd d _ a c.1) (dp_ddA ds _ b c.2)
end
theorem shp_list {ds : List PyData} (h1 : PyData.canLayAll0 ds = true) (h2 : PyData.depthAll ds ≤ 60) : SeqAt.shaped (.list ds) = true := by
  unfold SeqAt.shaped
  have h3 : PyData.depth (.list ds) ≤ 64 := by simp only [PyData.depth]; omega
  have h1 : PyData.canLay0 (.list ds) = true := h1
  rw [h1, decide_eq_true h3]; rfl
theorem eqv_nil (ds : List PyData) : PyData.eqv (.list ds) (.list []) = ds.isEmpty := by
  cases ds <;> simp [PyData.eqv, PyData.eqvAll]
theorem showAll_of : ∀ {ds : List PyData}, (∀ d ∈ ds, d.showable = true) → PyData.showableAll ds = true
  | [], _ => rfl
  | d :: ds, h => by
    show (PyData.showable d && PyData.showableAll ds) = true
    rw [h d List.mem_cons_self, showAll_of fun e he => h e (List.mem_cons_of_mem _ he)]; rfl
theorem shownAll_sum {k : Nat} : ∀ {ds : List PyData}, (∀ d ∈ ds, d.shown.length ≤ k) → ((PyData.shownAll ds).map fun x => x.length).sum ≤ ds.length * k ∧ (PyData.shownAll ds).length = ds.length
  | [], _ => ⟨Nat.zero_le _, rfl⟩
  | d :: ds, h => by
    obtain ⟨h1, h2⟩ := shownAll_sum fun e he => h e (List.mem_cons_of_mem _ he)
    have h3 := h d List.mem_cons_self
    refine ⟨?_, by show (PyData.shownAll ds).length + 1 = _; rw [h2]; rfl⟩
    show d.shown.length + ((PyData.shownAll ds).map fun x => x.length).sum ≤ (ds.length + 1) * k
    rw [Nat.add_mul]
    omega
def Wo (S : List Addr) (H : Hp) : Hp := fun b => if b ∈ S then none else H b
theorem wo_gr (S : List Addr) (H : Hp) : Gr (Wo S H) H := fun b o e => by
  unfold Wo at e
  split at e
  · cases e
  · exact .inl e
theorem wo_some {S : List Addr} {H : Hp} {b : Addr} {o : HO} (h : b ∉ S) (e : H b = some o) : Wo S H b = some o := by
  unfold Wo
  rw [if_neg h]
  exact e
theorem Gr.wo {H H' : Hp} (g : Gr H H') (S : List Addr) : Gr (Wo S H) (Wo S H') := fun b o e => by
  unfold Wo at e ⊢
  split at e
  · cases e
  · rename_i h
    rw [if_neg h]
    exact g b o e
theorem GrU.wo {u : Addr} {H H' : Hp} (g : GrU u H H') {S : List Addr} (hu : u ∈ S) : Gr (Wo S H) (Wo S H') := fun b o e => by
  unfold Wo at e ⊢
  split at e
  · cases e
  · rename_i h
    rw [if_neg h]
    exact g b o (fun z => h (z ▸ hu)) e
theorem wo_upd {S : List Addr} {H : Hp} {D : Addr} {o : HO} (h : D ∈ S) : Wo S (upd H D o) = Wo S H := by
  funext b
  unfold Wo
  split
  · rfl
  · rename_i hb
    exact upd_ne fun z => hb (z ▸ h)
theorem wo_more {u D : Addr} {H : Hp} {o : HO} (h : H D = none) : Gr (Wo [u] H) (Wo [u, D] (upd H D o)) := fun b w e => by
  unfold Wo at e ⊢
  split at e
  · cases e
  · rename_i hb
    have n : b ≠ D := ne_of_none e h
    rw [if_neg (by
      intro z
      rcases List.mem_cons.mp z with z | z
      · exact hb (by rw [z]; exact List.mem_cons_self)
      · exact n (List.mem_singleton.mp z)), upd_ne n]
    exact .inl e
theorem a_ttW {K : PySem.W.Frag} {S : List Addr} {H : Hp} {Q : VK} {a b : Addr} {xs ys : List V} (h1 : SqT K (Wo S H) a xs) (h2 : SqT K (Wo S H) b ys) (h : xs.length + ys.length ≤ sizeLine) (hs : ∀ p, H p = none → p ∉ S)
    (q : ∀ p H', Gr H H' → SqT K (Wo S H') p (xs ++ ys) → Q (.ref p) H') : rAdd K (.ref a) (.ref b) H Q := by
  refine a_tt ((wo_gr S H).seqT h1) ((wo_gr S H).seqT h2) h (fun z => ?_) (fun _ z => ?_) (fun _ _ p hp => ?_)
  · subst z
    exact q b H (Gr.refl H) h2
  · subst z
    rw [List.append_nil] at q
    exact q a H (Gr.refl H) h1
  · exact newH hp fun H1 g1 s1 => q p H1 g1 (SqT.of (wo_some (hs p hp) s1))
theorem dd_strs {K : PySem.W.Frag} {H : Hp} : ∀ ts : List Str, DdAll K H (strV ts) (ts.map PyData.str)
  | [] => .nil
  | z :: zs => .cons (.str z) (dd_strs zs)
theorem ddA_app {K : PySem.W.Frag} {H : Hp} : ∀ {xs ys : List V} {ds es : List PyData}, DdAll K H xs ds → DdAll K H ys es → DdAll K H (xs ++ ys) (ds ++ es)
  | _, _, [], _, h, k => by cases h; exact k
  | _, _, _ :: _, _, h, k => by
    cases h with
    | cons a b => exact .cons a (ddA_app b k)
theorem nin2 {p u D : Addr} (h : p ∉ [u]) (n : p ≠ D) : p ∉ [u, D] := fun z => by
  rcases List.mem_cons.mp z with z | z
  · exact h (by rw [z]; exact List.mem_cons_self)
  · exact n (List.mem_singleton.mp z)
theorem wo_sub {S S' : List Addr} (h : ∀ b, b ∈ S' → b ∈ S) (H : Hp) : Gr (Wo S H) (Wo S' H) := fun b o e => by
  unfold Wo at e ⊢
  split at e
  · cases e
  · rename_i hb
    rw [if_neg fun z => hb (h b z)]
    exact .inl e
theorem GrU.tabG {u c P : Addr} {H H' : Hp} (g : GrU u H H') (hu : Urn c H u) (h : TabG H P) : TabG H' P := by
  obtain ⟨ps, h1, t1⟩ := h
  have n : P ≠ u := by
    rintro rfl
    obtain ⟨_, _, _, _, h2, _⟩ := hu
    rw [h1] at h2
    cases h2
  rcases g P _ n h1 with q | ⟨qs, more, e, q, t⟩
  · exact ⟨ps, q, t1⟩
  · cases e
    exact ⟨_, q, t t1⟩
theorem tabG_upd {H : Hp} {P D : Addr} {xs : List V} {o : HO} (h : TabG H P) (hD : H D = some (.lst xs)) : TabG (upd H D o) P := by
  obtain ⟨ps, h1, t1⟩ := h
  have n : P ≠ D := by
    rintro rfl
    rw [h1] at hD
    cases hD
  exact ⟨ps, by rw [upd_ne n]; exact h1, t1⟩
theorem ddA_mem {K : PySem.W.Frag} {H : Hp} {xs : List V} {ds : List PyData} {x : V} (h : DdAll K H xs ds) (hx : x ∈ xs) : ∃ d ∈ ds, Dd K H x d := by
  obtain ⟨i, hi⟩ := List.getElem?_of_mem hx
  obtain ⟨d, e, q⟩ := ddA_at h hi
  exact ⟨d, List.mem_of_getElem? e, q⟩
theorem cut_strs (fm : List Str) (lo hi : Option Int) : ∃ ts, cutV (strV fm) lo hi = strV ts ∧ (∀ t ∈ ts, t ∈ fm) ∧ ts.length ≤ fm.length := by
  unfold cutV strV
  rw [← List.map_drop, ← List.map_take]
  refine ⟨_, rfl, fun t ht => List.mem_of_mem_drop (List.mem_of_mem_take ht), ?_⟩
  rw [List.length_take, List.length_drop]
  omega
theorem sl_tW {K : PySem.W.Frag} {S : List Addr} {H : Hp} {Q : VK} {a : Addr} {fm : List Str} {lo hi : Option Int} (h1 : SqT K (Wo S H) a (strV fm)) (hs : ∀ p, H p = none → p ∉ S)
    (q : ∀ p H' ts, Gr H H' → SqT K (Wo S H') p (strV ts) → (∀ t ∈ ts, t ∈ fm) → ts.length ≤ fm.length → Q (.ref p) H') : rSlU K (.ref a) lo hi H Q := by
  refine sl_t ((wo_gr S H).seqT h1) (fun _ => q a H fm (Gr.refl H) h1 (fun _ z => z) (Nat.le_refl _)) (fun _ p hp => ?_)
  obtain ⟨ts, e, m, l⟩ := cut_strs fm lo hi
  rw [e]
  exact newH hp fun H1 g1 s1 => q p H1 ts g1 (SqT.of (wo_some (hs p hp) s1)) m l
end Vf
end
section
set_option Elab.async false
set_option linter.all false
set_option maxRecDepth 100000
set_option maxHeartbeats 4000000
namespace Vf
open PySem PySem.Spec PyProof.Rows L2 GxR GenW RZ
def okI : List Int := [-1, 0, 1, 2, 3, 4, 5, 6, 7, 8, 100000000000000000000]
def aS (x : Str) : Bool := x.cps.all (· < 128)
theorem aS_lay {x : Str} (h : aS x = true) : PyData.canLay0 (.str x) = true := by
  unfold aS at h
  simp only [PyData.canLay0, PyData.strOk]
  rw [← Array.all_toList, List.all_eq_true] at h ⊢
  intro c hc
  have q : c < 128 := by simpa using h c hc
  exact decide_eq_true (by omega)
/-- what is allowed within: lists, dicts, or neither (and small ints alone) -/
inductive Md | l | d | s
def Md.L : Md → Bool | .l => true | _ => false
def Md.D : Md → Bool | .d => true | _ => false
def Md.I : Md → List Int | .s => [0, 1, 2, 3, 4, 5, 6] | _ => okI
def Md.T : Md → Str → Bool | .s, x => aS x | _, x => PyData.canLay0 (.str x)
theorem Md.of {m : Md} {x : Str} (h : aS x = true) : m.T x = true := by
  cases m with
  | s => exact h
  | _ => exact aS_lay h
theorem Md.ok {m : Md} {i : Int} (h : i ∈ m.I) : i ∈ okI := by
  cases m with
  | l => exact h
  | d => exact h
  | s =>
    have h' : i ∈ ([0, 1, 2, 3, 4, 5, 6] : List Int) := h
    simp only [List.mem_cons, List.not_mem_nil, or_false] at h'
    rcases h' with rfl | rfl | rfl | rfl | rfl | rfl | rfl <;> decide
mutual
/-- an upper bound of the length of what repr shows -/
def sz : PyData → Nat
  | .none => 4
  | .bool _ => 5
  | .int _ => 40
  | .str x => 10 * x.length + 2
  | .list ds => szA ds + 3
  | .tuple ds => szA ds + 3
  | .dict _ => 2
def szA : List PyData → Nat
  | [] => 0
  | d :: ds => sz d + 2 + szA ds
end
mutual
/-- no lists (m false) or no dicts (m true) within; small ints; texts that can be laid -/
def fi (m : Md) : PyData → Bool
  | .none => true
  | .bool _ => true
  | .int i => decide (i ∈ m.I)
  | .str x => m.T x
  | .list ds => m.L && fiA m ds
  | .tuple ds => fiA m ds
  | .dict kvs => m.D && kvs.isEmpty
def fiA (m : Md) : List PyData → Bool
  | [] => true
  | d :: ds => fi m d && fiA m ds
end
theorem fiA_mem {m : Md} : ∀ {ds : List PyData}, fiA m ds = true ↔ ∀ d ∈ ds, fi m d = true
  | [] => by simp [fiA]
  | d :: ds => by
    show (fi m d && fiA m ds) = true ↔ _
    rw [Bool.and_eq_true, fiA_mem (ds := ds)]
    simp
mutual
theorem fi_nl : ∀ d : PyData, fi .d d = true → noLst d = true
  | .none, _ => rfl
  | .bool _, _ => rfl
  | .int _, _ => rfl
  | .str _, _ => rfl
  | .list ds, h => by
    have h' : (false && fiA .d ds) = true := h
    cases h'
  | .tuple ds, h => fiA_nl ds h
  | .dict kvs, h => rfl
theorem fiA_nl : ∀ ds : List PyData, fiA .d ds = true → noLstA ds = true
  | [], _ => rfl
  | d :: ds, h => by
    have h' : (fi .d d && fiA .d ds) = true := h
    rw [Bool.and_eq_true] at h'
    show (noLst d && noLstA ds) = true
    rw [fi_nl d h'.1, fiA_nl ds h'.2]; rfl
end
structure Clz (b n : Nat) (d : PyData) : Prop where
  hf : ∀ m, fi m d = true
  hz : sz d ≤ b
  hp : d.depth ≤ n
theorem Clz.mono {b b' n n' : Nat} {d : PyData} (h : Clz b n d) (h1 : b ≤ b') (h2 : n ≤ n') : Clz b' n' d := ⟨h.hf, Nat.le_trans h.hz h1, Nat.le_trans h.hp h2⟩
theorem Clz.str {x : Str} {k : Nat} (h : x.length ≤ k) (hl : aS x = true) : Clz (10 * k + 2) 0 (.str x) := ⟨fun _ => Md.of hl, by show 10 * x.length + 2 ≤ _; omega, by simp only [PyData.depth]; omega⟩
theorem Clz.bl (b : Bool) : Clz 5 0 (.bool b) := ⟨fun _ => rfl, Nat.le_refl _, by simp only [PyData.depth]; omega⟩
theorem Clz.int {i : Int} (h : ∀ m : Md, i ∈ m.I) : Clz 40 0 (.int i) := ⟨fun m => decide_eq_true (h m), Nat.le_refl _, by simp only [PyData.depth]; omega⟩
theorem Clz.tup {ds : List PyData} {b n : Nat} (h1 : ∀ d ∈ ds, (∀ m, fi m d = true) ∧ d.depth ≤ n) (h2 : szA ds ≤ b) : Clz (b + 3) (n + 1) (.tuple ds) := by
  refine ⟨fun m => fiA_mem.mpr fun d hd => (h1 d hd).1 m, by show szA ds + 3 ≤ _; omega, ?_⟩
  have q := depAll_of (k := n) fun d hd => (h1 d hd).2
  simp only [PyData.depth]
  omega
abbrev cps (x : Str) : List Nat := x.cps.toList
theorem cps_app (a b : Str) : cps (a ++ b) = cps a ++ cps b := by
  show (a.cps ++ b.cps).toList = _
  rw [Array.toList_append]
theorem cps_len (a : Str) : (cps a).length = a.length := Array.length_toList
abbrev Mk3 : Type := Str × Bool × Bool
abbrev Pc : Type := Str × Mk3
abbrev Ch : Type := Nat × Mk3
abbrev Fc : Type := List Ch
abbrev Fln : Type := Nat × List Fc
abbrev Fm : Type := List Fln
def chS (c : Nat) : Str := ⟨#[c]⟩
def putp (c : List Pc) (p : Pc) : List Pc := match c.getLast? with
  | some q => if q.2 = p.2 then c.dropLast ++ [(q.1 ++ p.1, p.2)] else c ++ [p]
  | none => [p]
theorem putp_snoc (c : List Pc) (q p : Pc) : putp (c ++ [q]) p = if q.2 = p.2 then c ++ [(q.1 ++ p.1, p.2)] else c ++ [q] ++ [p] := by
  unfold putp
  rw [List.getLast?_concat, List.dropLast_concat]
theorem snoc_cases {α : Type} (c : List α) : c = [] ∨ ∃ d q, c = d ++ [q] := by
  by_cases h : c = []
  · exact .inl h
  · exact .inr ⟨c.dropLast, c.getLast h, (List.dropLast_concat_getLast h).symm⟩
def fl (ps : List Pc) : Fc := ps.flatMap fun p => (cps p.1).map fun c => (c, p.2)
theorem fl_app (a b : List Pc) : fl (a ++ b) = fl a ++ fl b := List.flatMap_append
theorem fl_one (p : Pc) : fl [p] = (cps p.1).map fun c => (c, p.2) := by simp [fl]
theorem fl_put (c : List Pc) (p : Pc) : fl (putp c p) = fl c ++ fl [p] := by
  rcases snoc_cases c with rfl | ⟨d, q, rfl⟩
  · rfl
  · rw [putp_snoc]
    split
    · rename_i e
      rw [fl_app, fl_app, fl_one, fl_one, fl_one, cps_app, List.map_append, List.append_assoc, e]
    · rw [fl_app]
def stepC (c : List Pc) (x : Ch) : List Pc := putp c (chS x.1, x.2)
def cn (xs : Fc) : List Pc := xs.foldl stepC []
theorem fl_fold : ∀ (xs : Fc) (c : List Pc), fl (xs.foldl stepC c) = fl c ++ xs
  | [], c => (List.append_nil _).symm
  | x :: xs, c => by
    rw [List.foldl_cons, fl_fold xs, show stepC c x = putp c (chS x.1, x.2) from rfl, fl_put, List.append_assoc]; rfl
theorem fl_cn (xs : Fc) : fl (cn xs) = xs := fl_fold xs []
theorem cn_in {xs : Fc} {p : Pc} (h : p ∈ cn xs) {c : Nat} (hc : c ∈ cps p.1) : (c, p.2) ∈ xs := by
  have e := fl_cn xs
  rw [← e]
  exact List.mem_flatMap.mpr ⟨p, h, List.mem_map.mpr ⟨c, hc, rfl⟩⟩
abbrev Drp : Type := Str → Bool
def NO : Mk3 := ("", false, false)
def um (s : Drp) (m : Mk3) : Mk3 := (if s "link" then "" else m.1, m.2.1 && !s "bold", m.2.2 && !s "slant")
def umC (s : Drp) (xs : Fc) : Fc := xs.map fun x => (x.1, um s x.2)
def gl : List Fc → Fc
  | [] => []
  | x :: r => x ++ r.flatMap fun c => (32, NO) :: c
def opL (s : Drp) (l : Fln) : Fln := (if s "nest" then 0 else l.1, if s "cells" then [gl (l.2.map (umC s))] else l.2.map (umC s))
def op (s : Drp) (m : Fm) : Fm := m.map (opL s)
theorem um_NO (s : Drp) : um s NO = NO := by
  unfold um NO
  cases s "link" <;> simp
theorem umC_app (s : Drp) (a b : Fc) : umC s (a ++ b) = umC s a ++ umC s b := List.map_append
theorem umC_flat (s : Drp) : ∀ r : List Fc, umC s (r.flatMap fun c => (32, NO) :: c) = (r.map (umC s)).flatMap fun c => (32, NO) :: c
  | [] => rfl
  | c :: r => by
    rw [List.flatMap_cons, umC_app, umC_flat s r, List.map_cons, List.flatMap_cons]
    show ((32, um s NO) :: umC s c) ++ _ = _
    rw [um_NO]
theorem umC_gl (s : Drp) : ∀ cs : List Fc, umC s (gl cs) = gl (cs.map (umC s))
  | [] => rfl
  | x :: r => by
    show umC s (x ++ _) = umC s x ++ _
    rw [umC_app, umC_flat]
theorem gl_one (x : Fc) : gl [x] = x := List.append_nil x
def five : List Str := ["cells", "nest", "link", "bold", "slant"]
def LK4 : List Str := ["", "w", "w1", "abcdefghijk9", "v"]
def OkC (xs : Fc) : Prop := ∀ x ∈ xs, 32 ≤ x.1 ∧ x.1 ≤ 126 ∧ x.2.1 ∈ LK4
structure OkLn (l : Fln) : Prop where
  d : l.1 ≤ 6
  c1 : 1 ≤ l.2.length
  c12 : l.2.length ≤ 12
  g : (gl l.2).length ≤ 491
  s : l.2.length = 1 ∨ ∀ xs ∈ l.2, xs.length ≤ 40
  c : ∀ xs ∈ l.2, OkC xs
structure OkF (m : Fm) : Prop where
  l1 : 1 ≤ m.length
  l2 : m.length ≤ 200
  l : ∀ x ∈ m, OkLn x
theorem OkC.um {xs : Fc} (h : OkC xs) (s : Drp) : OkC (umC s xs) := by
  intro x hx
  obtain ⟨y, hy, rfl⟩ := List.mem_map.mp hx
  obtain ⟨a, b, c⟩ := h y hy
  refine ⟨a, b, ?_⟩
  show (if s "link" = true then ("" : Str) else y.2.1) ∈ LK4
  split
  · simp [LK4]
  · exact c
theorem OkC.gl {cs : List Fc} (h : ∀ xs ∈ cs, OkC xs) : OkC (gl cs) := by
  cases cs with
  | nil => intro x hx; cases hx
  | cons y r =>
    intro x hx
    rcases List.mem_append.mp hx with z | z
    · exact h y List.mem_cons_self x z
    · obtain ⟨c, hc, z⟩ := List.mem_flatMap.mp z
      rcases List.mem_cons.mp z with rfl | z
      · exact ⟨by decide, by decide, by simp [NO, LK4]⟩
      · exact h c (List.mem_cons_of_mem _ hc) x z
theorem umC_len (s : Drp) (xs : Fc) : (umC s xs).length = xs.length := List.length_map _
theorem gl_um_len (s : Drp) (cs : List Fc) : (gl (cs.map (umC s))).length = (gl cs).length := by rw [← umC_gl, umC_len]
theorem OkLn.op {l : Fln} (h : OkLn l) (s : Drp) : OkLn (opL s l) := by
  have hc : ∀ xs ∈ l.2.map (umC s), OkC xs := fun xs hx => by
    obtain ⟨y, hy, rfl⟩ := List.mem_map.mp hx
    exact (h.c y hy).um s
  have hd : (if s "nest" = true then 0 else l.1) ≤ 6 := by
    split
    · omega
    · exact h.d
  cases e : s "cells" with
  | true =>
    have e2 : opL s l = (if s "nest" = true then 0 else l.1, [Vf.gl (l.2.map (umC s))]) := by unfold opL; rw [e]; rfl
    rw [e2]
    refine ⟨hd, Nat.le_refl _, by show 1 ≤ 12; decide, ?_, .inl rfl, fun xs hx => ?_⟩
    · show (Vf.gl [_]).length ≤ 491
      rw [gl_one, gl_um_len]
      exact h.g
    · rw [List.mem_singleton] at hx
      rw [hx]
      exact OkC.gl hc
  | false =>
    have e2 : opL s l = (if s "nest" = true then 0 else l.1, l.2.map (umC s)) := by unfold opL; rw [e]; rfl
    rw [e2]
    refine ⟨hd, by rw [List.length_map]; exact h.c1, by rw [List.length_map]; exact h.c12, by rw [gl_um_len]; exact h.g, ?_, hc⟩
    rcases h.s with z | z
    · exact .inl (by rw [List.length_map]; exact z)
    · refine .inr fun xs hx => ?_
      obtain ⟨y, hy, rfl⟩ := List.mem_map.mp hx
      rw [umC_len]
      exact z y hy
theorem OkF.op {m : Fm} (h : OkF m) (s : Drp) : OkF (op s m) := ⟨by unfold Vf.op; rw [List.length_map]; exact h.l1, by unfold Vf.op; rw [List.length_map]; exact h.l2, fun x hx => by
  obtain ⟨y, hy, rfl⟩ := List.mem_map.mp hx
  exact (h.l y hy).op s⟩
theorem aS_of {x : Str} (h : ∀ c ∈ cps x, c < 128) : aS x = true := by
  unfold aS
  rw [← Array.all_toList, List.all_eq_true]
  exact fun c hc => decide_eq_true (h c hc)
theorem OkC.as {xs : Fc} (h : OkC xs) {p : Pc} (hp : p ∈ cn xs) : aS p.1 = true := aS_of fun c hc => by
  have := (h _ (cn_in hp hc)).2.1
  have q : c ≤ 126 := this
  omega
def GrN (H H' : Hp) : Prop := ∀ b o, (∀ xs, o ≠ .lst xs) → H b = some o → (H' b = some o ∨ ∃ ps more, o = .tbl ps ∧ H' b = some (.tbl (ps ++ more)) ∧ (TriplesOk ps.toList → TriplesOk (ps ++ more).toList))
theorem GrN.refl (H : Hp) : GrN H H := fun _ _ _ h => .inl h
theorem Gr.n {H H' : Hp} (g : Gr H H') : GrN H H' := fun b o _ h => g b o h
theorem GrU.n {u c : Addr} {H H' : Hp} (g : GrU u H H') (hu : Urn c H u) : GrN H H' := fun b o hn h => by
  refine g b o ?_ h
  rintro rfl
  obtain ⟨ns, p, a, r, h1, _⟩ := hu
  rw [h1] at h
  cases h
  exact hn _ rfl
theorem GrN.trans {H H1 H2 : Hp} (a : GrN H H1) (b : GrN H1 H2) : GrN H H2 := by
  intro c o hn h
  rcases a c o hn h with h1 | ⟨ps, m1, rfl, h1, t1⟩
  · exact b c o hn h1
  · rcases b c _ (fun xs z => by cases z) h1 with h2 | ⟨qs, m2, e, h2, t2⟩
    · exact .inr ⟨ps, m1, rfl, h2, t1⟩
    · cases e
      exact .inr ⟨ps, m1 ++ m2, rfl, by rw [← Array.append_assoc]; exact h2, fun z => by rw [← Array.append_assoc]; exact t2 (t1 z)⟩
theorem GrN.upd {H : Hp} {D : Addr} {xs ys : List V} (h : H D = some (.lst xs)) : GrN H (upd H D (.lst ys)) := fun b o hn e => by
  have hb : b ≠ D := fun z => by
    rw [z, h] at e
    cases e
    exact hn _ rfl
  rw [upd_ne hb]
  exact .inl e
theorem GrN.keep {H H' : Hp} (g : GrN H H') {b : Addr} {o : HO} (h : H b = some o) (n1 : ∀ xs, o ≠ .lst xs) (n2 : ∀ ps, o ≠ .tbl ps) : H' b = some o := by
  rcases g b o n1 h with h1 | ⟨ps, _, rfl, _⟩
  · exact h1
  · exact absurd rfl (n2 ps)
theorem GrN.seqT {K : PySem.W.Frag} {H H' : Hp} (g : GrN H H') {a : Addr} {xs : List V} (h : SqT K H a xs) : SqT K H' a xs := by
  rcases h with (h | ⟨o, h⟩) | h
  · exact .inl (.inl (g.keep h (fun _ z => by cases z) (fun _ z => by cases z)))
  · exact .inl (.inr ⟨o, g.keep h (fun _ z => by cases z) (fun _ z => by cases z)⟩)
  · exact .inr h
theorem Clz.nl {b n : Nat} {d : PyData} (h : Clz b n d) : noLst d = true := fi_nl d (h.hf .d)
theorem take_snoc {α : Type} {l : List α} {i : Nat} {x : α} (h : l[i]? = some x) : l.take (i + 1) = l.take i ++ [x] := by rw [List.take_succ, h]; rfl
theorem strV_get {l : List Str} {i : Nat} {x : V} (h : (strV l)[i]? = some x) : ∃ f, l[i]? = some f ∧ x = .str f := by
  unfold strV at h
  rw [List.getElem?_map] at h
  cases e : l[i]? with
  | none => rw [e] at h; cases h
  | some f =>
    rw [e] at h
    cases h
    exact ⟨f, rfl, rfl⟩
theorem strV_flat (l : List Str) : (strV l).all flatV = true := flat_strs l
def OkSg (s : Str) : Prop := ∃ c, s = chS c ∧ 32 ≤ c ∧ c ≤ 126
def Sgs (K : PySem.W.Frag) (H : Hp) (u sg : Addr) : Prop := sg ≠ u ∧ ∃ ss : List Str, SqL K H sg (strV ss) ∧ ss ≠ [] ∧ ss.length ≤ 1000 ∧ ∀ s ∈ ss, OkSg s
theorem Sgs.gr {K : PySem.W.Frag} {H H' : Hp} {u sg : Addr} (h : Sgs K H u sg) (g : GrU u H H') : Sgs K H' u sg := by
  obtain ⟨n, ss, h1, h2⟩ := h
  refine ⟨n, ss, ?_, h2⟩
  rcases h1 with (h1 | ⟨o, h1⟩) | h1
  · exact .inl (.inl (g.keep n h1 (fun _ z => by cases z)))
  · exact .inl (.inr ⟨o, g.keep n h1 (fun _ z => by cases z)⟩)
  · exact .inr h1
def spSomeSet (K : PySem.W.Frag) : Sp := fun vs H Q _ => ∃ (u c : Addr), vs = [.ref u] ∧ Urn c H u ∧ ∀ p (fs : List Str) H', (∀ t ∈ fs, t ∈ five) → GrU u H H' → Urn c H' u → SqT K H' p (strV fs) → Q (.ref p) H'
def allS : List Str := sS "!#$&'()*+,-./:;<=>?\x40[]^_{|}~" ++ (["\"", "\\", "`"] : List Str)
def spAll : Sp := fun vs H Q _ => vs = [] ∧ ∀ l H', Gr H H' → H l = none → H' l = some (.lst (strV allS)) → Q (.ref l) H'
def thereL (fs : List Str) : List Bool :=
  [inV (.str "cells") (strV fs), inV (.str "nest") (strV fs), inV (.str "bold") (strV fs), inV (.str "slant") (strV fs)] ++ List.replicate 3 (inV (.str "link") (strV fs)) ++ [!PyData.eqv (.tuple (fs.map PyData.str)) (.tuple [])]
def mkS (p : Str × Bool) : Str := if p.2 = true then p.1 else ""
def mask (fs : List Str) (ps : List Str) : List Str := (ps.zip (thereL fs)).map mkS
def spSomeForm (K : PySem.W.Frag) : Sp := fun vs H Q _ => ∃ (u c a : Addr) (n : Str) (fs : List Str), vs = [.ref u, .str n, .ref a] ∧ Urn c H u ∧ SqT K H a (strV fs) ∧ (∀ t ∈ fs, PyData.canLay0 (.str t) = true) ∧
  ∀ t ps rs H', ps.length = 8 → (ps ++ rs).Perm allS → GrU u H H' → Urn c H' u → H t = none → t ≠ u → H' t = some (.tup (strV (n :: mask fs ps))) → Q (.ref t) H'
theorem pop_perm {ps rs : List Str} {k : Nat} {y : Str} (h : rs[k]? = some y) : (ps ++ [y] ++ rs.eraseIdx k).Perm (ps ++ rs) := by
  rw [List.append_assoc]
  refine List.Perm.append_left ps ?_
  have hk := (List.getElem?_eq_some_iff.mp h).1
  have hy := (List.getElem?_eq_some_iff.mp h).2
  rw [List.eraseIdx_eq_take_drop_succ]
  refine List.Perm.trans (List.perm_middle (l₁ := rs.take k) (l₂ := rs.drop (k + 1)) (a := y)).symm ?_
  rw [← hy, List.getElem_cons_drop, List.take_append_drop]
section
variable {P : Program} {w : World} {K : PySem.W.Frag} {mg : Str → Option Value} {base : Heap}
structure Fo where
  name : Str
  ce : Option Nat
  le : Option Nat
  bo : Option Nat
  sl : Option Nat
  op : Option Nat
  mi : Option Nat
  en : Option Nat
  es : Option Nat
end
section
variable {P : Program} {w : World} {K : PySem.W.Frag} {mg : Str → Option Value} {base : Heap}
def sg : Option Nat → Str
  | none => ""
  | some c => chS c
end
section
variable {P : Program} {w : World} {K : PySem.W.Frag} {mg : Str → Option Value} {base : Heap}
def Fo.os (f : Fo) : List (Option Nat) := [f.ce, f.le, f.bo, f.sl, f.op, f.mi, f.en, f.es]
end
section
variable {P : Program} {w : World} {K : PySem.W.Frag} {mg : Str → Option Value} {base : Heap}
def Fo.strs (f : Fo) : List Str := [f.name, sg f.ce, sg f.le, sg f.bo, sg f.sl, sg f.op, sg f.mi, sg f.en, sg f.es]
end
section
variable {P : Program} {w : World} {K : PySem.W.Frag} {mg : Str → Option Value} {base : Heap}
def Fo.sgs (f : Fo) : List Nat := f.os.filterMap id
end
section
variable {P : Program} {w : World} {K : PySem.W.Frag} {mg : Str → Option Value} {base : Heap}
def wordsC : List Nat := ("abcdefghijklmnopqrstuvwxyz0123456789" : Str).cps.toList
end
section
variable {P : Program} {w : World} {K : PySem.W.Frag} {mg : Str → Option Value} {base : Heap}
structure FoOk (f : Fo) : Prop where
  nd : f.sgs.Nodup
  ok : ∀ c ∈ f.sgs, 33 ≤ c ∧ c ≤ 126 ∧ c ∉ wordsC
  l1 : f.op.isSome = f.mi.isSome
  l2 : f.mi.isSome = f.en.isSome
  es : f.es = none → f.sgs = []
  nl : PyData.canLay0 (.str f.name) = true ∧ f.name.length ≤ 10
end
section
variable {P : Program} {w : World} {K : PySem.W.Frag} {mg : Str → Option Value} {base : Heap}
def pk (p : Nat × Bool) : Option Nat := if p.2 = true then some p.1 else none
end
section
variable {P : Program} {w : World} {K : PySem.W.Frag} {mg : Str → Option Value} {base : Heap}
theorem pk_sub : ∀ l : List (Nat × Bool), ((l.map pk).filterMap id).Sublist (l.map (·.1))
  | [] => List.Sublist.refl _
  | (c, b) :: l => by
    have ih := pk_sub l
    cases b with
    | true => exact ih.cons₂ c
    | false => exact ih.cons c
end
section
variable {P : Program} {w : World} {K : PySem.W.Frag} {mg : Str → Option Value} {base : Heap}
def SG31 : List Nat := ("!#$&'()*+,-./:;<=>?\x40[]^_{|}~\"\\`" : Str).cps.toList
end
section
variable {P : Program} {w : World} {K : PySem.W.Frag} {mg : Str → Option Value} {base : Heap}
theorem allS_SG : allS = SG31.map chS := by decide +kernel
end
section
variable {P : Program} {w : World} {K : PySem.W.Frag} {mg : Str → Option Value} {base : Heap}
theorem SG31_ok : SG31.Nodup ∧ ∀ c ∈ SG31, 33 ≤ c ∧ c ≤ 126 ∧ c ∉ wordsC := by decide +kernel
end
section
variable {P : Program} {w : World} {K : PySem.W.Frag} {mg : Str → Option Value} {base : Heap}
theorem chS_inj {a b : Nat} (h : chS a = chS b) : a = b := by
  have q := congrArg cps h
  have q2 : [a] = [b] := q
  exact List.head_eq_of_cons_eq q2
end
section
variable {P : Program} {w : World} {K : PySem.W.Frag} {mg : Str → Option Value} {base : Heap}
theorem there_last {fs : List Str} (h : fs ≠ []) : (!PyData.eqv (.tuple (fs.map PyData.str)) (.tuple [])) = true := by
  cases fs with
  | nil => exact absurd rfl h
  | cons x l => rfl
end
section
variable {P : Program} {w : World} {K : PySem.W.Frag} {mg : Str → Option Value} {base : Heap}
theorem form_of {n : Str} {fs ps rs : List Str} (hp : ps.length = 8) (pm : (ps ++ rs).Perm allS) (hn : PyData.canLay0 (.str n) = true ∧ n.length ≤ 10) : ∃ f : Fo, FoOk f ∧ f.strs = n :: mask fs ps := by
  have hps : ∀ p ∈ ps, ∃ c ∈ SG31, p = chS c := fun p h => by
    have q := pm.mem_iff.mp (List.mem_append_left rs h)
    rw [allS_SG] at q
    obtain ⟨c, hc, e⟩ := List.mem_map.mp q
    exact ⟨c, hc, e.symm⟩
  have nd : ps.Nodup := by
    have q : (ps ++ rs).Nodup := by
      rw [pm.nodup_iff, allS_SG]
      exact List.Pairwise.map _ (fun a b h z => h (chS_inj z)) SG31_ok.1
    exact (List.nodup_append.mp q).1
  match ps, hp, hps, nd with
  | [p0, p1, p2, p3, p4, p5, p6, p7], _, hps, nd =>
    obtain ⟨c0, h0, rfl⟩ := hps p0 (by simp)
    obtain ⟨c1, h1, rfl⟩ := hps p1 (by simp)
    obtain ⟨c2, h2, rfl⟩ := hps p2 (by simp)
    obtain ⟨c3, h3, rfl⟩ := hps p3 (by simp)
    obtain ⟨c4, h4, rfl⟩ := hps p4 (by simp)
    obtain ⟨c5, h5, rfl⟩ := hps p5 (by simp)
    obtain ⟨c6, h6, rfl⟩ := hps p6 (by simp)
    obtain ⟨c7, h7, rfl⟩ := hps p7 (by simp)
    have ndc : [c0, c1, c2, c3, c4, c5, c6, c7].Nodup := by
      have q : ([c0, c1, c2, c3, c4, c5, c6, c7].map chS).Nodup := nd
      exact List.Pairwise.of_map _ (fun a b h z => h (congrArg chS z)) q
    have hin : ∀ c ∈ [c0, c1, c2, c3, c4, c5, c6, c7], c ∈ SG31 := by
      intro c hc
      simp only [List.mem_cons, List.not_mem_nil, or_false] at hc
      rcases hc with rfl | rfl | rfl | rfl | rfl | rfl | rfl | rfl <;> assumption
    generalize hb0 : inV (.str "cells") (strV fs) = b0
    generalize hb1 : inV (.str "nest") (strV fs) = b1
    generalize hb2 : inV (.str "bold") (strV fs) = b2
    generalize hb3 : inV (.str "slant") (strV fs) = b3
    generalize hb4 : inV (.str "link") (strV fs) = b4
    generalize hb5 : (!PyData.eqv (.tuple (fs.map PyData.str)) (.tuple [])) = b5
    have sub := pk_sub [(c0, b0), (c1, b1), (c2, b2), (c3, b3), (c4, b4), (c5, b4), (c6, b4), (c7, b5)]
    refine ⟨⟨n, pk (c0, b0), pk (c1, b1), pk (c2, b2), pk (c3, b3), pk (c4, b4), pk (c5, b4), pk (c6, b4), pk (c7, b5)⟩, ⟨sub.nodup ndc, fun c hc => SG31_ok.2 c (hin c (sub.subset hc)), by cases b4 <;> rfl, by cases b4 <;> rfl, fun z => ?_, hn⟩, ?_⟩
    · have e5 : b5 = false := by
        cases b5 with
        | false => rfl
        | true => cases z
      have fe : fs = [] := by
        by_cases h : fs = []
        · exact h
        · rw [← hb5, there_last h] at e5
          cases e5
      subst fe
      have g0 : b0 = false := hb0.symm
      have g1 : b1 = false := hb1.symm
      have g2 : b2 = false := hb2.symm
      have g3 : b3 = false := hb3.symm
      have g4 : b4 = false := hb4.symm
      rw [g0, g1, g2, g3, g4, e5]
      rfl
    · have et : thereL fs = [b0, b1, b2, b3, b4, b4, b4, b5] := by
        unfold thereL
        rw [hb0, hb1, hb2, hb3, hb4, hb5]
        rfl
      unfold mask
      rw [et]
      show [n, sg (pk (c0, b0)), _, _, _, _, _, _, _] = n :: [mkS (chS c0, b0), mkS (chS c1, b1), mkS (chS c2, b2), mkS (chS c3, b3), mkS (chS c4, b4), mkS (chS c5, b4), mkS (chS c6, b4), mkS (chS c7, b5)]
      have e : ∀ (c : Nat) (b : Bool), sg (pk (c, b)) = mkS (chS c, b) := fun c b => by cases b <;> rfl
      simp only [e]
end
structure FitM (f : Fo) (m : Mk3) : Prop where
  l : f.op = none → m.1 = ""
  b : f.bo = none → m.2.1 = false
  s : f.sl = none → m.2.2 = false
  k : m.1 ∈ LK4
theorem FitM.no (f : Fo) : FitM f NO := ⟨fun _ => rfl, fun _ => rfl, fun _ => rfl, by simp [NO, LK4]⟩
def nE (f : Fo) (e : Bool) (c : Nat) : Bool := decide (f.es = some c) && !e
def nW (f : Fo) (e w : Bool) (c : Nat) : Bool := if e = false ∧ (f.op = some c ∨ f.mi = some c) then decide (f.op = some c) else w
inductive SwT (f : Fo) : Bool → Bool → List Nat → List Nat → Prop
  | nil (e w : Bool) : SwT f e w [] []
  | cons {e w : Bool} {l r : List Nat} (c : Nat) : SwT f (nE f e c) (nW f e w c) l r → SwT f e w (c :: l) (c :: r)
  | pair {l r : List Nat} (x c : Nat) : (f.bo = some x ∨ f.sl = some x) → f.le ≠ some c → SwT f (nE f false c) (nW f false false c) l r → SwT f false false (c :: l) (x :: x :: c :: r)
def flg (f : Fo) : Bool × Bool → List Nat → Bool × Bool
  | p, [] => p
  | p, c :: l => flg f (nE f p.1 c, nW f p.1 p.2 c) l
theorem SwT.split {f : Fo} : ∀ {a b : List Nat} {e w : Bool} {z : List Nat}, SwT f e w (a ++ b) z → ∃ z1 z2, z = z1 ++ z2 ∧ SwT f e w a z1 ∧ SwT f (flg f (e, w) a).1 (flg f (e, w) a).2 b z2
  | [], b, e, w, z, h => ⟨[], z, rfl, .nil _ _, h⟩
  | c :: a, b, e, w, z, h => by
    have h' : SwT f e w (c :: (a ++ b)) z := h
    cases h' with
    | cons _ q =>
      obtain ⟨z1, z2, rfl, q1, q2⟩ := SwT.split q
      exact ⟨c :: z1, z2, rfl, .cons c q1, q2⟩
    | pair x _ hx hc q =>
      obtain ⟨z1, z2, rfl, q1, q2⟩ := SwT.split q
      exact ⟨x :: x :: c :: z1, z2, rfl, .pair x c hx hc q1, q2⟩
theorem SwT.refl (f : Fo) : ∀ (l : List Nat) (e w : Bool), SwT f e w l l
  | [], e, w => .nil e w
  | c :: l, e, w => .cons c (SwT.refl f l _ _)
def Fo.five (f : Fo) : List (Option Nat) := [f.ce, f.le, f.op, f.bo, f.sl]
def carP (p : Str × Option Nat) : Option Str := if p.2.isSome = true then some p.1 else none
def carF (f : Fo) : List Str := (five.zip f.five).filterMap carP
def spCarried (K : PySem.W.Frag) : Sp := fun vs H Q _ => ∃ (a : Addr) (f : Fo), vs = [.ref a] ∧ SqT K H a (strV f.strs) ∧ ∀ p H', Gr H H' → SqT K H' p (strV (carF f)) → Q (.ref p) H'
theorem sg_ne0 (o : Option Nat) : (!decide (V.str (sg o) = V.str "")) = o.isSome := by
  cases o with
  | none => decide +kernel
  | some c =>
    have e : ¬ V.str (sg (some c)) = V.str "" := fun z => by
      have q := congrArg cps (V.str.inj z)
      have q2 : [c] = cps "" := q
      rw [show cps "" = [] by decide +kernel] at q2
      cases q2
    rw [decide_eq_false e]
    rfl
theorem sl_sK {K : PySem.W.Frag} {H : Hp} {Q : VK} {z : Str} {lo hi : Option Int} (h : z.length ≤ sizeLine) (q : Q (.str (cutS z lo hi)) H) : rSlU K (.str z) lo hi H Q := ⟨.inr (.inr ⟨z, rfl, h, q⟩)⟩
structure Mak where
  n : Str
  s : Str
  t : Str
  c : Int
def makV (m : Mak) : List V := [.str m.n, .str m.s, .str m.t, .int m.c]
def foV (f : Fo) : List V := strV f.strs
def NS : List Str := ["star", "a1", "tab", "z", "items", "b2", "grid", "c3", "q", "long1234", "d4", "e5", "note", "x", "y"]
def NSP : List Str := "plain" :: NS
theorem NSP_nd : NSP.Nodup := by decide +kernel
theorem NSP_ok : ∀ x ∈ NSP, x.length ≤ 8 ∧ aS x = true := by decide +kernel
theorem five_ok : ∀ f ∈ five, f.length ≤ 5 ∧ aS f = true := by decide +kernel
def foP : Fo := ⟨"plain", none, none, none, none, none, none, none, none⟩
theorem foP_ok : FoOk foP := ⟨by decide +kernel, by decide +kernel, rfl, rfl, fun _ => rfl, by decide +kernel⟩
/-- the forms of the law stand in the dict d -/
structure FsAt (K : PySem.W.Frag) (H : Hp) (d : Addr) (kvs : List (Key × V)) (F : List Fo) : Prop where
  e : H d = some (.dK kvs)
  k : KB K Fo.name foV H kvs F
  n : ∃ i, F.map Fo.name = NSP.take (i + 1)
  o : ∀ f ∈ F, FoOk f
theorem FsAt.nd {K : PySem.W.Frag} {H : Hp} {d : Addr} {kvs : List (Key × V)} {F : List Fo} (h : FsAt K H d kvs F) : (F.map Fo.name).Nodup := by
  obtain ⟨i, e⟩ := h.n
  rw [e]
  exact List.Nodup.sublist (List.take_sublist _ _) NSP_nd
theorem FsAt.ne {K : PySem.W.Frag} {H : Hp} {d : Addr} {kvs : List (Key × V)} {F : List Fo} (h : FsAt K H d kvs F) : F ≠ [] := fun z => by
  obtain ⟨i, e⟩ := h.n
  rw [z] at e
  cases e
theorem FsAt.l {K : PySem.W.Frag} {H : Hp} {d : Addr} {kvs : List (Key × V)} {F : List Fo} (h : FsAt K H d kvs F) : F.length ≤ 16 := by
  obtain ⟨i, e⟩ := h.n
  have q := congrArg List.length e
  rw [List.length_map, List.length_take] at q
  have : NSP.length = 16 := rfl
  omega
theorem FsAt.name {K : PySem.W.Frag} {H : Hp} {d : Addr} {kvs : List (Key × V)} {F : List Fo} (h : FsAt K H d kvs F) : ∀ x ∈ F.map Fo.name, x ∈ NSP := fun x hx => by
  obtain ⟨i, e⟩ := h.n
  rw [e] at hx
  exact List.mem_of_mem_take hx
theorem FsAt.gr {K : PySem.W.Frag} {H H' : Hp} {d : Addr} {kvs : List (Key × V)} {F : List Fo} (h : FsAt K H d kvs F) (g : Gr H H') : FsAt K H' d kvs F := ⟨g.keep h.e (fun _ z => by cases z), h.k.gr g, h.n, h.o⟩
def spSForms (K : PySem.W.Frag) : Sp := fun vs H Q _ => ∃ (u c : Addr) (many : Int), vs = [.ref u, .int many] ∧ Urn c H u ∧ 0 ≤ many ∧ many ≤ 15 ∧ ∀ d kvs F H', FsAt K H' d kvs F → GrU u H H' → Urn c H' u → Q (.ref d) H'
def costs : List Int := [0, 1, 1, 2, 3, 1000]
structure OkMk (ns : List Str) (m : Mak) : Prop where
  s : m.s ∈ ns
  t : m.t ∈ ns
  d : m.s ≠ m.t
  n : m.n.length ≤ 12 ∧ aS m.n = true
  c : m.c ∈ costs
theorem aS_app {x y : Str} (h1 : aS x = true) (h2 : aS y = true) : aS (x ++ y) = true := by
  refine aS_of fun c hc => ?_
  rw [cps_app] at hc
  have q : ∀ {z : Str}, aS z = true → ∀ c ∈ cps z, c < 128 := fun {z} h c hc => by
    unfold aS at h
    rw [← Array.all_toList, List.all_eq_true] at h
    simpa using h c hc
  rcases List.mem_append.mp hc with hc | hc
  · exact q h1 c hc
  · exact q h2 c hc
theorem aS_sub {x y : Str} (h : aS x = true) (hs : ∀ c ∈ cps y, c ∈ cps x) : aS y = true := by
  refine aS_of fun c hc => ?_
  unfold aS at h
  rw [← Array.all_toList, List.all_eq_true] at h
  simpa using h c (hs c hc)
theorem cut12 (x : Str) : (cutS x none (some 12)).length ≤ 12 ∧ ∀ c ∈ cps (cutS x none (some 12)), c ∈ cps x := by
  have e : cps (cutS x none (some 12)) = ((cps x).drop 0).take (min 12 x.length) := by
    show (x.cps.toList.drop (HT.sIx x.length 0 none)).take (HT.sIx x.length x.length (some ((12 : Nat) : Int)) - HT.sIx x.length 0 none) = _
    rw [HT.sIx_nat, HT.sIx_none, Nat.sub_zero]
  refine ⟨?_, fun c hc => ?_⟩
  · rw [← cps_len, e, List.length_take]
    omega
  · rw [e] at hc
    exact List.mem_of_mem_drop (List.mem_of_mem_take hc)
def spUnlike (K : PySem.W.Frag) : Sp := fun vs H Q _ => ∃ (l : Addr) (xs : List V) (ms : List Mak), vs = [.ref l] ∧ H l = some (.lst xs) ∧ RB K makV H xs ms ∧ ms.length ≤ 100 ∧ ∀ p ys F H', Gr H H' → SqT K H' p ys → RB K makV H' ys F → (F.map Mak.n).Nodup → (∀ m ∈ F, m ∈ ms) → F.length ≤ ms.length → Q (.ref p) H'
theorem upd_seqT {K : PySem.W.Frag} {H : Hp} {D : Addr} {zs : List V} {o : HO} (hL : H D = some (.lst zs)) (t : Addr) (ys : List V) (q : SqT K H t ys) : SqT K (upd H D o) t ys := by
  rcases q with (q | ⟨o, q⟩) | q
  · have n : t ≠ D := fun z => by rw [z, hL] at q; cases q
    exact .inl (.inl (by rw [upd_ne n]; exact q))
  · have n : t ≠ D := fun z => by rw [z, hL] at q; cases q
    exact .inl (.inr ⟨o, by rw [upd_ne n]; exact q⟩)
  · exact .inr q
theorem str5 : ∀ r : Fin 5, (toString (r.val : Int) : Str).length ≤ 2 ∧ aS (toString (r.val : Int) : Str) = true := by decide +kernel
end Vf
end
section
set_option Elab.async false
set_option linter.all false
set_option maxRecDepth 100000
set_option maxHeartbeats 4000000
namespace Vf
open PySem PySem.Spec PyProof.Rows L2 GxR GenW RZ
abbrev s_carried : Stmt := top 9
abbrev n_carried : List Str := ["form", "signs", "feature", "sign"]
abbrev p_carried : List Str := ["form"]
theorem sc_carried : FnScope n_carried p_carried (defScope s_carried) := ⟨rfl, rfl, rfl, by decide +kernel, rfl, by decide +kernel, by decide +kernel⟩

abbrev s__law_carried : Stmt := top 43
abbrev n__law_carried : List Str := ["form", "rows", "feature", "sign"]
abbrev p__law_carried : List Str := ["form"]
theorem sc__law_carried : FnScope n__law_carried p__law_carried (defScope s__law_carried) := ⟨rfl, rfl, rfl, by decide +kernel, rfl, by decide +kernel, by decide +kernel⟩

abbrev s__law_all_signs : Stmt := top 39
abbrev n__law_all_signs : List Str := []
abbrev p__law_all_signs : List Str := []
theorem sc__law_all_signs : FnScope n__law_all_signs p__law_all_signs (defScope s__law_all_signs) := ⟨rfl, rfl, rfl, by decide +kernel, rfl, by decide +kernel, by decide +kernel⟩

abbrev s__law_some_form : Stmt := top 40
abbrev n__law_some_form : List Str := ["urn", "name", "features", "signs", "turn", "picked", "there", "sign", "is_there"]
abbrev p__law_some_form : List Str := ["urn", "name", "features"]
theorem sc__law_some_form : FnScope n__law_some_form p__law_some_form (defScope s__law_some_form) := ⟨rfl, rfl, rfl, by decide +kernel, rfl, by decide +kernel, by decide +kernel⟩

abbrev s__law_some_set : Stmt := top 38
abbrev n__law_some_set : List Str := ["urn", "feature"]
abbrev p__law_some_set : List Str := ["urn"]
theorem sc__law_some_set : FnScope n__law_some_set p__law_some_set (defScope s__law_some_set) := ⟨rfl, rfl, rfl, by decide +kernel, rfl, by decide +kernel, by decide +kernel⟩

abbrev s__law_some_forms : Stmt := top 45
abbrev n__law_some_forms : List Str := ["urn", "many", "forms", "names", "name", "features"]
abbrev p__law_some_forms : List Str := ["urn", "many"]
theorem sc__law_some_forms : FnScope n__law_some_forms p__law_some_forms (defScope s__law_some_forms) := ⟨rfl, rfl, rfl, by decide +kernel, rfl, by decide +kernel, by decide +kernel⟩

abbrev s__law_unlike : Stmt := top 47
abbrev n__law_unlike : List Str := ["makers", "found", "maker", "one"]
abbrev p__law_unlike : List Str := ["makers"]
theorem sc__law_unlike : FnScope n__law_unlike p__law_unlike (defScope s__law_unlike) := ⟨rfl, rfl, rfl, by decide +kernel, rfl, by decide +kernel, by decide +kernel⟩

abbrev s__law_some_makers : Stmt := top 46
abbrev n__law_some_makers : List Str := ["urn", "forms", "many", "found", "names", "place", "source", "target", "name"]
abbrev p__law_some_makers : List Str := ["urn", "forms", "many"]
theorem sc__law_some_makers : FnScope n__law_some_makers p__law_some_makers (defScope s__law_some_makers) := ⟨rfl, rfl, rfl, by decide +kernel, rfl, by decide +kernel, by decide +kernel⟩

structure TD (K : PySem.W.Frag) (mg : Str → Option Value) : Prop extends TX mg where
  b_str : mg "str" = none
  b_tuple : mg "tuple" = none
  b_list : mg "list" = none
  b_zip : mg "zip" = none
  b_all : mg "all" = none
  b_sorted : mg "sorted" = none
  b_set : mg "set" = none
  b_min : mg "min" = none
  b_dict : mg "dict" = none
  c_CELL : ∃ u, mg "CELL" = some u ∧ RelV (.int 1) u
  c_LEVEL : ∃ u, mg "LEVEL" = some u ∧ RelV (.int 2) u
  c_BOLD : ∃ u, mg "BOLD" = some u ∧ RelV (.int 3) u
  c_SLANT : ∃ u, mg "SLANT" = some u ∧ RelV (.int 4) u
  c_OPENING : ∃ u, mg "OPENING" = some u ∧ RelV (.int 5) u
  c_NAME : ∃ u, mg "NAME" = some u ∧ RelV (.int 0) u
  c_SOURCE : ∃ u, mg "SOURCE" = some u ∧ RelV (.int 1) u
  c_TARGET : ∃ u, mg "TARGET" = some u ∧ RelV (.int 2) u
  c_COST : ∃ u, mg "COST" = some u ∧ RelV (.int 3) u
  c_PLAIN : ∃ a, mg "PLAIN" = some (.ref a) ∧ ∀ H, SqT K H a (strV ["plain", "", "", "", "", "", "", "", ""])
  c_FEATURES : ∃ a, mg "FEATURES" = some (.ref a) ∧ ∀ H, SqT K H a (strV five)
  c_EMPTY_LABEL : ∃ a e, mg "EMPTY_LABEL" = some (.ref a) ∧ (∀ H, SqT K H a [.int 0, .int 0, .ref e]) ∧ ∀ H, SqT K H e []
  h_heappush : mg "heappush" = some (.builtin "_heapq.heappush")
  h_heappop : mg "heappop" = some (.builtin "_heapq.heappop")
def spSMk (K : PySem.W.Frag) : Sp := fun vs H Q _ => ∃ (u c d : Addr) (kvs : List (Key × V)) (Fs : List Fo) (N0 : Nat), vs = [.ref u, .ref d, .int (N0 : Nat)] ∧ Urn c H u ∧ FsAt K H d kvs Fs ∧ N0 ≤ 40 ∧ ∀ p ys ms H', GrU u H H' → Urn c H' u → SqT K H' p ys → RB K makV H' ys ms → (ms.map Mak.n).Nodup → (∀ m ∈ ms, OkMk (Fs.map Fo.name) m) → ms.length ≤ N0 → Q (.ref p) H'
section
variable {P : Program} {w : World} {K : PySem.W.Frag} {mg : Str → Option Value} {base : Heap}
theorem ok_carried {fd : FuncData} (F : FnP K "carried" s_carried fd) (T : TD K mg) : FnOk P w K mg base CX0 1 (He.fAd K ("carried", none)) fd p_carried (spCarried K) := by
  refine okP F sc_carried (fun vs H Q E h => by obtain ⟨a, f, rfl, _⟩ := h; rfl) (fun A outer s H vs Q E hr h => ?_)
  obtain ⟨a, f, rfl, hS, k⟩ := h
  obtain ⟨aF, m_FEATURES, sF⟩ := T.c_FEATURES
  refine ⟨_, (pss_cons (ps_set (i := 1) sc_carried.nd rfl (by first | exact Or.inl rfl | exact Or.inr rfl) (pe_tup (pa_cons (pe_ix (u_ix (K := K) rfl) (pv 0) (pe_gl T.c_CELL rfl) (fun _ _ => rfl)) (pa_cons (pe_ix (u_ix (K := K) rfl) (pv 0) (pe_gl T.c_LEVEL rfl) (fun _ _ => rfl)) (pa_cons (pe_ix (u_ix (K := K) rfl) (pv 0) (pe_gl T.c_OPENING rfl) (fun _ _ => rfl)) (pa_cons (pe_ix (u_ix (K := K) rfl) (pv 0) (pe_gl T.c_BOLD rfl) (fun _ _ => rfl)) (pa_cons (pe_ix (u_ix (K := K) rfl) (pv 0) (pe_gl T.c_SLANT rfl) (fun _ _ => rfl)) pa_nil)))))))
      (pss_one (ps_ret (k_tuple (K := K) rfl rfl T.b_tuple (pe_lc (own := [("feature", 2), ("sign", 3)])  rfl sc_carried.nd (k_zip (K := K) rfl rfl T.b_zip (pa_cons (pe_ref rfl m_FEATURES) (pa_cons (pv 1) pa_nil))) (blkOk_by (own := [("feature", 2), ("sign", 3)]) (N := n_carried) (sc := defScope s_carried) (by decide +kernel)) (fun _ _ _ _ _ => (kg_tup 2 (K := K) rfl rfl (pgs_cons (pg_name (i := 2) sc_carried.nd rfl (by first | exact Or.inl rfl | exact Or.inr rfl)) (pgs_cons (pg_name (i := 3) sc_carried.nd rfl (by first | exact Or.inl rfl | exact Or.inr rfl)) pgs_nil)))) (fun _ _ _ _ _ => (pts_one (pt_cmpR (u_ne (K := K) rfl hr.units) (pv 3) pe_str (nomark _)))) (fun _ _ _ _ _ => (pv 2))))))), ?_⟩
  refine ⟨_, rfl, x_t hS rfl ⟨_, rfl, x_t hS rfl ⟨_, rfl, x_t hS rfl ⟨_, rfl, x_t hS rfl ⟨_, rfl, x_t hS rfl ⟨by show 5 ≤ sizeLine; rw [sizeLine_eq]; decide, fun p hp => ?_⟩⟩⟩⟩⟩⟩
  refine newH hp fun H1 g1 s1 => ?_
  have s1 : H1 p = some (.tup (strV (f.five.map sg))) := s1
  refine ⟨_, rfl, aF, p, _, _, rfl, .inr ⟨sF _, SqT.of s1, fun D hD => ?_⟩⟩
  have nD : p ≠ D := ne_of_none s1 hD
  refine lc_zT (a := aF) (b := p) (xs := strV five) (ys := strV (f.five.map sg)) rfl
    (fun i H' => Gr H1 H' ∧ H' D = some (.lst (strV (((five.zip f.five).take i).filterMap carP)))) ⟨Gr.new hD, upd_same⟩ ?_ ?_ ?_
  · rintro i H' ⟨g, _⟩
    exact ⟨sF _, SqT.of (g.tup s1)⟩
  · rintro i x y T' H' hx hy ⟨g, hL⟩ hT
    obtain ⟨ft, hft, rfl⟩ := strV_get hx
    obtain ⟨c, hc, rfl⟩ := strV_get hy
    rw [List.getElem?_map] at hc
    obtain ⟨o, ho, rfl⟩ : ∃ o, f.five[i]? = some o ∧ c = sg o := by
      cases e : f.five[i]? with
      | none => rw [e] at hc; cases hc
      | some o => rw [e] at hc; exact ⟨o, rfl, (Option.some.inj hc).symm⟩
    have hz : (five.zip f.five)[i]? = some (ft, o) := by
      rw [List.getElem?_zip_eq_some]
      exact ⟨hft, ho⟩
    have hLT : upd H' T' (.tup [.str ft, .str (sg o)]) D = _ := (upd_ne (ne_of_none hL hT)).trans hL
    have gT : Gr H1 (upd H' T' (.tup [.str ft, .str (sg o)])) := g.trans (Gr.new hT)
    refine ⟨_, _, rfl, SqT.of upd_same, rfl, _, _, rfl, _, _, rfl, rfl, rfl, ?_⟩
    refine ⟨_, rfl, n_flat rfl ⟨_, rfl, ?_⟩⟩
    rw [sg_ne0]
    cases o with
    | some c =>
      refine iteT ⟨_, rfl, _, hLT, ?_, gT.upd' hD, ?_⟩
      · show (List.map V.str _).length < _
        rw [List.length_map, sizeLine_eq]
        refine Nat.lt_of_le_of_lt (List.length_filterMap_le _ _) ?_
        rw [List.length_take]
        refine Nat.lt_of_le_of_lt (Nat.min_le_right _ _) ?_
        rw [List.length_zip]
        exact Nat.lt_of_le_of_lt (Nat.min_le_left _ _) (by show 5 < 16777216; decide)
      · rw [upd_same, take_snoc hz, List.filterMap_append]
        unfold strV
        rw [List.map_append]; rfl
    | none =>
      refine iteF ⟨gT, ?_⟩
      rw [hLT, take_snoc hz, List.filterMap_append]
      show _ = some (HO.lst (strV (_ ++ [])))
      rw [List.append_nil]
  · rintro H' ⟨g, hL⟩
    refine ⟨.inl ⟨D, _, rfl, SqL.of hL, fun t ht => ?_⟩⟩
    refine newH ht fun H2 g2 s2 => ?_
    exact k t H2 ((g1.trans g).trans g2) (SqT.of s2)
theorem ok_lcar {fd : FuncData} (F : FnP K "_law_carried" s__law_carried fd) (T : TD K mg) : FnOk P w K mg base CX0 1 (He.fAd K ("_law_carried", none)) fd p__law_carried (spCarried K) := by
  refine okP F sc__law_carried (fun vs H Q E h => by obtain ⟨a, f, rfl, _⟩ := h; rfl) (fun A outer s H vs Q E hr h => ?_)
  obtain ⟨a, f, rfl, hS, k⟩ := h
  refine ⟨_, (pss_cons (ps_set (i := 1) sc__law_carried.nd rfl (by first | exact Or.inl rfl | exact Or.inr rfl) (pe_lst (pa_cons (pe_tup (pa_cons pe_str (pa_cons (pe_ix (u_ix (K := K) rfl) (pv 0) pe_int (fun _ _ => rfl)) pa_nil))) (pa_cons (pe_tup (pa_cons pe_str (pa_cons (pe_ix (u_ix (K := K) rfl) (pv 0) pe_int (fun _ _ => rfl)) pa_nil))) (pa_cons (pe_tup (pa_cons pe_str (pa_cons (pe_ix (u_ix (K := K) rfl) (pv 0) pe_int (fun _ _ => rfl)) pa_nil))) (pa_cons (pe_tup (pa_cons pe_str (pa_cons (pe_ix (u_ix (K := K) rfl) (pv 0) pe_int (fun _ _ => rfl)) pa_nil))) (pa_cons (pe_tup (pa_cons pe_str (pa_cons (pe_ix (u_ix (K := K) rfl) (pv 0) pe_int (fun _ _ => rfl)) pa_nil))) pa_nil)))))))
      (pss_one (ps_ret (k_tuple (K := K) rfl rfl T.b_tuple (pe_lc (own := [("feature", 2), ("sign", 3)])  rfl sc__law_carried.nd (k_list (K := K) rfl (pv 1)) (blkOk_by (own := [("feature", 2), ("sign", 3)]) (N := n__law_carried) (sc := defScope s__law_carried) (by decide +kernel)) (fun _ _ _ _ _ => (kg_tup 2 (K := K) rfl rfl (pgs_cons (pg_name (i := 2) sc__law_carried.nd rfl (by first | exact Or.inl rfl | exact Or.inr rfl)) (pgs_cons (pg_name (i := 3) sc__law_carried.nd rfl (by first | exact Or.inl rfl | exact Or.inr rfl)) pgs_nil)))) (fun _ _ _ _ _ => (pts_one (pt_cmpR (u_ne (K := K) rfl hr.units) (pv 3) pe_str (nomark _)))) (fun _ _ _ _ _ => (pv 2))))))), ?_⟩
  have sl : ∀ {n : Nat}, n ≤ 3000 → n ≤ sizeLine := fun h => by rw [sizeLine_eq]; omega
  refine ⟨_, rfl, x_t hS rfl ⟨sl (by show 2 ≤ 3000; decide), fun q1 e1 => ?_⟩⟩
  refine newH e1 fun H1 g1 s1 => ?_
  refine ⟨_, rfl, x_t (g1.seqT hS) rfl ⟨sl (by show 2 ≤ 3000; decide), fun q2 e2 => ?_⟩⟩
  refine newH e2 fun H2 g2 s2 => ?_
  refine ⟨_, rfl, x_t ((g1.trans g2).seqT hS) rfl ⟨sl (by show 2 ≤ 3000; decide), fun q3 e3 => ?_⟩⟩
  refine newH e3 fun H3 g3 s3 => ?_
  refine ⟨_, rfl, x_t (((g1.trans g2).trans g3).seqT hS) rfl ⟨sl (by show 2 ≤ 3000; decide), fun q4 e4 => ?_⟩⟩
  refine newH e4 fun H4 g4 s4 => ?_
  refine ⟨_, rfl, x_t ((((g1.trans g2).trans g3).trans g4).seqT hS) rfl ⟨sl (by show 2 ≤ 3000; decide), fun q5 e5 => ?_⟩⟩
  refine newH e5 fun H5 g5 s5 => ?_
  refine ⟨sl (by show 5 ≤ 3000; decide), fun L eL => ?_⟩
  refine newH eL fun H6 g6 s6 => ?_
  have rows : ∀ (i : Nat) (o : Option Nat) (x : Str), (five.zip f.five)[i]? = some (x, o) → ∃ q, ([V.ref q1, V.ref q2, V.ref q3, V.ref q4, V.ref q5] : List V)[i]? = some (V.ref q) ∧ H6 q = some (.tup [.str x, .str (sg o)]) := by
    intro i o x h
    have w5 := g6.tup s5
    have w4 := (g5.trans g6).tup s4
    have w3 := ((g4.trans g5).trans g6).tup s3
    have w2 := (((g3.trans g4).trans g5).trans g6).tup s2
    have w1 := ((((g2.trans g3).trans g4).trans g5).trans g6).tup s1
    match i, h with
    | 0, h => cases h; exact ⟨q1, rfl, w1⟩
    | 1, h => cases h; exact ⟨q2, rfl, w2⟩
    | 2, h => cases h; exact ⟨q3, rfl, w3⟩
    | 3, h => cases h; exact ⟨q4, rfl, w4⟩
    | 4, h => cases h; exact ⟨q5, rfl, w5⟩
    | i + 5, h => simp [five, Fo.five] at h
  have G := ((((g1.trans g2).trans g3).trans g4).trans g5).trans g6
  refine ⟨_, rfl, L, rfl, ⟨_, SqL.of s6⟩, fun D hD => ?_⟩
  refine lc_list (K := K) (a := L) (xs := [V.ref q1, V.ref q2, V.ref q3, V.ref q4, V.ref q5]) (fun i H' => Gr H6 H' ∧ H' D = some (.lst (strV (((five.zip f.five).take i).filterMap carP)))) ⟨Gr.new hD, upd_same⟩ ?_ ?_ ?_
  · rintro i H' _ ⟨g, _⟩
    exact SqL.of (g.lst s6)
  · rintro i x H' hx ⟨g, hL⟩
    have il := (List.getElem?_eq_some_iff.mp hx).1
    have il5 : i < 5 := il
    have zl : (five.zip f.five).length = 5 := rfl
    obtain ⟨⟨ft, o⟩, hz⟩ : ∃ r, (five.zip f.five)[i]? = some r := ⟨_, List.getElem?_eq_getElem (by rw [zl]; exact il5)⟩
    obtain ⟨q, hq, sq⟩ := rows i o ft hz
    rw [hx] at hq
    cases hq
    refine ⟨q, _, rfl, SqT.of (g.tup sq), rfl, _, _, rfl, _, _, rfl, rfl, rfl, ?_⟩
    refine ⟨_, rfl, n_flat rfl ⟨_, rfl, ?_⟩⟩
    rw [sg_ne0]
    cases o with
    | some c =>
      refine iteT ⟨_, rfl, _, hL, ?_, g.upd' hD, ?_⟩
      · show (List.map V.str _).length < _
        rw [List.length_map, sizeLine_eq]
        refine Nat.lt_of_le_of_lt (List.length_filterMap_le _ _) ?_
        rw [List.length_take]
        exact Nat.lt_of_le_of_lt (Nat.min_le_right _ _) (by rw [zl]; decide)
      · rw [upd_same, take_snoc hz, List.filterMap_append]
        unfold strV
        rw [List.map_append]; rfl
    | none =>
      refine iteF ⟨g, ?_⟩
      rw [hL, take_snoc hz, List.filterMap_append]
      show _ = some (HO.lst (strV (_ ++ [])))
      rw [List.append_nil]
  · rintro H' ⟨g, hL⟩
    refine ⟨.inl ⟨D, _, rfl, SqL.of hL, fun t ht => ?_⟩⟩
    refine newH ht fun H2 g2 s2 => ?_
    exact k t H2 ((G.trans g).trans g2) (SqT.of s2)
theorem ok_all_signs {fd : FuncData} (F : FnP K "_law_all_signs" s__law_all_signs fd) (T : TD K mg) : FnOk P w K mg base CX0 1 (He.fAd K ("_law_all_signs", none)) fd p__law_all_signs spAll := by
  refine okP F sc__law_all_signs (fun vs H Q E h => by obtain ⟨rfl, _⟩ := h; rfl) (fun A outer s H vs Q E hr h => ?_)
  obtain ⟨rfl, k⟩ := h
  refine ⟨_, (pss_one (ps_ret (pe_op (u_add (K := K) rfl) (pe_callTy (call_listU (K := K) rfl rfl) rfl T.b_list (by decide +kernel) (pa_cons pe_str pa_nil)) (pe_lst (pa_cons pe_str (pa_cons pe_str (pa_cons pe_str pa_nil))))))), ?_⟩
  refine lsU_s (by rw [sizeLine_eq]; decide) fun l hl => ⟨by rw [sizeLine_eq]; decide, fun b hb => ?_⟩
  have h1 : upd (upd H l (.lst (sgn "!#$&'()*+,-./:;<=>?\x40[]^_{|}~"))) b (.lst [.str "\"", .str "\\", .str "`"]) l = some (.lst (sgn "!#$&'()*+,-./:;<=>?\x40[]^_{|}~")) := by
    rw [upd_ne (ne_of_none upd_same hb)]
    exact upd_same
  refine a_ll h1 upd_same (by rw [sizeLine_eq]; decide) fun p hp => ?_
  have g : Gr H (upd (upd H l (.lst (sgn "!#$&'()*+,-./:;<=>?\x40[]^_{|}~"))) b (.lst [.str "\"", .str "\\", .str "`"])) := (Gr.new hl).trans (Gr.new hb)
  refine k p _ (g.trans (Gr.new hp)) (g.free hp) (upd_same.trans ?_)
  rw [sgn_strV]
  unfold allS strV
  rw [List.map_append]; rfl
theorem ok_some_form {fd : FuncData} (F : FnP K "_law_some_form" s__law_some_form fd) (T : TD K mg) (D__law_upto : Df P w K mg base "_law_upto" 2 p__law_upto spUpto) (D__law_all_signs : Df P w K mg base "_law_all_signs" 1 p__law_all_signs spAll) : FnOk P w K mg base CX0 3 (He.fAd K ("_law_some_form", none)) fd p__law_some_form (spSomeForm K) := by
  refine okP F sc__law_some_form (fun vs H Q E h => by obtain ⟨u, c, a, n, fs, rfl, _⟩ := h; rfl) (fun A outer s H vs Q E hr h => ?_)
  obtain ⟨u, c, a, n, fs, rfl, hu, hS, hf, k⟩ := h
  refine ⟨_, (pss_cons (ps_set (i := 3) sc__law_some_form.nd rfl (by first | exact Or.inl rfl | exact Or.inr rfl) (pe_fn0 D__law_all_signs hr (by decide) rfl))
      (pss_cons (ps_setLc (i := 5) (own := [("turn", 4)]) (g := gName 4) (tt := tYes) rfl sc__law_some_form.nd rfl rfl (sw_true rfl rfl rfl (by decide +kernel)) (pi_range1 rfl T.b_range (pa_cons pe_int pa_nil)) (blkOk_by (own := [("turn", 4)]) (N := n__law_some_form) (sc := defScope s__law_some_form) (by decide +kernel)) (fun _ _ _ _ _ => (pg_name (i := 4) sc__law_some_form.nd rfl (by first | exact Or.inl rfl | exact Or.inr rfl))) (fun _ _ _ _ _ => pts_nil) (fun _ _ _ _ _ => (k_bm (K := K) rfl PySem.F.plainAttrs_list PySem.F.slot_list_pop PySem.F.type_list_pop mt_popAt (pv 3) (pa_cons (pe_fn D__law_upto hr (by decide) rfl (pa_cons (pv 0) (pa_cons (pe_callB (k_len (K := K) rfl) rfl T.b_len (by decide +kernel) (pa_cons (pv 3) pa_nil)) pa_nil))) pa_nil))))
      (pss_cons (ps_set (i := 6) sc__law_some_form.nd rfl (by first | exact Or.inl rfl | exact Or.inr rfl) (pe_lst (pa_cons (pe_cmpR (u_in (K := K) rfl) pe_str (pv 2) (by first | exact nomark _ | rfl)) (pa_cons (pe_cmpR (u_in (K := K) rfl) pe_str (pv 2) (by first | exact nomark _ | rfl)) (pa_cons (pe_cmpR (u_in (K := K) rfl) pe_str (pv 2) (by first | exact nomark _ | rfl)) (pa_cons (pe_cmpR (u_in (K := K) rfl) pe_str (pv 2) (by first | exact nomark _ | rfl)) pa_nil))))))
      (pss_cons (ps_set (i := 6) sc__law_some_form.nd rfl (by first | exact Or.inl rfl | exact Or.inr rfl) (pe_op (u_add (K := K) rfl) (pe_op (u_add (K := K) rfl) (pv 6) (pe_op (u_mul (K := K) rfl) (pe_lst (pa_cons (pe_cmpR (u_in (K := K) rfl) pe_str (pv 2) (by first | exact nomark _ | rfl)) pa_nil)) pe_int)) (pe_lst (pa_cons (pe_cmpR (u_ne (K := K) rfl hr.units) (pv 2) (pe_tup pa_nil) (nomark _)) pa_nil))))
      (pss_one (ps_ret (pe_op (u_add (K := K) rfl) (pe_tup (pa_cons (pv 1) pa_nil)) (k_tuple (K := K) rfl rfl T.b_tuple (pe_lc (own := [("sign", 7), ("is_there", 8)])  (tt := tYes) rfl sc__law_some_form.nd (k_zip (K := K) rfl rfl T.b_zip (pa_cons (pv 5) (pa_cons (pv 6) pa_nil))) (blkOk_by (own := [("sign", 7), ("is_there", 8)]) (N := n__law_some_form) (sc := defScope s__law_some_form) (by decide +kernel)) (fun _ _ _ _ _ => (kg_tup 2 (K := K) rfl rfl (pgs_cons (pg_name (i := 7) sc__law_some_form.nd rfl (by first | exact Or.inl rfl | exact Or.inr rfl)) (pgs_cons (pg_name (i := 8) sc__law_some_form.nd rfl (by first | exact Or.inl rfl | exact Or.inr rfl)) pgs_nil)))) (fun _ _ _ _ _ => pts_nil) (fun _ _ _ _ _ => (pe_ifExp (k_truth (K := K) rfl (pv 8) (by intro _; rfl)) (pv 7) pe_str))))))))))), ?_⟩
  refine ⟨rfl, fun l H1 g1 hl hL => ?_⟩
  refine ⟨8, rfl, by decide, by decide, fun D hD => ?_⟩
  have lu := hu.ou hl
  have lc := hu.oc hl
  have hu1 := hu.gr g1
  have Du := hu1.ou hD
  have Dc := hu1.oc hD
  have lD : l ≠ D := ne_of_none hL hD
  have hD0 := g1.free hD
  refine lc_range (lo := 0) (n := 8) (fun i H' => ∃ ps rs, ps.length = i ∧ (ps ++ rs).Perm allS ∧ GrU u H H' ∧ Urn c H' u ∧ H' l = some (.lst (strV rs)) ∧ H' D = some (.lst (strV ps))) ⟨[], allS, rfl, List.Perm.refl _, gruD g1.u hD0, hu1.gr (Gr.new hD), by rw [upd_ne lD]; exact hL, upd_same⟩ ?_ ?_
  · rintro i H' hi ⟨ps, rs, hp, hpm, g, hu', h1, h2⟩
    have hlen : i + rs.length = 31 := by
      have q := hpm.length_eq
      rw [List.length_append, hp] at q
      exact q
    have lr : (strV rs).length = rs.length := List.length_map _
    refine ⟨rfl, ?_⟩
    refine ⟨_, rfl, .inl ⟨rfl, _, SqL.of h1⟩, _, rfl, _, rfl, _, _, rfl, .inl ⟨_, SqL.of h1, rfl⟩, u, c, _, rfl, hu', by rw [lr]; omega, by rw [lr]; omega, fun r H2 h0 hr1 g2 hu2 => ?_⟩
    obtain ⟨j, rfl⟩ := Int.eq_ofNat_of_zero_le h0
    rw [lr] at hr1
    have hj : j < rs.length := by omega
    have e1 := g2.keep lu h1 (fun _ z => by cases z)
    have e2 := g2.keep Du h2 (fun _ z => by cases z)
    refine ⟨l, strV rs, j, j, .str rs[j], rfl, rfl, e1, by omega, by omega, ?_, ?_, ?_⟩
    · unfold seqIndex?
      rw [lr]
      have q1 : ¬ (j : Int) < 0 := by omega
      simp only [q1, if_false]
      rw [if_pos (by simp; omega)]; rfl
    · unfold strV
      rw [List.getElem?_map, List.getElem?_eq_getElem hj]; rfl
    · refine ⟨strV ps, by rw [upd_ne (Ne.symm lD)]; exact e2, ?_, ps ++ [rs[j]], rs.eraseIdx j, by rw [List.length_append, hp]; rfl, (pop_perm (List.getElem?_eq_getElem hj)).trans hpm, gruD (gruD (g.trans g2) hl) hD0, (hu2.updD lu lc).updD Du Dc, ?_, ?_⟩
      · unfold strV
        rw [List.length_map, hp, sizeLine_eq]; omega
      · rw [upd_ne lD, upd_same]
        unfold strV
        rw [List.eraseIdx_eq_take_drop_succ, List.eraseIdx_eq_take_drop_succ, List.map_append, List.map_take, List.map_drop]
      · rw [upd_same]
        unfold strV
        rw [List.map_append]; rfl
  · rintro H' ⟨ps, rs, hp, hpm, g, hu', h1, h2⟩
    have hS' := g.seqT hu hS
    have hSf : (strV fs).all flatV = true := by
      unfold strV
      rw [List.all_map, List.all_eq_true]
      intro x _; rfl
    refine ⟨_, rfl, in_seq (.inr hS') rfl hSf ⟨_, rfl, in_seq (.inr hS') rfl hSf ⟨_, rfl, in_seq (.inr hS') rfl hSf ⟨_, rfl, in_seq (.inr hS') rfl hSf ⟨by show 4 ≤ sizeLine; rw [sizeLine_eq]; decide, fun p1 hp1 => ?_⟩⟩⟩⟩⟩
    refine newH hp1 fun Ha Ga s1 => ?_
    refine ⟨_, rfl, _, rfl, in_seq (.inr (Ga.seqT hS')) rfl hSf ⟨by show 1 ≤ sizeLine; rw [sizeLine_eq]; decide, fun p2 hp2 => ?_⟩⟩
    refine newH hp2 fun Hb Gb s2 => ?_
    refine m_ll s2 (by decide) (by decide) (by show 1 * 3 ≤ sizeLine; rw [sizeLine_eq]; decide) fun p3 hp3 => ?_
    refine newH hp3 fun Hc Gc s3 => ?_
    refine a_ll (Gc.lst (Gb.lst s1)) s3 (by rw [sizeLine_eq]; show 4 + 3 ≤ 16777216; decide) fun p4 hp4 => ?_
    refine newH hp4 fun Hd Gd s4 => ?_
    have G4 := ((Ga.trans Gb).trans Gc).trans Gd
    refine ⟨_, rfl, Nat.zero_le _, fun pe hpe => ?_⟩
    refine newH hpe fun Hx Ge se => ?_
    refine n_data (Dp.tup ((G4.trans Ge).seqT hS') (dp_strs fs)) (Dp.tup (SqT.of se) .nil) (shp_strsT hf) rfl ?_
    refine ⟨by show 1 ≤ sizeLine; rw [sizeLine_eq]; decide, fun p5 hp5 => ?_⟩
    refine newH hp5 fun Hf Gf s5 => ?_
    refine a_ll ((Ge.trans Gf).lst s4) s5 (by rw [sizeLine_eq]; show 7 + 1 ≤ 16777216; decide) fun p6 hp6 => ?_
    refine newH hp6 fun Hg Gg s6 => ?_
    have G6 := ((G4.trans Ge).trans Gf).trans Gg
    have e6 : Hg p6 = some (.lst ((thereL fs).map V.bl)) := s6.trans rfl
    have d6 := G6.lst h2
    refine ⟨_, rfl, by show 1 ≤ sizeLine; rw [sizeLine_eq]; decide, fun pT hpT => ?_⟩
    refine newH hpT fun Hh Gh sT => ?_
    refine ⟨_, rfl, _, rfl, D, p6, _, _, rfl, .inl ⟨SqL.of (Gh.lst d6), SqL.of (Gh.lst e6), fun Z hZ => ?_⟩⟩
    have rl : ∀ i, (((ps.zip (thereL fs)).take i).map mkS).length ≤ 8 := fun i => by
      rw [List.length_map, List.length_take, List.length_zip]
      omega
    refine lc_zL (a := D) (b := p6) (xs := strV ps) (ys := (thereL fs).map V.bl) (by unfold strV; rw [List.length_map, List.length_map, hp]; rfl) (fun i H' => Gr Hh H' ∧ H' Z = some (.lst (strV (((ps.zip (thereL fs)).take i).map mkS)))) ⟨Gr.new hZ, upd_same⟩ ?_ ?_ ?_
    · rintro i H2 ⟨g3, _⟩
      exact ⟨SqL.of (g3.lst (Gh.lst d6)), SqL.of (g3.lst (Gh.lst e6))⟩
    · rintro i x y T2 H2 hx hy ⟨g3, h3⟩ hT2
      obtain ⟨t, ht, rfl⟩ := str_at hx
      rw [List.getElem?_map] at hy
      obtain ⟨b, hb, rfl⟩ : ∃ b, (thereL fs)[i]? = some b ∧ y = .bl b := by
        cases e : (thereL fs)[i]? with
        | none => rw [e] at hy; cases hy
        | some b => rw [e] at hy; exact ⟨b, rfl, (Option.some.inj hy).symm⟩
      have hz : (ps.zip (thereL fs))[i]? = some (t, b) := by
        rw [List.getElem?_zip_eq_some]
        exact ⟨ht, hb⟩
      refine newH hT2 fun H3 g4 s8 => ?_
      have g5 := g3.trans g4
      have h4 := g4.lst h3
      refine ⟨_, _, rfl, SqT.of s8, rfl, _, _, rfl, _, _, rfl, rfl, rfl, ?_⟩
      have st : ((ps.zip (thereL fs)).take (i + 1)).map mkS = ((ps.zip (thereL fs)).take i).map mkS ++ [mkS (t, b)] := by
        rw [List.take_succ, hz, List.map_append]; rfl
      have nl : (strV (((ps.zip (thereL fs)).take i).map mkS)).length < sizeLine := by
        unfold strV
        rw [List.length_map, sizeLine_eq]
        exact Nat.lt_of_le_of_lt (rl i) (by decide)
      refine ⟨_, rfl, b, rfl, ite2 (fun hb => ?_) (fun hb => ?_)⟩
      · refine ⟨_, rfl, _, h4, nl, g5.upd' hZ, ?_⟩
        rw [upd_same, st]
        unfold strV
        rw [List.map_append]
        show _ = some (HO.lst (_ ++ [V.str (mkS (t, b))]))
        have e : mkS (t, b) = t := if_pos hb
        rw [e]
      · refine ⟨_, h4, nl, g5.upd' hZ, ?_⟩
        rw [upd_same, st]
        unfold strV
        rw [List.map_append]
        show _ = some (HO.lst (_ ++ [V.str (mkS (t, b))]))
        have e : mkS (t, b) = "" := if_neg hb
        rw [e]
    · rintro H2 ⟨g3, h3⟩
      refine ⟨.inl ⟨Z, _, rfl, SqL.of h3, fun t8 ht8 => ?_⟩⟩
      refine newH ht8 fun H3 g4 s8 => ?_
      have g5 := (G6.trans Gh).trans (g3.trans g4)
      have ln : (strV ps).length = 8 := by unfold strV; rw [List.length_map]; exact hp
      have tk : (ps.zip (thereL fs)).take (strV ps).length = ps.zip (thereL fs) := by
        rw [ln]
        refine List.take_of_length_le ?_
        rw [List.length_zip]
        omega
      have ml : (mask fs ps).length = 8 := by
        unfold mask
        rw [List.length_map, List.length_zip, hp]; rfl
      rw [tk] at s8
      have s8 : H3 t8 = some (.tup (strV (mask fs ps))) := s8
      have sl : (strV (mask fs ps)).length = 8 := by unfold strV; rw [List.length_map]; exact ml
      refine a_tt (SqT.of ((g3.trans g4).tup sT)) (SqT.of s8) (by rw [sl, sizeLine_eq]; show 1 + 8 ≤ 16777216; decide) (fun z => by cases z) (fun _ z => ?_) (fun _ _ t ht => ?_)
      · rw [z] at sl
        cases sl
      · refine newH ht fun H4 g6 s9 => ?_
        have g7 := g5.trans g6
        refine k t ps rs _ hp hpm (g.trans g7.u) (hu'.gr g7) (g.free (hu'.ou (g5.free ht)) (g5.free ht)) (hu'.ou (g5.free ht)) (s9.trans rfl)
theorem ok_some_set {fd : FuncData} (F : FnP K "_law_some_set" s__law_some_set fd) (T : TD K mg) (D__law_upto : Df P w K mg base "_law_upto" 2 p__law_upto spUpto) : FnOk P w K mg base CX0 3 (He.fAd K ("_law_some_set", none)) fd p__law_some_set (spSomeSet K) := by
  refine okP F sc__law_some_set (fun vs H Q E h => by obtain ⟨u, c, rfl, _⟩ := h; rfl) (fun A outer s H vs Q E hr h => ?_)
  obtain ⟨u, c, rfl, hu, k⟩ := h
  refine ⟨_, (pss_one (ps_ret (k_tuple (K := K) rfl rfl T.b_tuple (pe_lc (own := [("feature", 1)]) (g := gName 1) rfl sc__law_some_set.nd (k_tup (K := K) rfl (pe_tup (pa_cons pe_str (pa_cons pe_str (pa_cons pe_str (pa_cons pe_str (pa_cons pe_str pa_nil))))))) (blkOk_by (own := [("feature", 1)]) (N := n__law_some_set) (sc := defScope s__law_some_set) (by decide +kernel)) (fun _ _ _ _ _ => (pg_name (i := 1) sc__law_some_set.nd rfl (by first | exact Or.inl rfl | exact Or.inr rfl))) (fun _ _ _ _ _ => (pts_one (pt_cmpR (u_eq (K := K) rfl hr.units) (pe_fn D__law_upto hr (by decide) rfl (pa_cons (pv 0) (pa_cons pe_int pa_nil))) pe_int (nomark _)))) (fun _ _ _ _ _ => (pv 1)))))), ?_⟩
  refine ⟨by show 5 ≤ sizeLine; rw [sizeLine_eq]; decide, fun p0 hp0 => ?_⟩
  refine newH hp0 fun H0 g0 s0 => ?_
  have hu0 := hu.gr g0
  refine ⟨p0, rfl, ⟨_, SqT.of s0⟩, fun D hD => ?_⟩
  have Du := hu0.ou hD
  have Dc := hu0.oc hD
  refine lc_tup (K := K) (a := p0) (xs := strV five) (fun i H' => ∃ fs : List Str, (fs.length ≤ i ∧ ∀ t ∈ fs, t ∈ five) ∧ GrU u H0 H' ∧ Urn c H' u ∧ H' D = some (.lst (strV fs))) ⟨[], ⟨Nat.le_refl _, by simp⟩, gruD (GrU.refl _ _) hD, hu0.gr (Gr.new hD), upd_same⟩ ?_ ?_ ?_
  · rintro i H' _ ⟨fs, _, g, _, _⟩
    exact g.seqT hu0 (SqT.of s0)
  · rintro i x H' hx ⟨fs, ⟨hl, hl5⟩, g, hu', hL⟩
    obtain ⟨f, hf, rfl⟩ := strV_get hx
    have il := (List.getElem?_eq_some_iff.mp hx).1
    have il2 : i < 5 := il
    refine ⟨rfl, ?_⟩
    refine ⟨_, rfl, u, c, 2, rfl, hu', by decide, by decide, fun r H2 _ _ g2 hu2 => e_flat rfl ⟨_, rfl, ?_⟩⟩
    have hL2 := g2.keep Du hL (fun _ z => by cases z)
    refine ite2 (fun h1 => ?_) (fun h1 => ?_)
    · refine ⟨_, rfl, _, hL2, ?_, fs ++ [f], ⟨by rw [List.length_append]; show fs.length + 1 ≤ _; omega, fun t ht => by
        rcases List.mem_append.mp ht with z | z
        · exact hl5 t z
        · rw [List.mem_singleton.mp z]; exact List.mem_of_getElem? hf⟩, gruD (g.trans g2) hD, hu2.updD Du Dc, ?_⟩
      · show (List.map V.str _).length < _
        rw [List.length_map, sizeLine_eq]
        omega
      · rw [upd_same]
        unfold strV
        rw [List.map_append]; rfl
    · exact ⟨fs, ⟨by omega, hl5⟩, g.trans g2, hu2, hL2⟩
  · rintro H' ⟨fs, ⟨_, hl5⟩, g, hu', hL⟩
    refine ⟨.inl ⟨D, _, rfl, SqL.of hL, fun t ht => ?_⟩⟩
    refine newH ht fun H2 g2 s2 => ?_
    exact k t fs H2 hl5 ((g0.u.trans g).trans g2.u) (hu'.gr g2) (SqT.of s2)
theorem ok_some_forms {fd : FuncData} (F : FnP K "_law_some_forms" s__law_some_forms fd) (T : TD K mg) (D__law_upto : Df P w K mg base "_law_upto" 2 p__law_upto spUpto) (D__law_some_set : Df P w K mg base "_law_some_set" 3 p__law_some_set (spSomeSet K)) (D__law_some_form : Df P w K mg base "_law_some_form" 3 p__law_some_form (spSomeForm K)) : FnOk P w K mg base CX0 4 (He.fAd K ("_law_some_forms", none)) fd p__law_some_forms (spSForms K) := by
  refine okP F sc__law_some_forms (fun vs H Q E h => by obtain ⟨u, c, many, rfl, _⟩ := h; rfl) (fun A outer s H vs Q E hr h => ?_)
  obtain ⟨u, c, many, rfl, hu, hm0, hm, k⟩ := h
  obtain ⟨aP, m_PLAIN, sP⟩ := T.c_PLAIN
  have sl : ∀ {n : Nat}, n ≤ 3000 → n ≤ sizeLine := fun h => by rw [sizeLine_eq]; omega
  obtain ⟨mn, rfl⟩ := Int.eq_ofNat_of_zero_le hm0
  refine ⟨_, (pss_cons (ps_set (i := 2) sc__law_some_forms.nd rfl (by first | exact Or.inl rfl | exact Or.inr rfl) (pe_disp (pps_cons pe_str (pe_ref rfl m_PLAIN) pps_nil) rfl rfl (by simp) (by decide)))
      (pss_cons (ps_set (i := 3) sc__law_some_forms.nd rfl (by first | exact Or.inl rfl | exact Or.inr rfl) (pe_lst (pa_cons pe_str (pa_cons pe_str (pa_cons pe_str (pa_cons pe_str (pa_cons pe_str (pa_cons pe_str (pa_cons pe_str (pa_cons pe_str (pa_cons pe_str (pa_cons pe_str (pa_cons pe_str (pa_cons pe_str (pa_cons pe_str (pa_cons pe_str (pa_cons pe_str pa_nil)))))))))))))))))
      (pss_cons (ps_for PassesOwn.never rfl (k_list (K := K) rfl (pe_slice (u_sl (K := K) rfl) (pv 3) po_none (po_some (pv 1)))) (pg_name (i := 4) sc__law_some_forms.nd rfl (by first | exact Or.inl rfl | exact Or.inr rfl))
      (pss_cons (ps_set (i := 5) sc__law_some_forms.nd rfl (by first | exact Or.inl rfl | exact Or.inr rfl) (pe_fn D__law_some_set hr (by decide) rfl (pa_cons (pv 0) pa_nil)))
      (C8.pss_cut (ps_if (pt_cmpR (u_eq (K := K) rfl hr.units) (pe_fn D__law_upto hr (by decide) rfl (pa_cons (pv 0) (pa_cons pe_int pa_nil))) pe_int (nomark _))
      (pss_one (ps_set (i := 5) sc__law_some_forms.nd rfl (by first | exact Or.inl rfl | exact Or.inr rfl) (pe_tup (pa_cons pe_str (pa_cons pe_str (pa_cons pe_str (pa_cons pe_str (pa_cons pe_str pa_nil))))))))
      pss_nil)
      (pss_one (ps_dput (hu_of hr) (pv 2) (pv 4) (pe_fn D__law_some_form hr (by decide) rfl (pa_cons (pv 0) (pa_cons (pv 4) (pa_cons (pv 5) pa_nil)))) rfl)))))
      (pss_one (ps_ret (pv 2)))))), ?_⟩
  intro d hd
  refine ⟨upd_same, [((Sum.inr "plain" : Key), V.ref aP)], rfl, by show 1 ≤ 15; decide, ?_⟩
  have g1 : Gr H (upd (upd H d (.dK [])) d (.dK (mergeK [] [((Sum.inr "plain" : Key), V.ref aP)]))) := (Gr.new hd).upd' hd
  have s1 : (upd (upd H d (.dK [])) d (.dK (mergeK [] [((Sum.inr "plain" : Key), V.ref aP)]))) d = some (.dK [((Sum.inr "plain" : Key), V.ref aP)]) := upd_same
  generalize upd (upd H d (.dK [])) d (.dK (mergeK [] [((Sum.inr "plain" : Key), V.ref aP)])) = H1 at g1 s1
  refine ⟨sl (by show 15 ≤ 3000; decide), fun L hL => ?_⟩
  refine newH hL fun H2 g2 s2 => ?_
  have s2 : H2 L = some (.lst (strV NS)) := s2
  refine ⟨_, rfl, _, rfl, _, rfl, sl_l (SqL.of s2) fun L2 hL2 => ?_⟩
  refine newH hL2 fun H3 g3 s3 => ?_
  have es : cutV (strV NS) none (some (mn : Int)) = strV (NS.take mn) := by
    show ((strV NS).drop 0).take (HT.sIx (strV NS).length (strV NS).length (some (mn : Int)) - 0) = _
    rw [HT.sIx_nat, List.drop_zero, Nat.sub_zero]
    have e : (strV NS).length = 15 := rfl
    rw [e, Nat.min_eq_left (by omega)]
    unfold strV
    rw [List.map_take]
  rw [es] at s3
  have G3 := (g1.trans g2).trans g3
  have hu3 := hu.gr G3
  have du : d ≠ u := hu.ou hd
  have dc : d ≠ c := hu.oc hd
  have n2 : L2 ≠ u := (hu.gr (g1.trans g2)).ou hL2
  have nLd : L2 ≠ d := Ne.symm (ne_of_none (g2.keep s1 (fun _ z => by cases z)) hL2)
  refine ⟨L2, rfl, ⟨_, SqL.of s3⟩, ?_⟩
  have tl : (NS.take mn).length = mn := by rw [List.length_take]; have : NS.length = 15 := rfl; omega
  refine for_list (K := K) (a := L2) (xs := strV (NS.take mn)) (fun i σ H' => ∃ (o4 o5 : Option V) (kvs : List (Key × V)) (F : List Fo), σ = [some (.ref u), some (.int mn), some (.ref d), some (.ref L), o4, o5] ∧ GrU u H H' ∧ Urn c H' u ∧ H' L2 = some (.lst (strV (NS.take mn))) ∧ H' d = some (.dK kvs) ∧ KB K Fo.name foV H' kvs F ∧ F.map Fo.name = ("plain" : Str) :: NS.take i ∧ ∀ f ∈ F, FoOk f)
    ⟨none, none, _, [foP], rfl, G3.u, hu3, s3, (g2.trans g3).keep s1 (fun _ z => by cases z), KB.nil.snoc (a := foP) (sP _), rfl, fun f hf => by rw [List.mem_singleton.mp hf]; exact foP_ok⟩ ?_ ?_ ?_
  · rintro i σ H' _ ⟨o4, o5, kvs, F, rfl, g, hu', hL', _⟩
    exact SqL.of hL'
  · rintro i x σ H' hx ⟨o4, o5, kvs, F, rfl, g, hu', hL', hk, hK, hF, hok⟩
    obtain ⟨nm, hn, rfl⟩ := strV_get hx
    have il : i < mn := by rw [← tl]; exact (List.getElem?_eq_some_iff.mp hn).1
    have hn2 : NS[i]? = some nm := by
      rw [List.getElem?_take, if_pos il] at hn
      exact hn
    have nmem : nm ∈ NS := List.mem_of_getElem? hn2
    obtain ⟨nl1, nl2⟩ := NSP_ok nm (List.mem_cons_of_mem _ nmem)
    refine ⟨_, rfl, u, c, rfl, hu', fun p fs H4 hfs g4 hu4 s4 => ?_⟩
    refine ⟨fun σ H' => ∃ (p : Addr) (fs : List Str), σ = [some (.ref u), some (.int mn), some (.ref d), some (.ref L), some (.str nm), some (.ref p)] ∧ SqT K H' p (strV fs) ∧ (∀ t ∈ fs, t ∈ five) ∧ GrU u H4 H' ∧ Urn c H' u, ?_, ?_⟩
    · refine ⟨_, rfl, u, c, 2, rfl, hu4, by decide, by decide, fun r H5 _ _ g5 hu5 => e_flat rfl ⟨_, rfl, ite2 (fun _ => ?_) (fun _ => ?_)⟩⟩
      · refine ⟨sl (by show 5 ≤ 3000; decide), fun q hq => ?_⟩
        refine newH hq fun H6 g6 s6 => ?_
        exact ⟨q, five, rfl, SqT.of s6, fun t ht => ht, g5.trans g6.u, hu5.gr g6⟩
      · exact ⟨p, fs, rfl, g5.seqT hu4 s4, hfs, g5, hu5⟩
    rintro σ H5 ⟨p, fs, rfl, sp, hfs, g5, hu5⟩
    refine ⟨_, rfl, _, rfl, _, rfl, u, c, p, nm, fs, rfl, hu5, sp, fun t ht => aS_lay (five_ok t (hfs t ht)).2, fun t ps rs H6 hp pm g6 hu6 ht htu s6 => ?_⟩
    obtain ⟨f, hf, ef⟩ := form_of (n := nm) (fs := fs) hp pm ⟨aS_lay nl2, by omega⟩
    have fn : f.name = nm := by
      have q := congrArg List.head? ef
      exact Option.some.inj q
    have G6 := (g4.trans g5).trans g6
    have hk6 : H6 d = some (.dK kvs) := G6.keep du hk (fun _ z => by cases z)
    have hL6 : H6 L2 = some (.lst (strV (NS.take mn))) := G6.keep n2 hL' (fun _ z => by cases z)
    have hK6 : KB K Fo.name foV H6 kvs F := hK.mono fun _ _ q => g6.seqT hu5 (g5.seqT hu4 (g4.seqT hu' q))
    have kl : kvs.length ≤ 16 := by
      rw [hK.1, ← List.length_map (as := F) Fo.name, hF, List.length_cons, List.length_take]
      have : NS.length = 15 := rfl
      omega
    have hnone : valV kvs (Sum.inr nm : Key) = none := hK.none fun b hb z => by
      have q : nm ∈ F.map Fo.name := List.mem_map.mpr ⟨b, hb, z⟩
      rw [hF] at q
      have nd := List.nodup_cons.mp NSP_nd
      rcases List.mem_cons.mp q with q | q
      · exact nd.1 (by rw [← q]; exact nmem)
      · obtain ⟨j, hj⟩ := List.getElem?_of_mem q
        rw [List.getElem?_take] at hj
        split at hj
        · have := nodup_at nd.2 hj hn2
          omega
        · cases hj
    refine ⟨_, rfl, _, rfl, d, _, rfl, DPut.k (k := Sum.inr nm) hk6 (by rw [sizeLine_eq]; omega), ?_⟩
    rw [putK_new hnone]
    have st : SqT K H6 t (foV f) := by
      unfold foV
      rw [ef]
      exact SqT.of s6
    have keepT : ∀ {o : HO} (t : Addr) (zs : List V), SqT K H6 t zs → SqT K (upd H6 d o) t zs := fun t zs q => by
      rcases q with (q | ⟨o, q⟩) | q
      · have n : t ≠ d := fun z => by rw [z, hk6] at q; cases q
        exact .inl (.inl (by rw [upd_ne n]; exact q))
      · have n : t ≠ d := fun z => by rw [z, hk6] at q; cases q
        exact .inl (.inr ⟨o, by rw [upd_ne n]; exact q⟩)
      · exact .inr q
    refine ⟨_, _, kvs ++ [(Sum.inr nm, .ref t)], F ++ [f], rfl, gruD (g.trans G6) hd, hu6.updD du dc, by rw [upd_ne nLd]; exact hL6, upd_same, ?_, ?_, fun f' hf' => ?_⟩
    · rw [← fn]
      exact (hK6.mono keepT).snoc (keepT _ _ st)
    · rw [List.map_append, hF, take_snoc hn2]
      show _ ++ [f.name] = _
      rw [fn]; rfl
    · rcases List.mem_append.mp hf' with z | z
      · exact hok f' z
      · rw [List.mem_singleton.mp z]
        exact hf
  · rintro σ H' ⟨o4, o5, kvs, F, rfl, g, hu', hL', hk, hK, hF, hok⟩
    exact ⟨_, rfl, k d kvs F H' ⟨hk, hK, ⟨_, hF⟩, hok⟩ g hu'⟩
theorem ok_unlike {fd : FuncData} (F : FnP K "_law_unlike" s__law_unlike fd) (T : TD K mg) : FnOk P w K mg base CX0 1 (He.fAd K ("_law_unlike", none)) fd p__law_unlike (spUnlike K) := by
  refine okP F sc__law_unlike (fun vs H Q E h => by obtain ⟨l, xs, ms, rfl, _⟩ := h; rfl) (fun A outer s H vs Q E hr h => ?_)
  obtain ⟨l, xs, ms, rfl, hL, hR, hl, k⟩ := h
  have sl : ∀ {n : Nat}, n ≤ 3000 → n ≤ sizeLine := fun h => by rw [sizeLine_eq]; omega
  refine ⟨_, (pss_cons (ps_set (i := 1) sc__law_unlike.nd rfl (by first | exact Or.inl rfl | exact Or.inr rfl) (pe_lst pa_nil))
      (pss_cons (ps_for PassesOwn.never rfl (k_list (K := K) rfl (pv 0)) (pg_name (i := 2) sc__law_unlike.nd rfl (by first | exact Or.inl rfl | exact Or.inr rfl))
      (pss_one (ps_if (pt_cmpR (u_ni (K := K) rfl) (pe_ix (u_ix (K := K) rfl) (pv 2) pe_int (fun _ _ => rfl)) (pe_lc (own := [("one", 3)]) (g := gName 3) (tt := tYes) rfl sc__law_unlike.nd (k_list (K := K) rfl (pv 1)) (blkOk_by (own := [("one", 3)]) (N := n__law_unlike) (sc := defScope s__law_unlike) (by decide +kernel)) (fun _ _ _ _ _ => (pg_name (i := 3) sc__law_unlike.nd rfl (by first | exact Or.inl rfl | exact Or.inr rfl))) (fun _ _ _ _ _ => pts_nil) (fun _ _ _ _ _ => (pe_ix (u_ix (K := K) rfl) (pv 3) pe_int (fun _ _ => rfl)))) (by first | exact nomark _ | rfl))
      (pss_one (ps_expr (k_bm (K := K) rfl PySem.F.plainAttrs_list PySem.F.slot_list_append PySem.F.type_list_append mt_append (pv 1) (pa_cons (pv 2) pa_nil))))
      pss_nil)))
      (pss_one (ps_ret (k_tuple (K := K) rfl rfl T.b_tuple (pv 1)))))), ?_⟩
  refine ⟨Nat.zero_le _, fun D hD => ?_⟩
  refine newH hD fun H1 g1 s1 => ?_
  refine ⟨_, rfl, l, rfl, ⟨_, SqL.of (g1.lst hL)⟩, ?_⟩
  refine for_list (K := K) (a := l) (xs := xs) (fun i σ H' => ∃ (o2 : Option V) (ys : List V) (F : List Mak), σ = [some (.ref l), some (.ref D), o2, none] ∧ Gr H H' ∧ H' D = some (.lst ys) ∧ RB K makV H' ys F ∧ (F.map Mak.n).Nodup ∧ (∀ m ∈ F, m ∈ ms) ∧ F.length ≤ i) ⟨none, [], [], rfl, g1, s1, RB.nil, List.nodup_nil, by simp, Nat.le_refl _⟩ ?_ ?_ ?_
  · rintro i σ H' _ ⟨o2, ys, F, rfl, g, _⟩
    exact SqL.of (g.lst hL)
  · rintro i x σ H' hx ⟨o2, ys, F, rfl, g, hD', hY, nd, hin, hf⟩
    obtain ⟨m, t, hm, rfl, st⟩ := hR.at_ hx
    have il := (List.getElem?_eq_some_iff.mp hm).1
    have st' := g.seqT st
    refine ⟨_, rfl, x_t st' rfl ?_⟩
    refine ⟨_, rfl, D, rfl, ⟨_, SqL.of hD'⟩, fun L hL' => ?_⟩
    refine lc_list (K := K) (a := D) (xs := ys) (fun j H2 => Gr H' H2 ∧ H2 L = some (.lst (strV ((F.map Mak.n).take j)))) ⟨Gr.new hL', upd_same⟩ ?_ ?_ ?_
    · rintro j H2 _ ⟨g2, _⟩
      exact SqL.of (g2.lst hD')
    · rintro j y H2 hy ⟨g2, hL2⟩
      obtain ⟨m2, t2, hm2, rfl, st2⟩ := hY.at_ hy
      have jl := (List.getElem?_eq_some_iff.mp hm2).1
      refine ⟨rfl, ?_⟩
      refine ⟨_, rfl, x_t (g2.seqT st2) rfl ⟨_, hL2, ?_, g2.upd' hL', ?_⟩⟩
      · unfold strV
        rw [List.length_map, List.length_take, List.length_map, sizeLine_eq]
        omega
      · rw [upd_same, take_snoc (show (F.map Mak.n)[j]? = some m2.n by rw [List.getElem?_map, hm2]; rfl)]
        unfold strV
        rw [List.map_append]; rfl
    · rintro H2 ⟨g2, hL2⟩
      rw [hY.1, show F.length = (F.map Mak.n).length from (List.length_map _).symm, List.take_length] at hL2
      refine ni_seq (.inl (SqL.of hL2)) rfl (strV_flat _) ⟨_, rfl, ?_⟩
      have hD2 := g2.lst hD'
      have hY2 := hY.gr g2
      by_cases hmem : m.n ∈ F.map Mak.n
      · rw [inV_str.mpr hmem]
        exact iteF ⟨_, ys, F, rfl, g.trans g2, hD2, hY2, nd, hin, by omega⟩
      · have e : inV (V.str m.n) (strV (F.map Mak.n)) = false := by
          cases q : inV (V.str m.n) (strV (F.map Mak.n)) with
          | false => rfl
          | true => exact absurd (inV_str.mp q) hmem
        have e' : inV ((makV m).getD 0 .non) (strV (F.map Mak.n)) = false := e
        show if (!inV (V.str m.n) (strV (F.map Mak.n))) = true then _ else _
        rw [e]
        refine iteT ⟨_, rfl, .inl ⟨rfl, _, SqL.of hD2⟩, _, rfl, D, ys, .ref t, rfl, rfl, hD2, by rw [hY.1, sizeLine_eq]; omega, ?_⟩
        refine ⟨_, ys ++ [.ref t], F ++ [m], rfl, (g.trans g2).upd' hD, upd_same, (hY2.mono fun t ys q => upd_seqT hD2 t ys q).snoc (upd_seqT hD2 _ _ (g2.seqT st')), ?_, fun b hb => ?_, by rw [List.length_append]; show _ + 1 ≤ _; omega⟩
        · rw [List.map_append]
          refine List.nodup_append.mpr ⟨nd, by simp, fun a ha b hb z => ?_⟩
          rw [List.mem_singleton.mp hb] at z
          exact hmem (z ▸ ha)
        · rcases List.mem_append.mp hb with z | z
          · exact hin b z
          · rw [List.mem_singleton.mp z]
            exact List.mem_of_getElem? hm
  · rintro σ H' ⟨o2, ys, F, rfl, g, hD', hY, nd, hin, hf⟩
    rw [hR.1] at hf
    refine ⟨_, rfl, ⟨.inl ⟨D, _, rfl, SqL.of hD', fun p hp => ?_⟩⟩⟩
    refine newH hp fun H2 g2 s2 => ?_
    exact k p ys F H2 (g.trans g2) (SqT.of s2) (hY.gr g2) nd hin hf
theorem ok_some_makers {fd : FuncData} (F : FnP K "_law_some_makers" s__law_some_makers fd) (T : TD K mg) (D__law_upto : Df P w K mg base "_law_upto" 2 p__law_upto spUpto) (D__law_choice : Df P w K mg base "_law_choice" 3 p__law_choice (spChoice K)) (D__law_unlike : Df P w K mg base "_law_unlike" 1 p__law_unlike (spUnlike K)) : FnOk P w K mg base CX0 4 (He.fAd K ("_law_some_makers", none)) fd p__law_some_makers (spSMk K) := by
  refine okP F sc__law_some_makers (fun vs H Q E h => by obtain ⟨u, c, d, kvs, Fs, N0, rfl, _⟩ := h; rfl) (fun A outer s H vs Q E hr h => ?_)
  obtain ⟨u, c, d, kvs, Fs, N0, rfl, hu, hF, hN0, k⟩ := h
  have sl : ∀ {n : Nat}, n ≤ 3000 → n ≤ sizeLine := fun h => by rw [sizeLine_eq]; omega
  refine ⟨_, (pss_cons (ps_par (i := 3) (j := 4) (by rfl) sc__law_some_makers.nd rfl rfl (by decide) rfl rfl (pa_cons (pe_lst pa_nil) (pa_cons (pe_callTy (call_list_dK rfl) rfl T.b_list (by decide +kernel) (pa_cons (pv 1) pa_nil)) pa_nil)) (by rfl))
      (pss_cons (ps_for PassesOwn.never rfl (pi_range1 rfl T.b_range (pa_cons (pv 2) pa_nil)) (pg_name (i := 5) sc__law_some_makers.nd rfl (by first | exact Or.inl rfl | exact Or.inr rfl))
      (pss_cons (ps_par (i := 6) (j := 7) (by rfl) sc__law_some_makers.nd rfl rfl (by decide) rfl rfl (pa_cons (pe_fn D__law_choice hr (by decide) rfl (pa_cons (pv 0) (pa_cons (pv 4) pa_nil))) (pa_cons (pe_fn D__law_choice hr (by decide) rfl (pa_cons (pv 0) (pa_cons (pv 4) pa_nil))) pa_nil)) (by rfl))
      (pss_one (ps_if (pt_cmpR (u_ne (K := K) rfl hr.units) (pv 6) (pv 7) (nomark _))
      (pss_cons (ps_set (i := 8) sc__law_some_makers.nd rfl (by first | exact Or.inl rfl | exact Or.inr rfl) (pe_op (u_add (K := K) rfl) (pe_op (u_add (K := K) rfl) (pe_fn D__law_choice hr (by decide) rfl (pa_cons (pv 0) (pa_cons (pe_lst (pa_cons pe_str (pa_cons pe_str (pa_cons pe_str pa_nil)))) pa_nil))) (pe_callTy call_strU rfl T.b_str (by decide +kernel) (pa_cons (pe_fn D__law_upto hr (by decide) rfl (pa_cons (pv 0) (pa_cons pe_int pa_nil))) pa_nil))) (pe_op (u_mulX (K := K) rfl) pe_str (pv 5))))
      (pss_one (ps_expr (k_bm (K := K) rfl PySem.F.plainAttrs_list PySem.F.slot_list_append PySem.F.type_list_append mt_append (pv 3) (pa_cons (pe_tup (pa_cons (pe_slice (u_sl (K := K) rfl) (pv 8) po_none (po_some pe_int)) (pa_cons (pv 6) (pa_cons (pv 7) (pa_cons (pe_fn D__law_choice hr (by decide) rfl (pa_cons (pv 0) (pa_cons (pe_lst (pa_cons pe_int (pa_cons pe_int (pa_cons pe_int (pa_cons pe_int (pa_cons pe_int (pa_cons pe_int pa_nil))))))) pa_nil))) pa_nil))))) pa_nil)))))
      pss_nil))))
      (pss_one (ps_ret (pe_fn D__law_unlike hr (by decide) rfl (pa_cons (pv 3) pa_nil)))))), ?_⟩
  refine ⟨Nat.zero_le _, fun D hD => ?_⟩
  refine newH hD fun H1 g1 s1 => ?_
  refine ⟨_, rfl, d, kvs, rfl, (hF.gr g1).e, fun N hN => ?_⟩
  refine newH hN fun H2 g2 s2 => ?_
  have ek : (kvs.map fun kv => kV kv.1) = strV (Fs.map Fo.name) := by
    have q := hF.k.keys
    have q2 := congrArg (List.map kV) q
    rw [List.map_map, List.map_map, List.map_map] at q2
    unfold strV
    rw [List.map_map]
    exact q2
  rw [ek] at s2
  have Du := hu.ou hD
  have Dc := hu.oc hD
  have Nu := (hu.gr g1).ou hN
  have NsD : N ≠ D := Ne.symm (ne_of_none s1 hN)
  have G2 := g1.trans g2
  have fl16 := hF.l
  have nsne : strV (Fs.map Fo.name) ≠ [] := by
    unfold strV
    intro z
    exact hF.ne (List.map_eq_nil_iff.mp (List.map_eq_nil_iff.mp z))
  have nsl : (strV (Fs.map Fo.name)).length < 1073741824 := by unfold strV; rw [List.length_map, List.length_map]; omega
  refine ⟨_, _, rfl, ?_⟩
  refine ⟨_, rfl, ((N0 : Nat) : Int), rfl, by omega, by omega, ?_⟩
  refine for_range (lo := 0) (n := N0) (fun i σ H' => ∃ (o5 o6 o7 o8 : Option V) (ys : List V) (ms : List Mak), σ = [some (.ref u), some (.ref d), some (.int (N0 : Nat)), some (.ref D), some (.ref N), o5, o6, o7, o8] ∧ GrU u H H' ∧ Urn c H' u ∧ H' N = some (.lst (strV (Fs.map Fo.name))) ∧ H' D = some (.lst ys) ∧ RB K makV H' ys ms ∧ (∀ m ∈ ms, OkMk (Fs.map Fo.name) m) ∧ ms.length ≤ i)
    ⟨none, none, none, none, [], [], rfl, G2.u, hu.gr G2, s2, g2.lst s1, RB.nil, by simp, Nat.le_refl _⟩ ?_ ?_
  · rintro i σ H' hi ⟨o5, o6, o7, o8, ys, ms, rfl, g, hu', hN', hD', hY, hok, hl⟩
    refine ⟨_, rfl, _, rfl, u, c, N, _, rfl, hu', Nu, .inl (SqL.of hN'), nsne, nsl, fun x H3 hx g3 hu3 => ?_⟩
    have hN3 := g3.keep Nu hN' (fun _ z => by cases z)
    refine ⟨_, rfl, _, rfl, u, c, N, _, rfl, hu3, Nu, .inl (SqL.of hN3), nsne, nsl, fun y H4 hy g4 hu4 => ?_⟩
    obtain ⟨x, hx2, rfl⟩ := List.mem_map.mp hx
    obtain ⟨y, hy2, rfl⟩ := List.mem_map.mp hy
    refine ⟨_, _, rfl, ?_⟩
    have hN4 := g4.keep Nu hN3 (fun _ z => by cases z)
    have hD4 := g4.keep Du (g3.keep Du hD' (fun _ z => by cases z)) (fun _ z => by cases z)
    have hY4 : RB K makV H4 ys ms := hY.mono fun _ _ q => g4.seqT hu3 (g3.seqT hu' q)
    refine ⟨_, rfl, _, rfl, n_flat rfl ⟨_, rfl, ite2 (fun h1 => ?_) (fun h1 => ?_)⟩⟩
    · have hne : x ≠ y := fun z => by rw [z] at h1; simp at h1
      refine ⟨_, rfl, sl (by show 3 ≤ 3000; decide), fun q1 e1 => ?_⟩
      have nq1 := hu4.ou e1
      refine newH e1 fun H5 g5 s5 => ?_
      have hu5 := hu4.gr g5
      refine ⟨u, c, q1, _, rfl, hu5, nq1, .inl (SqL.of s5), by simp, by show 3 < 1073741824; decide, fun z H6 hz g6 hu6 => ?_⟩
      obtain ⟨a, ha1, ha2, rfl⟩ : ∃ a : Str, a.length ≤ 1 ∧ aS a = true ∧ z = .str a := by
        simp only [List.mem_cons, List.not_mem_nil, or_false] at hz
        rcases hz with rfl | rfl | rfl
        · exact ⟨"m", by decide +kernel, by decide +kernel, rfl⟩
        · exact ⟨"a", by decide +kernel, by decide +kernel, rfl⟩
        · exact ⟨"z", by decide +kernel, by decide +kernel, rfl⟩
      refine ⟨_, rfl, u, c, 5, rfl, hu6, by decide, by decide, fun r H7 hr0 hr5 g7 hu7 => .inl ⟨r, rfl, ?_, ?_⟩⟩
      · have : r.natAbs < 5 := by omega
        have h5 : ∀ n : Fin 5, n.val.log2 < 1920 := by decide
        exact h5 ⟨r.natAbs, this⟩
      obtain ⟨rn, rfl⟩ := Int.eq_ofNat_of_zero_le hr0
      have b1 : (toString (rn : Int) : Str).length ≤ 2 := (str5 ⟨rn, by omega⟩).1
      have b2 : aS (toString (rn : Int) : Str) = true := (str5 ⟨rn, by omega⟩).2
      generalize (toString (rn : Int) : Str) = bb at b1 b2
      refine a_ss (sl (by omega)) ?_
      refine ⟨_, rfl, ?_⟩
      show rMuX K (.str "x") (.int (0 + (i : Nat))) _ _
      rw [Int.zero_add]
      refine mx_s (z := "x") (k := i) (by omega) (by decide +kernel) (by decide +kernel) fun xx hxx => ?_
      have ex : cps "x" = [120] := by decide +kernel
      have hxx : cps xx = (List.replicate i (cps "x")).flatten := hxx
      rw [ex] at hxx
      have hxc : ∀ c ∈ cps xx, c = 120 := fun c hc => by
        rw [hxx] at hc
        obtain ⟨l, hl, hc⟩ := List.mem_flatten.mp hc
        rw [(List.mem_replicate.mp hl).2] at hc
        exact List.mem_singleton.mp hc
      have hxl : xx.length = i := by
        rw [← cps_len, hxx, List.length_flatten, List.map_replicate, List.sum_replicate_nat]
        show i * 1 = i
        omega
      have hxa : aS xx = true := aS_of fun c hc => by rw [hxc c hc]; decide
      refine a_ss (sl (by rw [strLen_append]; omega)) ?_
      have nma : aS (a ++ bb ++ xx) = true := aS_app (aS_app ha2 b2) hxa
      have nml : (a ++ bb ++ xx).length ≤ 3000 := by rw [strLen_append, strLen_append]; omega
      generalize a ++ bb ++ xx = nm at nma nml
      obtain ⟨c1, c2⟩ := cut12 nm
      have hN7 := g7.keep Nu (g6.keep Nu (g5.lst hN4) (fun _ z => by cases z)) (fun _ z => by cases z)
      have hD7 := g7.keep Du (g6.keep Du (g5.lst hD4) (fun _ z => by cases z)) (fun _ z => by cases z)
      have hY7 : RB K makV H7 ys ms := hY4.mono fun _ _ q => g7.seqT hu6 (g6.seqT hu5 (g5.seqT q))
      refine ⟨_, rfl, .inl ⟨rfl, _, SqL.of hD7⟩, _, rfl, _, rfl, sl_sK (sl (by omega)) ?_⟩
      refine ⟨_, rfl, _, rfl, _, rfl, sl (by show 6 ≤ 3000; decide), fun q2 e2 => ?_⟩
      have nq2 := hu7.ou e2
      refine newH e2 fun H8 g8 s8 => ?_
      have hu8 := hu7.gr g8
      refine ⟨u, c, q2, _, rfl, hu8, nq2, .inl (SqL.of s8), by simp, by show 6 < 1073741824; decide, fun z H9 hz g9 hu9 => ?_⟩
      obtain ⟨co, hco, rfl⟩ : ∃ co ∈ costs, z = V.int co := by
        have hz : z ∈ costs.map V.int := hz
        obtain ⟨co, h1, h2⟩ := List.mem_map.mp hz
        exact ⟨co, h1, h2.symm⟩
      refine ⟨sl (by show 4 ≤ 3000; decide), fun p hp => ?_⟩
      refine newH hp fun Ha ga sa => ?_
      have hDa := ga.lst (g9.keep Du (g8.lst hD7) (fun _ z => by cases z))
      have hNa := ga.lst (g9.keep Nu (g8.lst hN7) (fun _ z => by cases z))
      have hYa : RB K makV Ha ys ms := hY7.mono fun _ _ q => ga.seqT (g9.seqT hu8 (g8.seqT q))
      have G := (((((((g.trans g3).trans g4).trans g5.u).trans g6).trans g7).trans g8.u).trans g9).trans ga.u
      refine ⟨D, ys, .ref p, rfl, rfl, hDa, by rw [hY.1, sizeLine_eq]; omega, ?_⟩
      refine ⟨_, _, _, _, ys ++ [.ref p], ms ++ [⟨cutS nm none (some 12), x, y, co⟩], rfl, gruD G hD, (hu9.gr ga).updD Du Dc, by rw [upd_ne NsD]; exact hNa, upd_same, (hYa.mono fun t ys q => upd_seqT hDa t ys q).snoc (upd_seqT hDa _ _ (SqT.of sa)), fun m hm => ?_, by rw [List.length_append]; show _ + 1 ≤ _; omega⟩
      rcases List.mem_append.mp hm with z | z
      · exact hok m z
      · rw [List.mem_singleton.mp z]
        exact ⟨hx2, hy2, hne, ⟨c1, aS_sub nma c2⟩, hco⟩
    · exact ⟨_, _, _, _, ys, ms, rfl, (g.trans g3).trans g4, hu4, hN4, hD4, hY4, hok, by omega⟩
  · rintro σ H' ⟨o5, o6, o7, o8, ys, ms, rfl, g, hu', hN', hD', hY, hok, hl⟩
    refine ⟨_, rfl, D, ys, ms, rfl, hD', hY, by omega, fun p zs F H2 g2 s2 hZ nd hin hF => ?_⟩
    exact k p zs F H2 (g.trans g2.u) (hu'.gr g2) s2 hZ nd (fun m hm => hok m (hin m hm)) (by omega)
end
end Vf
end
section
set_option Elab.async false
set_option linter.all false
set_option maxRecDepth 100000
set_option maxHeartbeats 4000000
namespace Vf
open PySem PySem.Spec PyProof.Rows L2 GxR GenW RZ PySem.W
/-! ### labels of walks -/
structure Lab where
  c : Int
  k : Nat
  ns : List Str
def Lab.zero : Lab := ⟨0, 0, []⟩
def Lab.ext (l : Lab) (m : Mak) : Lab := ⟨l.c + m.c, l.k + 1, l.ns ++ [m.n]⟩
def strD (ns : List Str) : PyData := .tuple (ns.map PyData.str)
def labD (l : Lab) : PyData := .tuple [.int l.c, .int (l.k : Nat), strD l.ns]
def nmLt (xs ys : List Str) : Bool := lexLt itemOrd (keyToksAll (xs.map PyData.str)) (keyToksAll (ys.map PyData.str))
theorem alike_strs : ∀ xs ys : List Str, alikeAll (xs.map PyData.str) (ys.map PyData.str) = true
  | [], _ => by simp [alikeAll]
  | _ :: _, [] => by simp [alikeAll]
  | x :: xs, y :: ys => by
    simp only [List.map_cons, alikeAll, alike, alike_strs xs ys]
    rfl
theorem alike_lab (a b : Lab) : alike (labD a) (labD b) = true := by
  simp [labD, strD, alike, alikeAll, alike_strs]
theorem eqv_int {i j : Int} : PyData.eqv (.int i) (.int j) = decide (i = j) := by
  show (i == j) = _
  rfl
theorem lab_lt (a b : Lab) : dataLt (labD a) (labD b) = if a.c = b.c then (if a.k = b.k then nmLt a.ns b.ns else decide (a.k < b.k)) else decide (a.c < b.c) := by
  unfold labD
  rw [dataLt_tuple, dataLt_cons (by simp [alike]), dataLt_cons (by simp [alike]), eqv_int, eqv_int]
  by_cases h1 : a.c = b.c
  · rw [if_pos (decide_eq_true h1), if_pos h1]
    by_cases h2 : a.k = b.k
    · rw [if_pos (decide_eq_true (by omega)), if_pos h2]
      rw [dataLt_cons (by simp [strD, alike, alike_strs])]
      unfold strD
      split
      · rename_i h3
        have h4 := (toks_eqv (.tuple (a.ns.map PyData.str)) (.tuple (b.ns.map PyData.str)) (by simp [alike, alike_strs])).1 h3
        have h5 : lexLt itemOrd (keyToks (.tuple (a.ns.map PyData.str))) (keyToks (.tuple (b.ns.map PyData.str))) = nmLt a.ns b.ns := dataLt_tuple _ _
        rw [← h5, h4, lex_irrefl, lex_irrefl]
      · exact dataLt_tuple _ _
    · rw [if_neg (by simp; omega), if_neg h2, dataLt_int]
      exact decide_eq_decide.mpr (by omega)
  · rw [if_neg (by simp [h1]), if_neg h1, dataLt_int]
theorem nm_cons (x y : Str) (xs ys : List Str) : nmLt (x :: xs) (y :: ys) = if x = y then nmLt xs ys else dataLt (.str x) (.str y) := by
  unfold nmLt
  rw [List.map_cons, List.map_cons, dataLt_cons rfl]
  have e : PyData.eqv (.str x) (.str y) = decide (x = y) := by
    show (x == y) = _
    rfl
  rw [e]
  by_cases h : x = y
  · rw [if_pos (decide_eq_true h), if_pos h]
  · rw [if_neg (by simp [h]), if_neg h]
theorem nm_irr (xs : List Str) : nmLt xs xs = false := lex_irrefl _
theorem nm_snoc (z : Str) : ∀ xs ys : List Str, xs.length = ys.length → nmLt (xs ++ [z]) (ys ++ [z]) = nmLt xs ys
  | [], [], _ => by rw [nm_irr, nm_irr]
  | [], _ :: _, h => by cases h
  | _ :: _, [], h => by cases h
  | x :: xs, y :: ys, h => by
    rw [List.cons_append, List.cons_append, nm_cons, nm_cons, nm_snoc z xs ys (by simpa using h)]
theorem str_tot {x y : Str} (h1 : dataLt (.str x) (.str y) = false) (h2 : dataLt (.str y) (.str x) = false) : x = y := by
  have q : keyToks (.str x) = keyToks (.str y) := lex_total _ _ h1 h2
  have q2 : ∀ z : Str, keyToks (.str z) = [Sum.inr z.cps.toList] := fun z => by simp [keyToks]
  rw [q2, q2] at q
  injection q with q _
  injection q with q
  exact str_of_cps q
theorem nm_tot : ∀ xs ys : List Str, xs.length = ys.length → nmLt xs ys = false → nmLt ys xs = false → xs = ys
  | [], [], _, _, _ => rfl
  | [], _ :: _, h, _, _ => by cases h
  | _ :: _, [], h, _, _ => by cases h
  | x :: xs, y :: ys, h, h1, h2 => by
    rw [nm_cons] at h1 h2
    by_cases e : x = y
    · rw [if_pos e] at h1
      rw [if_pos e.symm] at h2
      rw [e, nm_tot xs ys (by simpa using h) h1 h2]
    · rw [if_neg e] at h1
      rw [if_neg (fun z => e z.symm)] at h2
      exact absurd (str_tot h1 h2) e
/-- a label's number is that of its names -/
def Lab.ok (l : Lab) : Prop := l.k = l.ns.length
def Lab.le (a b : Lab) : Prop := dataLt (labD b) (labD a) = false
theorem Lab.le.trans {a b d : Lab} (h1 : a.le b) (h2 : b.le d) : a.le d := dataLt_neg h2 h1
theorem Lab.le.refl (a : Lab) : a.le a := by
  show dataLt _ _ = false
  exact lex_irrefl _
theorem Lab.tot {a b : Lab} (ha : a.ok) (hb : b.ok) (h1 : a.le b) (h2 : b.le a) : a = b := by
  have h1 : dataLt (labD b) (labD a) = false := h1
  have h2 : dataLt (labD a) (labD b) = false := h2
  rw [lab_lt] at h1 h2
  by_cases c : a.c = b.c
  · rw [if_pos c] at h2
    rw [if_pos c.symm] at h1
    by_cases k : a.k = b.k
    · rw [if_pos k] at h2
      rw [if_pos k.symm] at h1
      have := nm_tot a.ns b.ns (by rw [← ha, ← hb]; exact k) h2 h1
      cases a; cases b
      simp only at c k this
      subst c k this
      rfl
    · rw [if_neg k] at h2
      rw [if_neg (fun z => k z.symm)] at h1
      have := of_decide_eq_false h1
      have := of_decide_eq_false h2
      omega
  · rw [if_neg c] at h2
    rw [if_neg (fun z => c z.symm)] at h1
    have := of_decide_eq_false h1
    have := of_decide_eq_false h2
    omega
theorem Lab.ext_mono {a b : Lab} (m : Mak) (ha : a.ok) (hb : b.ok) (h : a.le b) : (a.ext m).le (b.ext m) := by
  have h : dataLt (labD b) (labD a) = false := h
  show dataLt (labD (b.ext m)) (labD (a.ext m)) = false
  rw [lab_lt] at h ⊢
  unfold Lab.ext
  by_cases c : b.c = a.c
  · rw [if_pos c] at h
    rw [if_pos (by show b.c + m.c = a.c + m.c; omega)]
    by_cases k : b.k = a.k
    · rw [if_pos k] at h
      rw [if_pos (by show b.k + 1 = a.k + 1; omega)]
      show nmLt (b.ns ++ [m.n]) (a.ns ++ [m.n]) = false
      rw [nm_snoc _ _ _ (by rw [← ha, ← hb]; exact k)]
      exact h
    · rw [if_neg k] at h
      rw [if_neg (by show ¬ b.k + 1 = a.k + 1; omega)]
      have := of_decide_eq_false h
      exact decide_eq_false (by show ¬ b.k + 1 < a.k + 1; omega)
  · rw [if_neg c] at h
    rw [if_neg (by show ¬ b.c + m.c = a.c + m.c; omega)]
    have := of_decide_eq_false h
    exact decide_eq_false (by show ¬ b.c + m.c < a.c + m.c; omega)
theorem Lab.ext_le {a : Lab} {m : Mak} (h : 0 ≤ m.c) : a.le (a.ext m) := by
  show dataLt (labD (a.ext m)) (labD a) = false
  rw [lab_lt]
  unfold Lab.ext
  split
  · rw [if_neg (by show ¬ a.k + 1 = a.k; omega)]
    exact decide_eq_false (by show ¬ a.k + 1 < a.k; omega)
  · exact decide_eq_false (by show ¬ a.c + m.c < a.c; omega)
theorem Lab.ext_ok {a : Lab} {m : Mak} (h : a.ok) : (a.ext m).ok := by
  show a.k + 1 = (a.ns ++ [m.n]).length
  rw [List.length_append, h]; rfl
theorem Lab.zero_ok : Lab.zero.ok := rfl
/-- walks and what can be reached -/
inductive Wk (ms : List Mak) (src : Str) : Lab → Str → Prop
  | nil : Wk ms src Lab.zero src
  | snoc {l : Lab} {f : Str} {m : Mak} : Wk ms src l f → m ∈ ms → m.s = f → Wk ms src (l.ext m) m.t
theorem Wk.ok {ms : List Mak} {src f : Str} {l : Lab} (h : Wk ms src l f) : l.ok := by
  induction h with
  | nil => rfl
  | snoc _ _ _ ih => exact Lab.ext_ok ih
inductive Rch (ms : List Mak) (src : Str) : Str → Prop
  | nil : Rch ms src src
  | snoc {m : Mak} : Rch ms src m.s → m ∈ ms → Rch ms src m.t
/-! ### paths, and that short ones are enough -/
inductive Pth (ms : List Mak) : Str → List Mak → Str → Prop
  | nil (a : Str) : Pth ms a [] a
  | cons {m : Mak} {p : List Mak} {b : Str} : m ∈ ms → Pth ms m.t p b → Pth ms m.s (m :: p) b
theorem Pth.app {ms : List Mak} : ∀ {p q : List Mak} {a b d : Str}, Pth ms a p b → Pth ms b q d → Pth ms a (p ++ q) d
  | [], _, _, _, _, h1, h2 => by cases h1; exact h2
  | m :: p, _, _, _, _, h1, h2 => by
    cases h1 with
    | cons hm h => exact .cons hm (Pth.app h h2)
theorem Pth.split {ms : List Mak} : ∀ {p q : List Mak} {a d : Str}, Pth ms a (p ++ q) d → ∃ b, Pth ms a p b ∧ Pth ms b q d
  | [], _, a, _, h => ⟨a, .nil a, h⟩
  | m :: p, q, _, _, h => by
    cases h with
    | cons hm h =>
      obtain ⟨b, h1, h2⟩ := Pth.split h
      exact ⟨b, .cons hm h1, h2⟩
theorem Pth.mem {ms : List Mak} : ∀ {p : List Mak} {a b : Str}, Pth ms a p b → ∀ m ∈ p, m ∈ ms
  | [], _, _, _, _, hm => by cases hm
  | x :: p, _, _, h, m, hm => by
    cases h with
    | cons hx h =>
      rcases List.mem_cons.mp hm with rfl | hm
      · exact hx
      · exact Pth.mem h m hm
theorem Pth.nil_eq {ms : List Mak} {a b : Str} (h : Pth ms a [] b) : a = b := by
  cases h
  rfl
theorem Pth.last {ms : List Mak} {p : List Mak} {m : Mak} {a b : Str} (h : Pth ms a (p ++ [m]) b) : b = m.t := by
  obtain ⟨d, h1, h2⟩ := h.split
  cases h2 with
  | cons _ h => exact h.nil_eq.symm
def labP (l : Lab) (p : List Mak) : Lab := p.foldl Lab.ext l
theorem labP_app (l : Lab) (p q : List Mak) : labP l (p ++ q) = labP (labP l p) q := List.foldl_append
theorem labP_ok {l : Lab} (h : l.ok) : ∀ p : List Mak, (labP l p).ok := fun p => by
  induction p generalizing l with
  | nil => exact h
  | cons m p ih => exact ih (Lab.ext_ok h)
theorem labP_k (l : Lab) (p : List Mak) : (labP l p).k = l.k + p.length := by
  induction p generalizing l with
  | nil => rfl
  | cons m p ih =>
    show (labP (l.ext m) p).k = _
    rw [ih, List.length_cons]
    show l.k + 1 + p.length = _
    omega
theorem labP_mono {a b : Lab} (ha : a.ok) (hb : b.ok) (h : a.le b) (p : List Mak) : (labP a p).le (labP b p) := by
  induction p generalizing a b with
  | nil => exact h
  | cons m p ih => exact ih (Lab.ext_ok ha) (Lab.ext_ok hb) (Lab.ext_mono m ha hb h)
theorem labP_le {l : Lab} {p : List Mak} (h : ∀ m ∈ p, 0 ≤ m.c) : l.le (labP l p) := by
  induction p generalizing l with
  | nil => exact Lab.le.refl _
  | cons m p ih => exact (Lab.ext_le (h m List.mem_cons_self)).trans (ih fun x hx => h x (List.mem_cons_of_mem _ hx))
theorem wk_pth {ms : List Mak} {src : Str} {l : Lab} {f : Str} (h : Wk ms src l f) : ∃ p, Pth ms src p f ∧ l = labP Lab.zero p := by
  induction h with
  | nil => exact ⟨[], .nil _, rfl⟩
  | @snoc l f m _ hm e ih =>
    obtain ⟨p, hp, rfl⟩ := ih
    refine ⟨p ++ [m], hp.app ?_, by rw [labP_app]; rfl⟩
    rw [← e]
    exact .cons hm (.nil _)
theorem pth_wkg {ms : List Mak} {src : Str} : ∀ {p : List Mak} {l : Lab} {a f : Str}, Wk ms src l a → Pth ms a p f → Wk ms src (labP l p) f
  | [], _, _, _, w, h => by cases h; exact w
  | m :: p, l, _, _, w, h => by
    cases h with
    | cons hm h =>
      show Wk ms src (labP (l.ext m) p) _
      exact pth_wkg (w.snoc hm rfl) h
theorem pth_wk {ms : List Mak} {src f : Str} {p : List Mak} (h : Pth ms src p f) : Wk ms src (labP Lab.zero p) f := pth_wkg .nil h
theorem dup_or {α : Type} : ∀ l : List α, l.Nodup ∨ ∃ A x B C, l = A ++ x :: (B ++ x :: C)
  | [] => .inl List.nodup_nil
  | x :: l => by
    by_cases h : x ∈ l
    · obtain ⟨B, C, e⟩ := List.append_of_mem h
      exact .inr ⟨[], x, B, C, by rw [e]; rfl⟩
    · rcases dup_or l with h2 | ⟨A, y, B, C, e⟩
      · exact .inl (List.nodup_cons.mpr ⟨h, h2⟩)
      · exact .inr ⟨x :: A, y, B, C, by rw [e]; rfl⟩
theorem nodup_len {α : Type} : ∀ {l m : List α}, l.Nodup → (∀ x ∈ l, x ∈ m) → l.length ≤ m.length
  | [], _, _, _ => Nat.zero_le _
  | x :: l, m, nd, h => by
    obtain ⟨n1, n2⟩ := List.nodup_cons.mp nd
    obtain ⟨s, t, e⟩ := List.append_of_mem (h x List.mem_cons_self)
    have q := nodup_len (m := s ++ t) n2 fun y hy => by
      have := h y (List.mem_cons_of_mem _ hy)
      rw [e] at this
      rcases List.mem_append.mp this with z | z
      · exact List.mem_append_left _ z
      · rcases List.mem_cons.mp z with rfl | z
        · exact absurd hy n1
        · exact List.mem_append_right _ z
    rw [e, List.length_append, List.length_cons, List.length_cons]
    rw [List.length_append] at q
    omega
/-- a walk no longer than there are makers, with a label that is no greater -/
theorem short_pth {ms : List Mak} {src f : Str} (h0 : ∀ m ∈ ms, 0 ≤ m.c) : ∀ (n : Nat) (p : List Mak), p.length = n → Pth ms src p f → ∃ q, Pth ms src q f ∧ q.length ≤ ms.length ∧ (labP Lab.zero q).le (labP Lab.zero p) := by
  intro n
  induction n using Nat.strongRecOn with
  | _ n ih =>
    intro p hl hp
    rcases dup_or p with nd | ⟨A, x, B, C, e⟩
    · exact ⟨p, hp, nodup_len nd hp.mem, Lab.le.refl _⟩
    · have e2 : p = (A ++ [x]) ++ ((B ++ [x]) ++ C) := by rw [e]; simp
      rw [e2] at hp
      obtain ⟨b1, h1, h2⟩ := hp.split
      obtain ⟨b2, h3, h4⟩ := h2.split
      have q1 := h1.last
      have q2 := h3.last
      subst q1 q2
      have hq : Pth ms src ((A ++ [x]) ++ C) f := h1.app h4
      obtain ⟨q, k1, k2, k3⟩ := ih ((A ++ [x]) ++ C).length (by rw [← hl, e2]; simp; omega) _ rfl hq
      refine ⟨q, k1, k2, k3.trans ?_⟩
      rw [e2, labP_app _ (A ++ [x]) C, labP_app _ (A ++ [x]) ((B ++ [x]) ++ C), labP_app _ (B ++ [x]) C]
      exact labP_mono (labP_ok Lab.zero_ok _) (labP_ok (labP_ok Lab.zero_ok _) _) (labP_le fun m hm => h0 m (h3.mem m hm)) C
/-! ### the least labels -/
structure Min (ms : List Mak) (src : Str) (L : List (Str × Lab)) : Prop where
  nd : (L.map (·.1)).Nodup
  wk : ∀ p ∈ L, Wk ms src p.2 p.1
  mi : ∀ l f, Wk ms src l f → ∃ l', (f, l') ∈ L ∧ l'.le l
theorem nd_at {L : List (Str × Lab)} (nd : (L.map (·.1)).Nodup) {f : Str} {a b : Lab} (ha : (f, a) ∈ L) (hb : (f, b) ∈ L) : a = b := by
  obtain ⟨i, hi, ei⟩ := List.mem_iff_getElem.mp ha
  obtain ⟨j, hj, ej⟩ := List.mem_iff_getElem.mp hb
  have q1 : (L.map (·.1))[i]? = some f := by rw [List.getElem?_map, List.getElem?_eq_getElem hi, ei]; rfl
  have q2 : (L.map (·.1))[j]? = some f := by rw [List.getElem?_map, List.getElem?_eq_getElem hj, ej]; rfl
  have := nodup_at nd q1 q2
  subst this
  rw [ei] at ej
  injection ej
theorem Min.sub {ms : List Mak} {src : Str} {L B : List (Str × Lab)} (h : Min ms src L) (g : Min ms src B) : ∀ p ∈ L, p ∈ B := fun p hp => by
  obtain ⟨f, l⟩ := p
  obtain ⟨l1, h1, h2⟩ := g.mi l f (h.wk _ hp)
  obtain ⟨l2, h3, h4⟩ := h.mi l1 f (g.wk _ h1)
  have := nd_at h.nd hp h3
  subst this
  have := Lab.tot (h.wk _ hp).ok (g.wk _ h1).ok h4 h2
  subst this
  exact h1
/-- what is closed under makers, from the source on, is least -/
theorem Min.of {ms : List Mak} {src : Str} {L : List (Str × Lab)} (nd : (L.map (·.1)).Nodup) (wk : ∀ p ∈ L, Wk ms src p.2 p.1) (st : (src, Lab.zero) ∈ L) (cl : ∀ p ∈ L, ∀ m ∈ ms, m.s = p.1 → ∃ l, (m.t, l) ∈ L ∧ l.le (p.2.ext m)) : Min ms src L := by
  refine ⟨nd, wk, fun l f h => ?_⟩
  induction h with
  | nil => exact ⟨_, st, Lab.le.refl _⟩
  | @snoc l f m w hm e ih =>
    obtain ⟨l', h1, h2⟩ := ih
    obtain ⟨l2, h3, h4⟩ := cl _ h1 m hm e
    exact ⟨l2, h3, h4.trans (Lab.ext_mono m (wk _ h1).ok w.ok h2)⟩
/-- what is least among walks of no more steps than there are makers is least -/
theorem Min.short {ms : List Mak} {src : Str} {L : List (Str × Lab)} (h0 : ∀ m ∈ ms, 0 ≤ m.c) (nd : (L.map (·.1)).Nodup) (wk : ∀ p ∈ L, Wk ms src p.2 p.1) (mi : ∀ l f, Wk ms src l f → l.k ≤ ms.length → ∃ l', (f, l') ∈ L ∧ l'.le l) : Min ms src L := by
  refine ⟨nd, wk, fun l f h => ?_⟩
  obtain ⟨p, hp, rfl⟩ := wk_pth h
  obtain ⟨q, h1, h2, h3⟩ := short_pth h0 _ p rfl hp
  obtain ⟨l', h4, h5⟩ := mi _ f (pth_wk h1) (by rw [labP_k]; show 0 + q.length ≤ _; omega)
  exact ⟨l', h4, h5.trans h3⟩
end Vf
end
section
set_option Elab.async false
set_option linter.all false
set_option maxRecDepth 100000
set_option maxHeartbeats 4000000
namespace Vf
open PySem PySem.Spec PyProof.Rows L2 GxR GenW RZ
abbrev s_contains : Stmt := top 16
abbrev n_contains : List Str := ["names", "others", "name"]
abbrev p_contains : List Str := ["names", "others"]
theorem sc_contains : FnScope n_contains p_contains (defScope s_contains) := ⟨rfl, rfl, rfl, by decide +kernel, rfl, by decide +kernel, by decide +kernel⟩

abbrev s_carrying : Stmt := top 17
abbrev n_carrying : List Str := ["forms", "makers", "features", "name", "form", "able", "maker"]
abbrev p_carrying : List Str := ["forms", "makers", "features"]
theorem sc_carrying : FnScope n_carrying p_carrying (defScope s_carrying) := ⟨rfl, rfl, rfl, by decide +kernel, rfl, by decide +kernel, by decide +kernel⟩

theorem k_bm0 {X : Cx} {K : PySem.W.Frag} {T name id : String} {r : V → List V → Hp → VK → Prop} {o : Expr} {to : TE} {apos cpos : Pos} (hK : X.K = K) (pa : PlainAttrs T) (slot : Slot T name id) (hty : typeOf (.builtin id) = pure (.type "method_descriptor")) (hm : MtR X id r) (ho : PE X o to)
    (hbase : attributeBase o name X.env (eval o X.env) = eval o X.env := by rfl) (hline : (apos.endLine == cpos.line) = true := by rfl) : PE X (.Call (.Attribute o name apos) [] [] cpos) (tBM0 K T r to) := by
  subst hK
  exact pe_bm0 pa slot hty hm ho hbase hline
def hasAll (xs ys : List Str) : Bool := ys.all fun y => decide (y ∈ xs)
def spContains (K : PySem.W.Frag) : Sp := fun vs H Q _ => ∃ (a b : Addr) (xs ys : List Str), vs = [.ref a, .ref b] ∧ SqT K H a (strV xs) ∧ SqT K H b (strV ys) ∧ TabG H (tb K "contains") ∧ ∀ H', Gr H H' → Q (.bl (hasAll xs ys)) H'
section
variable {P : Program} {w : World} {K : PySem.W.Frag} {mg : Str → Option Value} {base : Heap}
theorem ok_contains {fd : FuncData} (F : FnP K "contains" s_contains fd) (T : TD K mg) (TB : TBx K mg base "contains") : FnOk P w K mg base CX0 2 (He.fAd K ("contains", none)) fd p_contains (spContains K) := by
  refine okP F sc_contains (fun vs H Q E h => by obtain ⟨a, b, xs, ys, rfl, _⟩ := h; rfl) (fun A outer s H vs Q E hr h => ?_)
  obtain ⟨a, b, xs, ys, rfl, ha, hb, hT, k⟩ := h
  refine ⟨_, (pss_one (ps_ret (pe_allL (own := [2]) (j := 2) hr rfl T.b_all (by decide +kernel) TB rfl (gok_by (N := n_contains) (sc := defScope s_contains) (by decide +kernel)) sc_contains.nd rfl (by simp) (k_tup (K := K) rfl (pv 1)) (fun _ _ _ _ _ _ hr' => pts_nil) (fun _ _ _ _ _ _ hr' => (pe_cmpR (u_in (K := K) rfl) (pv 2) (pv 0) (by first | exact nomark _ | rfl)))))), ?_⟩
  refine ⟨_, rfl, b, rfl, ⟨_, hb⟩, hT, fun H2 hTb => ?_⟩
  have g := Gr.tabb hTb
  refine turns_T (K := K) (a := b) (xs := strV ys) (fun i H' => H' = H2 ∧ ∀ y ∈ ys.take i, y ∈ xs) ⟨rfl, by simp⟩ ?_ ?_ ?_
  · rintro i H' _ ⟨rfl, _⟩
    exact g.seqT hb
  · rintro i v H' hv ⟨rfl, hall⟩
    obtain ⟨y, hy, rfl⟩ := strV_get hv
    refine ⟨_, rfl, _, rfl, in_seq (.inr (g.seqT ha)) rfl (strV_flat _) ⟨_, rfl, ?_⟩⟩
    by_cases hm : y ∈ xs
    · rw [inV_str.mpr hm]
      refine iteT ⟨rfl, fun z hz => ?_⟩
      rw [take_snoc hy] at hz
      rcases List.mem_append.mp hz with q | q
      · exact hall z q
      · rw [List.mem_singleton.mp q]; exact hm
    · have e : inV (.str y) (strV xs) = false := by
        cases q : inV (.str y) (strV xs) with
        | false => rfl
        | true => exact absurd (inV_str.mp q) hm
      rw [e]
      refine iteF ?_
      have q := k _ g
      have e2 : hasAll xs ys = false := List.all_eq_false.mpr ⟨y, List.mem_of_getElem? hy, by simp [hm]⟩
      rw [e2] at q
      exact q
  · rintro H' ⟨rfl, hall⟩
    have q := k _ g
    have hl : (strV ys).length = ys.length := List.length_map _
    rw [hl, List.take_length] at hall
    have e2 : hasAll xs ys = true := List.all_eq_true.mpr fun y hy => decide_eq_true (hall y hy)
    rw [e2] at q
    exact q
/-- the makers between forms that have all the features -/
def okFor (F : List Fo) (fs : List Str) (n : Str) : Bool := F.any fun f => decide (f.name = n) && hasAll (carF f) fs
def fitM (F : List Fo) (ms : List Mak) (fs : List Str) : List Mak := ms.filter fun m => okFor F fs m.s && okFor F fs m.t
def spCarrying (K : PySem.W.Frag) : Sp := fun vs H Q _ => ∃ (d a b : Addr) (kvs : List (Key × V)) (F : List Fo) (xs : List V) (ms : List Mak) (fs : List Str), vs = [.ref d, .ref a, .ref b] ∧ H d = some (.dK kvs) ∧ KB K Fo.name foV H kvs F ∧ (F.map Fo.name).Nodup ∧ F.length ≤ 100 ∧ SqT K H a xs ∧ RB K makV H xs ms ∧ ms.length ≤ 1000 ∧ SqT K H b (strV fs) ∧ TabG H (tb K "contains") ∧
  ∀ l ys H', Gr H H' → H' l = some (.lst ys) → RB K makV H' ys (fitM F ms fs) → Q (.ref l) H'
theorem upd_dK {H : Hp} {d : Addr} {kvs : List (Key × V)} {o : HO} (hd : H d = some (.dK kvs)) {t : Addr} {ys : List V} (q : SqT K H t ys) : SqT K (upd H d o) t ys := by
  rcases q with (q | ⟨o', q⟩) | q
  · have n : t ≠ d := fun z => by rw [z, hd] at q; cases q
    exact .inl (.inl (by rw [upd_ne n]; exact q))
  · have n : t ≠ d := fun z => by rw [z, hd] at q; cases q
    exact .inl (.inr ⟨o', by rw [upd_ne n]; exact q⟩)
  · exact .inr q
theorem tabG_dK {H : Hp} {d c : Addr} {kvs : List (Key × V)} {o : HO} (hd : H d = some (.dK kvs)) (h : TabG H c) : TabG (upd H d o) c := by
  obtain ⟨ps, h1, h2⟩ := h
  have n : c ≠ d := fun z => by rw [z, hd] at h1; cases h1
  exact ⟨ps, by rw [upd_ne n]; exact h1, h2⟩
/-- a dict that was locked is as before -/
theorem gr_unfrz {H H' : Hp} {d : Addr} {u o : HO} (hd : H d = some u) (g : Gr (upd H d o) H') : Gr H (upd H' d u) := fun b w e => by
  by_cases z : b = d
  · subst z
    rw [hd] at e
    cases e
    exact .inl upd_same
  · rw [upd_ne z]
    exact g b w (by rw [upd_ne z]; exact e)
def ablE (F : List Fo) (fs : List Str) : List (Key × V) := (F.filter fun f => hasAll (carF f) fs).map fun f => ((Sum.inr f.name : Key), V.bl true)
theorem ablE_snoc (F : List Fo) (f : Fo) (fs : List Str) : ablE (F ++ [f]) fs = if hasAll (carF f) fs = true then ablE F fs ++ [((Sum.inr f.name : Key), V.bl true)] else ablE F fs := by
  unfold ablE
  rw [List.filter_append, List.map_append]
  by_cases h : hasAll (carF f) fs = true
  · rw [if_pos h]
    simp [h]
  · rw [if_neg h]
    simp [h]
theorem ablE_none {F : List Fo} {fs : List Str} {n : Str} (h : ∀ f ∈ F, f.name ≠ n) : valV (ablE F fs) (Sum.inr n : Key) = none := by
  unfold ablE
  induction F with
  | nil => rfl
  | cons f F ih =>
    have ih := ih fun g hg => h g (List.mem_cons_of_mem _ hg)
    rw [List.filter_cons]
    split
    · rw [List.map_cons, valV_neg (fun z => h f List.mem_cons_self (Sum.inr.inj z))]
      exact ih
    · exact ih
theorem ablE_some {F : List Fo} {fs : List Str} (n : Str) : (valV (ablE F fs) (Sum.inr n : Key)).isSome = okFor F fs n := by
  unfold ablE okFor
  induction F with
  | nil => rfl
  | cons f F ih =>
    rw [List.filter_cons, List.any_cons, ← ih]
    by_cases h1 : hasAll (carF f) fs = true
    · rw [if_pos h1, List.map_cons]
      by_cases h2 : f.name = n
      · rw [valV_pos (by show (Sum.inr f.name : Key) = Sum.inr n; rw [h2])]
        simp [h1, h2]
      · rw [valV_neg (fun z => h2 (Sum.inr.inj z))]
        simp [h2]
    · rw [if_neg h1]
      simp [h1]
theorem ok_carrying {fd : FuncData} (F : FnP K "carrying" s_carrying fd) (T : TD K mg) (D_contains : Df P w K mg base "contains" 2 p_contains (spContains K)) (D_carried : Df P w K mg base "carried" 1 p_carried (spCarried K)) : FnOk P w K mg base CX0 3 (He.fAd K ("carrying", none)) fd p_carrying (spCarrying K) := by
  refine okP F sc_carrying (fun vs H Q E h => by obtain ⟨d, a, b, kvs, F, xs, ms, fs, rfl, _⟩ := h; rfl) (fun A outer s H vs Q E hr h => ?_)
  obtain ⟨d, a, b, kvs, F, xs, ms, fs, rfl, hd, hK, nd, hF, hS, hR, hl, hb, hT, k⟩ := h
  refine ⟨_, (pss_cons (ps_set (i := 5) sc_carrying.nd rfl (by first | exact Or.inl rfl | exact Or.inr rfl) (pe_lock (pe_dc (own := [("name", 3), ("form", 4)])  rfl sc_carrying.nd (pi_items (pv 0)) (blkOk_by (own := [("name", 3), ("form", 4)]) (N := n_carrying) (sc := defScope s_carrying) (by decide +kernel)) (fun _ _ _ _ _ => (kg_tup 2 (K := K) rfl rfl (pgs_cons (pg_name (i := 3) sc_carrying.nd rfl (by first | exact Or.inl rfl | exact Or.inr rfl)) (pgs_cons (pg_name (i := 4) sc_carrying.nd rfl (by first | exact Or.inl rfl | exact Or.inr rfl)) pgs_nil)))) (fun _ _ _ _ _ => (pts_one (pt_val (pe_fn D_contains hr (by decide) rfl (pa_cons (pe_fn D_carried hr (by decide) rfl (pa_cons (pv 4) pa_nil)) (pa_cons (pv 2) pa_nil)))))) (fun _ _ _ _ _ => (pv 3)) (fun _ _ _ _ _ => pe_bl))))
      (pss_one (ps_ret (pe_lc (own := [("maker", 6)]) (g := gName 6) rfl sc_carrying.nd (k_tup (K := K) rfl (pv 1)) (blkOk_by (own := [("maker", 6)]) (N := n_carrying) (sc := defScope s_carrying) (by decide +kernel)) (fun _ _ _ _ _ => (pg_name (i := 6) sc_carrying.nd rfl (by first | exact Or.inl rfl | exact Or.inr rfl))) (fun _ _ _ _ _ => (pts_one (PW.pt (pw_and (pt_cmp (pc_din (hu_of hr) (pe_ix (u_ix (K := K) rfl) (pv 6) (pe_gl T.c_SOURCE rfl) (fun _ _ => rfl)) (pv 5))) (pw_and1 (pt_cmp (pc_din (hu_of hr) (pe_ix (u_ix (K := K) rfl) (pv 6) (pe_gl T.c_TARGET rfl) (fun _ _ => rfl)) (pv 5)))))))) (fun _ _ _ _ _ => (pv 6)))))), ?_⟩
  refine ⟨d, _, hd, trivial, fun od => ?_⟩
  have ef : upd H d (.frz od (.dK kvs)) d = some (.frz od (.dK kvs)) := upd_same
  refine ⟨_, rfl, d, od, kvs, rfl, ef, fun D hD => ?_⟩
  have keepT : ∀ {t : Addr} {ys : List V}, SqT K H t ys → SqT K (upd H d (.frz od (.dK kvs))) t ys := fun q => upd_dK hd q
  have hT0 : TabG (upd H d (.frz od (.dK kvs))) (tb K "contains") := tabG_dK hd hT
  have nD : D ≠ d := fun z => by rw [z, ef] at hD; cases hD
  generalize hH0 : upd H d (.frz od (.dK kvs)) = H0 at *
  refine dc_it (walk_items (d := d) (o := od) (kvs := kvs)) (fun i H' => Gr H0 H' ∧ H' D = some (.dK (ablE (F.take i) fs))) ⟨Gr.new hD, upd_same⟩ ?_ ?_ ?_
  · rintro i H' _ ⟨g, _⟩
    exact g.keep ef (fun _ z => by cases z)
  · rintro i x H1 H2 hi ⟨g, hD1⟩ ⟨T, x1, x2, rfl, hT1, rfl, e1, e2⟩
    have hiF : i < F.length := by rw [← hK.1]; exact hi
    obtain ⟨t, et, st⟩ := hK.2 i F[i] (List.getElem?_eq_getElem hiF)
    have e1 : (kvs[i]?.map fun kv => kV kv.1) = some x1 := e1
    have e2 : kvs[i]?.map Prod.snd = some x2 := e2
    rw [et] at e1 e2
    have e1 : some (V.str F[i].name) = some x1 := e1
    have e2 : some (V.ref t) = some x2 := e2
    cases e1
    cases e2
    have hFi : F[i]? = some F[i] := List.getElem?_eq_getElem hiF
    refine newH hT1 fun H2 g2 s2 => ?_
    have G := g.trans g2
    have hD2 := g2.keep hD1 (fun _ z => by cases z)
    refine ⟨T, _, rfl, SqT.of s2, rfl, _, _, rfl, _, _, rfl, rfl, rfl, ?_⟩
    refine ⟨_, rfl, t, F[i], rfl, G.seqT (keepT st), fun p H3 g3 s3 => ?_⟩
    refine ⟨_, rfl, p, b, carF F[i], fs, rfl, s3, (G.trans g3).seqT (keepT hb), (G.trans g3).tabG hT0, fun H4 g4 => ⟨_, rfl, ?_⟩⟩
    have G4 := (G.trans g3).trans g4
    have hD4 := (g3.trans g4).keep hD2 (fun _ z => by cases z)
    rw [take_snoc hFi, ablE_snoc]
    cases hc : hasAll (carF F[i]) fs with
    | true =>
      refine iteT ⟨_, rfl, ablE (F.take i) fs, Sum.inr F[i].name, rfl, hD4, ?_, G4.upd' hD, ?_⟩
      · unfold ablE
        rw [List.length_map, sizeLine_eq]
        have h1 := List.length_filter_le (fun f => hasAll (carF f) fs) (F.take i)
        rw [List.length_take] at h1
        omega
      · rw [upd_same, putK_new (ablE_none fun f hf z => ?_), if_pos rfl]
        obtain ⟨j, hj⟩ := List.getElem?_of_mem hf
        rw [List.getElem?_take] at hj
        split at hj
        · have q1 : (F.map Fo.name)[j]? = some F[i].name := by rw [List.getElem?_map, hj]; exact congrArg some z
          have q2 : (F.map Fo.name)[i]? = some F[i].name := by rw [List.getElem?_map, hFi]; rfl
          have := nodup_at nd q1 q2
          omega
        · cases hj
    | false =>
      rw [if_neg (by simp)]
      exact iteF ⟨G4, hD4⟩
  · rintro H1 ⟨g, hD1⟩
    rw [hK.1, List.take_length] at hD1
    refine ⟨g.keep ef (fun _ z => by cases z), ?_⟩
    have G : Gr H (upd H1 d (.dK kvs)) := gr_unfrz hd (by rw [hH0]; exact g)
    have hD2 : (upd H1 d (.dK kvs)) D = some (.dK (ablE F fs)) := by rw [upd_ne nD]; exact hD1
    generalize upd H1 d (.dK kvs) = H2 at *
    refine ⟨_, rfl, a, rfl, ⟨_, G.seqT hS⟩, fun L hL => ?_⟩
    refine lc_tup (K := K) (a := a) (xs := xs) (fun i H' => ∃ ys, Gr H2 H' ∧ H' L = some (.lst ys) ∧ RB K makV H' ys (fitM F (ms.take i) fs)) ⟨[], Gr.new hL, upd_same, RB.nil⟩ ?_ ?_ ?_
    · rintro i H' _ ⟨ys, g3, _⟩
      exact g3.seqT (G.seqT hS)
    · rintro i x H' hx ⟨ys, g3, hL3, hY⟩
      obtain ⟨m, t, hm, rfl, st⟩ := hR.at_ hx
      have st' := g3.seqT (G.seqT st)
      have hDk := g3.keep hD2 (fun _ z => by cases z)
      have yl : ys.length ≤ 1000 := by
        rw [hY.1]
        unfold fitM
        have h1 := List.length_filter_le (fun m => okFor F fs m.s && okFor F fs m.t) (ms.take i)
        rw [List.length_take] at h1
        omega
      have push : okFor F fs m.s = true → okFor F fs m.t = true → ∃ acc, H' L = some (.lst acc) ∧ acc.length < sizeLine ∧ ∃ ys, Gr H2 (upd H' L (.lst (acc ++ [.ref t]))) ∧ (upd H' L (.lst (acc ++ [.ref t]))) L = some (.lst ys) ∧ RB K makV (upd H' L (.lst (acc ++ [.ref t]))) ys (fitM F (ms.take (i + 1)) fs) := fun h1 h2 => by
        refine ⟨ys, hL3, by rw [sizeLine_eq]; omega, ys ++ [.ref t], g3.upd' hL, upd_same, ?_⟩
        have e : fitM F (ms.take (i + 1)) fs = fitM F (ms.take i) fs ++ [m] := by
          unfold fitM
          rw [take_snoc hm, List.filter_append]
          simp [h1, h2]
        rw [e]
        exact (hY.mono fun t ys q => upd_seqT hL3 t ys q).snoc (upd_seqT hL3 _ _ st')
      have skip : (okFor F fs m.s && okFor F fs m.t) = false → fitM F (ms.take (i + 1)) fs = fitM F (ms.take i) fs := fun h1 => by
        unfold fitM
        rw [take_snoc hm, List.filter_append]
        simp only [List.filter_cons, h1, List.filter_nil]
        simp
      refine ⟨rfl, ?_⟩
      refine ⟨_, rfl, x_t st' rfl ⟨_, rfl, D, _, rfl, DGet.k (k := Sum.inr m.s) hDk, ?_⟩⟩
      rw [ablE_some]
      refine ⟨_, rfl, ite2 (fun h1 => ?_) (fun h1 => iteF ⟨ys, g3, hL3, by rw [skip (by rw [Bool.eq_false_iff.mpr h1]; rfl)]; exact hY⟩)⟩
      refine ⟨_, rfl, x_t st' rfl ⟨_, rfl, D, _, rfl, DGet.k (k := Sum.inr m.t) hDk, ?_⟩⟩
      rw [ablE_some]
      refine ⟨_, rfl, ?_⟩
      cases h2 : okFor F fs m.t with
      | true => exact iteT ⟨_, rfl, push h1 h2⟩
      | false => exact iteF ⟨ys, g3, hL3, by rw [skip (by rw [h1, h2]; rfl)]; exact hY⟩
    · rintro H' ⟨ys, g3, hL3, hY⟩
      rw [hR.1, List.take_length] at hY
      exact k L ys H' (G.trans g3) hL3 hY
end
end Vf
end
section
set_option Elab.async false
set_option linter.all false
set_option maxRecDepth 100000
set_option maxHeartbeats 4000000
namespace Vf
open PySem PySem.Spec PyProof.Rows L2 GxR GenW RZ
abbrev s_reached : Stmt := top 18
abbrev n_reached : List Str := ["makers", "starts", "form", "found", "waiting", "maker"]
abbrev p_reached : List Str := ["makers", "starts"]
theorem sc_reached : FnScope n_reached p_reached (defScope s_reached) := ⟨rfl, rfl, rfl, by decide +kernel, rfl, by decide +kernel, by decide +kernel⟩

/-- a list or a tuple -/
def SqA (K : PySem.W.Frag) (b : Bool) (H : Hp) (a : Addr) (xs : List V) : Prop := match b with
  | true => SqT K H a xs
  | false => SqL K H a xs
theorem SqA.gr {K : PySem.W.Frag} {b : Bool} {H H' : Hp} {a : Addr} {xs : List V} (h : SqA K b H a xs) (g : Gr H H') : SqA K b H' a xs := by
  cases b
  · exact g.seqL h
  · exact g.seqT h
theorem for_A {K : PySem.W.Frag} {b : Bool} {a : Addr} {xs : List V} {g : TG} {tb : TS} {D : Ends} {σ : L2.St} {H : Hp} (hq : SqA K b H a xs) (Pv : Nat → L2.St → Hp → Prop) (h0 : Pv 0 σ H) (hl : ∀ i σ H, i ≤ xs.length → Pv i σ H → SqA K b H a xs)
    (hs : ∀ i x σ H, xs[i]? = some x → Pv i σ H → g x σ H fun σ2 H2 => tb { D with nx := Pv (i + 1), ct := Pv (i + 1), bk := D.nx } σ2 H2) (hd : ∀ σ H, Pv xs.length σ H → D.nx σ H) :
    ((∃ ys, SqL K H a ys) ∧ ∃ W : Nat → Nat → L2.St → Hp → Prop, (∃ m, W 0 m σ H) ∧ ∀ i m σ H, W i m σ H →
      ((Itl K a).stop i H ∧ D.nx σ H) ∨ ((Itl K a).go i H ∧ ∃ N : L2.St → Hp → Prop, (∀ σ' H', N σ' H' → ∃ m', m' < m ∧ W (i + 1) m' σ' H') ∧ ∀ x H', (Itl K a).yld i H x H' → g x σ H' fun σ2 H2 => tb { D with nx := N, ct := N, bk := D.nx } σ2 H2)) ∨
    ((∃ ys, SqT K H a ys) ∧ ∃ W : Nat → Nat → L2.St → Hp → Prop, (∃ m, W 0 m σ H) ∧ ∀ i m σ H, W i m σ H →
      ((Itt K a).stop i H ∧ D.nx σ H) ∨ ((Itt K a).go i H ∧ ∃ N : L2.St → Hp → Prop, (∀ σ' H', N σ' H' → ∃ m', m' < m ∧ W (i + 1) m' σ' H') ∧ ∀ x H', (Itt K a).yld i H x H' → g x σ H' fun σ2 H2 => tb { D with nx := N, ct := N, bk := D.nx } σ2 H2)) := by
  cases b with
  | false => exact .inl ⟨⟨xs, hq⟩, for_list (K := K) (a := a) (xs := xs) Pv h0 hl hs hd⟩
  | true => exact .inr ⟨⟨xs, hq⟩, for_tup (K := K) (a := a) (xs := xs) Pv h0 hl hs hd⟩
def tru (fs : List Str) : List (Key × V) := fs.map fun f => ((Sum.inr f : Key), V.bl true)
theorem tru_some (fs : List Str) (n : Str) : (valV (tru fs) (Sum.inr n : Key)).isSome = decide (n ∈ fs) := by
  unfold tru
  induction fs with
  | nil => rfl
  | cons f fs ih =>
    rw [List.map_cons]
    by_cases h : f = n
    · rw [valV_pos (by rw [h])]
      simp [h]
    · rw [valV_neg (fun z => h (Sum.inr.inj z)), ih]
      have h' : ¬ n = f := fun z => h z.symm
      simp [h']
theorem tru_none {fs : List Str} {n : Str} (h : n ∉ fs) : valV (tru fs) (Sum.inr n : Key) = none := by
  have q := tru_some fs n
  rw [decide_eq_false h] at q
  exact Option.isSome_eq_false_iff.mp q |> Option.isNone_iff_eq_none.mp
theorem tru_snoc (fs : List Str) (n : Str) : tru (fs ++ [n]) = tru fs ++ [((Sum.inr n : Key), V.bl true)] := by
  unfold tru
  rw [List.map_append]; rfl
/-- what is found and what waits -/
structure Rea (ms : List Mak) (src : Str) (fs ws : List Str) : Prop where
  nd : fs.Nodup
  st : src ∈ fs
  rc : ∀ f ∈ fs, Rch ms src f
  ws : ∀ f ∈ ws, f ∈ fs
theorem Rch.in {ms : List Mak} {src f : Str} (h : Rch ms src f) : f ∈ src :: ms.map Mak.t := by
  cases h with
  | nil => exact List.mem_cons_self
  | snoc _ hm => exact List.mem_cons_of_mem _ (List.mem_map.mpr ⟨_, hm, rfl⟩)
theorem Rea.len {ms : List Mak} {src : Str} {fs ws : List Str} (h : Rea ms src fs ws) : fs.length ≤ ms.length + 1 := by
  have q := nodup_len h.nd fun f hf => (h.rc f hf).in
  rw [List.length_cons, List.length_map] at q
  exact q
theorem Rea.done {ms : List Mak} {src : Str} {fs : List Str} (h : Rea ms src fs []) (cl : ∀ f ∈ fs, ∀ m ∈ ms, m.s = f → m.t ∈ fs) : ∀ f, f ∈ fs ↔ Rch ms src f := fun f => by
  refine ⟨h.rc f, fun r => ?_⟩
  induction r with
  | nil => exact h.st
  | snoc _ hm ih => exact cl _ ih _ hm rfl
def muR (n : Nat) (D W : Addr) (H : Hp) : Nat := match H D, H W with
  | some (.dK kvs), some (.lst ys) => 2 * (n - kvs.length) + ys.length
  | _, _ => 0
theorem muR_eq {n : Nat} {D W : Addr} {H : Hp} {fs ws : List Str} (h1 : H D = some (.dK (tru fs))) (h2 : H W = some (.lst (strV ws))) : muR n D W H = 2 * (n - fs.length) + ws.length := by
  unfold muR
  rw [h1, h2]
  show 2 * (n - (tru fs).length) + (strV ws).length = _
  unfold tru strV
  rw [List.length_map, List.length_map]
def spReached (K : PySem.W.Frag) : Sp := fun vs H Q _ => ∃ (a b : Addr) (xs : List V) (ms : List Mak) (src : Str) (bb : Bool), vs = [.ref a, .ref b] ∧ SqA K bb H a xs ∧ RB K makV H xs ms ∧ ms.length ≤ 60 ∧ SqT K H b [.str src] ∧
  ∀ p cs H', Gr H H' → SqT K H' p (strV cs) → sortedS cs = true → cs.Nodup → (∀ f, f ∈ cs ↔ Rch ms src f) → Q (.ref p) H'
section
variable {P : Program} {w : World} {K : PySem.W.Frag} {mg : Str → Option Value} {base : Heap}
theorem ok_reached {fd : FuncData} (F : FnP K "reached" s_reached fd) (T : TD K mg) : FnOk P w K mg base CX0 1 (He.fAd K ("reached", none)) fd p_reached (spReached K) := by
  refine okP F sc_reached (fun vs H Q E h => by obtain ⟨a, b, xs, ms, src, bb, rfl, _⟩ := h; rfl) (fun A outer s H vs Q E hr h => ?_)
  obtain ⟨a, b, xs, ms, src, bb, rfl, hS, hR, hl, hb, k⟩ := h
  refine ⟨_, (pss_cons (ps_setDc (i := 3) (own := [("form", 2)]) (g := gName 2) (tt := tYes) rfl sc_reached.nd rfl rfl (sw_trueD rfl rfl rfl (by decide +kernel)) (k_tup (K := K) rfl (pv 1)) (blkOk_by (own := [("form", 2)]) (N := n_reached) (sc := defScope s_reached) (by decide +kernel)) (fun _ _ _ _ _ => (pg_name (i := 2) sc_reached.nd rfl (by first | exact Or.inl rfl | exact Or.inr rfl))) (fun _ _ _ _ _ => pts_nil) (fun _ _ _ _ _ => (pv 2)) (fun _ _ _ _ _ => pe_bl))
      (pss_cons (ps_set (i := 4) sc_reached.nd rfl (by first | exact Or.inl rfl | exact Or.inr rfl) (pe_callTy (call_list_dK rfl) rfl T.b_list (by decide +kernel) (pa_cons (pv 3) pa_nil)))
      (pss_cons (ps_while PassesOwn.never (k_truth (K := K) rfl (pv 4) (by intro _; rfl))
      (pss_cons (ps_set (i := 2) sc_reached.nd rfl (by first | exact Or.inl rfl | exact Or.inr rfl) (k_bm0 (K := K) rfl PySem.F.plainAttrs_list PySem.F.slot_list_pop PySem.F.type_list_pop mt_pop (pv 4)))
      (pss_one (ps_for PassesOwn.never rfl (k_seqA (K := K) rfl (pv 0)) (pg_name (i := 5) sc_reached.nd rfl (by first | exact Or.inl rfl | exact Or.inr rfl))
      (pss_one (ps_if (PW.pt (pw_and (pt_cmpR (u_eq (K := K) rfl hr.units) (pe_ix (u_ix (K := K) rfl) (pv 5) (pe_gl T.c_SOURCE rfl) (fun _ _ => rfl)) (pv 2) (nomark _)) (pw_and1 (pt_cmp (pc_dnotin (hu_of hr) (pe_ix (u_ix (K := K) rfl) (pv 5) (pe_gl T.c_TARGET rfl) (fun _ _ => rfl)) (pv 3))))))
      (pss_cons (ps_dput (hu_of hr) (pv 3) (pe_ix (u_ix (K := K) rfl) (pv 5) (pe_gl T.c_TARGET rfl) (fun _ _ => rfl)) pe_bl rfl)
      (pss_one (ps_expr (k_bm (K := K) rfl PySem.F.plainAttrs_list PySem.F.slot_list_append PySem.F.type_list_append mt_append (pv 4) (pa_cons (pe_ix (u_ix (K := K) rfl) (pv 5) (pe_gl T.c_TARGET rfl) (fun _ _ => rfl)) pa_nil)))))
      pss_nil))))))
      (pss_one (ps_ret (k_tuple (K := K) rfl rfl T.b_tuple (pe_callB (call_sortedD rfl) rfl T.b_sorted (by decide +kernel) (pa_cons (pv 3) pa_nil)))))))), ?_⟩
  refine ⟨_, rfl, b, rfl, ⟨_, hb⟩, fun D hD => ?_⟩
  refine dc_tup (K := K) (a := b) (xs := [.str src]) (fun i H' => Gr H H' ∧ H' D = some (.dK (tru ([src].take i)))) ⟨Gr.new hD, upd_same⟩ (fun i H' _ h => h.1.seqT hb) ?_ ?_
  · rintro i x H' hx ⟨g, hD'⟩
    obtain ⟨rfl, rfl⟩ : i = 0 ∧ x = .str src := by
      cases i with
      | zero => cases hx; exact ⟨rfl, rfl⟩
      | succ i => simp at hx
    refine ⟨rfl, ?_⟩
    exact ⟨_, rfl, tru [], Sum.inr src, rfl, hD', by rw [sizeLine_eq]; decide, g.upd' hD, by rw [upd_same]; rfl⟩
  rintro H1 ⟨g1, hD1⟩
  have hD1 : H1 D = some (.dK (tru [src])) := hD1
  refine ⟨_, rfl, D, _, rfl, hD1, fun W hW => ?_⟩
  have nW : W ≠ D := Ne.symm (ne_of_none hD1 hW)
  have hDf : H D = none := hD
  have hW0 : H W = none := g1.free hW
  refine newH hW fun H2 g2 s2 => ?_
  have s2 : H2 W = some (.lst (strV [src])) := s2
  have hD2 := g2.keep hD1 (fun _ z => by cases z)
  dsimp only [gName, tSeq]
  refine while_by (fun σ H' => ∃ (o2 o5 : Option V) (fs ws : List Str), σ = [some (.ref a), some (.ref b), o2, some (.ref D), some (.ref W), o5] ∧ Gr H H' ∧ H' D = some (.dK (tru fs)) ∧ H' W = some (.lst (strV ws)) ∧ Rea ms src fs ws ∧ 2 * (ms.length + 1 - fs.length) + ws.length ≤ 2 * ms.length + 2 ∧ ∀ f ∈ fs, f ∈ ws ∨ ∀ m ∈ ms, m.s = f → m.t ∈ fs)
    (fun _ H' => muR (ms.length + 1) D W H') ⟨_, none, [src], [src], rfl, g1.trans g2, hD2, s2, ⟨by simp, by simp, fun f hf => by rw [List.mem_singleton.mp hf]; exact .nil, fun f hf => hf⟩, by simp, fun f hf => .inl hf⟩ ?_ ?_
  · rintro σ H3 ⟨o2, o5, fs, ws, rfl, g3, hD3, hW3, re, mb, cl⟩
    have tl : TruV K (.ref W) H3 (!(strV ws).isEmpty) := .inl ⟨_, SqL.of hW3, rfl⟩
    rcases snoc_cases ws with rfl | ⟨ws, f, rfl⟩
    · -- nothing waits
      refine ⟨_, rfl, false, tl, iteF ?_⟩
      have cl : ∀ f ∈ fs, ∀ m ∈ ms, m.s = f → m.t ∈ fs := fun f hf => (cl f hf).resolve_left (by simp)
      refine ⟨_, rfl, D, _, fs, rfl, .inl hD3, by unfold tru; rw [List.map_map]; rfl, by have := re.len; omega, fun cs L pm so hL => ?_⟩
      refine newH hL fun H4 g4 s4 => ?_
      refine ⟨.inl ⟨L, _, rfl, SqL.of s4, fun t ht => ?_⟩⟩
      refine newH ht fun H5 g5 s5 => ?_
      exact k t cs H5 ((g3.trans g4).trans g5) (SqT.of s5) so (pm.nodup_iff.mpr re.nd) fun f => (pm.mem_iff).trans (re.done cl f)
    · have e1 : strV (ws ++ [f]) = strV ws ++ [V.str f] := by
        unfold strV
        rw [List.map_append]; rfl
      refine ⟨_, rfl, true, by rw [e1, show (!(strV ws ++ [V.str f]).isEmpty) = true by cases strV ws <;> rfl] at tl; exact tl, iteT ?_⟩
      rw [show muR (ms.length + 1) D W H3 = 2 * (ms.length + 1 - fs.length) + (ws ++ [f]).length from muR_eq hD3 hW3]
      have ff : f ∈ fs := re.ws f (by simp)
      rw [List.length_append] at mb
      have mb : 2 * (ms.length + 1 - fs.length) + (ws.length + 1) ≤ 2 * ms.length + 2 := mb
      refine ⟨_, rfl, .inl ⟨rfl, _, SqL.of hW3⟩, ?_⟩
      refine ⟨W, strV (ws ++ [f]), .str f, rfl, rfl, hW3, by rw [e1]; simp, ?_⟩
      have e2 : (strV (ws ++ [f])).dropLast = strV ws := by rw [e1, List.dropLast_concat]
      rw [e2]
      have g4 : Gr H (upd H3 W (.lst (strV ws))) := g3.upd' hW0
      have hD4 : (upd H3 W (.lst (strV ws))) D = some (.dK (tru fs)) := by rw [upd_ne (Ne.symm nW)]; exact hD3
      have hW4 : (upd H3 W (.lst (strV ws))) W = some (.lst (strV ws)) := upd_same
      generalize upd H3 W (.lst (strV ws)) = H4 at *
      refine ⟨_, rfl, a, rfl, ?_⟩
      refine for_A (hS.gr g4) (fun i σ H' => ∃ (o5 : Option V) (fs' ws' : List Str), σ = [some (.ref a), some (.ref b), some (.str f), some (.ref D), some (.ref W), o5] ∧ Gr H H' ∧ H' D = some (.dK (tru fs')) ∧ H' W = some (.lst (strV ws')) ∧ Rea ms src fs' ws' ∧ (∀ g ∈ fs, g ∈ fs') ∧ (∀ g ∈ ws, g ∈ ws') ∧ (∀ g ∈ fs', g ∈ fs ∨ g ∈ ws') ∧ (∀ m ∈ ms.take i, m.s = f → m.t ∈ fs') ∧ 2 * (ms.length + 1 - fs'.length) + ws'.length ≤ 2 * (ms.length + 1 - fs.length) + ws.length)
        ⟨_, fs, ws, rfl, g4, hD4, hW4, ⟨re.nd, re.st, re.rc, fun g hg => re.ws g (by simp [hg])⟩, fun _ h => h, fun _ h => h, fun _ h => .inl h, by simp, Nat.le_refl _⟩ ?_ ?_ ?_
      · rintro i σ H5 _ ⟨o5, fs', ws', rfl, g5, _⟩
        exact hS.gr g5
      · rintro i x σ H5 hx ⟨o5, fs', ws', rfl, g5, hD5, hW5, re', q1, q2, q3, q4, q5⟩
        obtain ⟨m, t, hm, rfl, st⟩ := hR.at_ hx
        have st' := g5.seqT st
        have hmm := List.mem_of_getElem? hm
        have skip : (m.s = f → m.t ∈ fs') → ∀ m' ∈ ms.take (i + 1), m'.s = f → m'.t ∈ fs' := fun h m' h1 h2 => by
          rw [take_snoc hm] at h1
          rcases List.mem_append.mp h1 with z | z
          · exact q4 m' z h2
          · rw [List.mem_singleton.mp z] at h2 ⊢
            exact h h2
        refine ⟨_, rfl, x_t st' rfl ⟨_, rfl, e_flat rfl ⟨_, rfl, ite2 (fun h1 => ?_) (fun h1 => iteF ⟨_, fs', ws', rfl, g5, hD5, hW5, re', q1, q2, q3, skip fun z => absurd (decide_eq_true (by rw [z])) h1, q5⟩)⟩⟩⟩
        have e : m.s = f := V.str.inj (of_decide_eq_true h1)
        refine ⟨_, rfl, x_t st' rfl ⟨_, rfl, D, _, rfl, DGet.k (k := Sum.inr m.t) hD5, ?_⟩⟩
        have tb := tru_some fs' m.t
        rw [tb]
        refine ⟨_, rfl, ite2 (fun h2 => ?_) (fun h2 => ⟨_, fs', ws', rfl, g5, hD5, hW5, re', q1, q2, q3, skip fun _ => ?_, q5⟩)⟩
        · have hn : m.t ∉ fs' := by simpa using h2
          have ln := re'.len
          dsimp only [tSeq]
          refine ⟨_, rfl, _, rfl, x_t st' rfl ⟨D, _, rfl, DPut.k (k := Sum.inr m.t) hD5 (by unfold tru; rw [List.length_map, sizeLine_eq]; omega), ?_⟩⟩
          rw [putK_new (tru_none hn), ← tru_snoc]
          have g6 : Gr H (upd H5 D (.dK (tru (fs' ++ [m.t])))) := g5.upd' hDf
          have hD6 : (upd H5 D (.dK (tru (fs' ++ [m.t])))) D = some (.dK (tru (fs' ++ [m.t]))) := upd_same
          have hW6 : (upd H5 D (.dK (tru (fs' ++ [m.t])))) W = some (.lst (strV ws')) := by rw [upd_ne nW]; exact hW5
          have st6 := g6.seqT st
          generalize upd H5 D (.dK (tru (fs' ++ [m.t]))) = H6 at *
          refine ⟨_, rfl, .inl ⟨rfl, _, SqL.of hW6⟩, _, rfl, x_t st6 rfl ⟨W, _, _, rfl, rfl, hW6, by unfold strV; rw [List.length_map, sizeLine_eq]; omega, ?_⟩⟩
          rw [← show strV (ws' ++ [m.t]) = strV ws' ++ [V.str m.t] by unfold strV; rw [List.map_append]; rfl]
          have hq : m.t ∈ fs' ++ [m.t] := by simp
          refine ⟨_, fs' ++ [m.t], ws' ++ [m.t], rfl, g6.upd' hW0, by rw [upd_ne (Ne.symm nW)]; exact hD6, upd_same, ⟨?_, ?_, ?_, ?_⟩, ?_, ?_, ?_, ?_, ?_⟩
          · exact List.nodup_append.mpr ⟨re'.nd, by simp, fun x hx y hy => by rw [List.mem_singleton.mp hy]; exact fun z => hn (z ▸ hx)⟩
          · exact List.mem_append_left _ re'.st
          · intro g hg
            rcases List.mem_append.mp hg with z | z
            · exact re'.rc g z
            · rw [List.mem_singleton.mp z]
              exact Rch.snoc (e ▸ re'.rc f (q1 f ff)) hmm
          · intro g hg
            rcases List.mem_append.mp hg with z | z
            · exact List.mem_append_left _ (re'.ws g z)
            · exact List.mem_append_right _ z
          · exact fun g hg => List.mem_append_left _ (q1 g hg)
          · exact fun g hg => List.mem_append_left _ (q2 g hg)
          · intro g hg
            rcases List.mem_append.mp hg with z | z
            · exact (q3 g z).imp id fun z => List.mem_append_left _ z
            · exact .inr (List.mem_append_right _ z)
          · intro m' h1 h2
            rw [take_snoc hm] at h1
            rcases List.mem_append.mp h1 with z | z
            · exact List.mem_append_left _ (q4 m' z h2)
            · rw [List.mem_singleton.mp z]
              exact hq
          · rw [List.length_append, List.length_append]
            have h0 : fs'.length + 1 ≤ ms.length + 1 := by
              have nd' : (fs' ++ [m.t]).Nodup := List.nodup_append.mpr ⟨re'.nd, by simp, fun x hx y hy => by rw [List.mem_singleton.mp hy]; exact fun z => hn (z ▸ hx)⟩
              have rc' : ∀ g ∈ fs' ++ [m.t], g ∈ src :: ms.map Mak.t := by
                intro g hg
                rcases List.mem_append.mp hg with z | z
                · exact (re'.rc g z).in
                · rw [List.mem_singleton.mp z]
                  exact List.mem_cons_of_mem _ (List.mem_map.mpr ⟨_, hmm, rfl⟩)
              have q := nodup_len nd' rc'
              rw [List.length_append, List.length_cons, List.length_cons, List.length_map, List.length_nil] at q
              omega
            show 2 * (_ - (_ + 1)) + (_ + 1) ≤ _
            omega
        · simpa using h2
      · rintro σ H5 ⟨o5, fs', ws', rfl, g5, hD5, hW5, re', q1, q2, q3, q4, q5⟩
        rw [hR.1, List.take_length] at q4
        refine ⟨⟨_, o5, fs', ws', rfl, g5, hD5, hW5, re', by omega, fun g hg => ?_⟩, ?_⟩
        · rcases q3 g hg with z | z
          · rcases cl g z with y | y
            · rcases List.mem_append.mp y with y | y
              · exact .inl (q2 g y)
              · rw [List.mem_singleton.mp y]
                exact .inr q4
            · exact .inr fun m hm e => q1 _ (y m hm e)
          · exact .inl z
        · rw [muR_eq hD5 hW5, List.length_append]
          show _ < _ + (_ + 1)
          omega
  · rintro σ H' Q Q' hm ⟨v, e, kk, h1, h2⟩
    exact ⟨v, e, kk, h1, hm _ _ h2⟩
end
end Vf
end
section
set_option Elab.async false
set_option linter.all false
set_option maxRecDepth 100000
set_option maxHeartbeats 4000000
namespace Vf
open PySem PySem.Spec PyProof.Rows L2 GxR GenW RZ PySem.W
/-! ### labels and entries as they stand -/
def LabV (K : PySem.W.Frag) (H : Hp) (a : Addr) (l : Lab) : Prop := ∃ n, SqT K H a [.int l.c, .int (l.k : Nat), .ref n] ∧ SqT K H n (strV l.ns)
theorem LabV.gr {K : PySem.W.Frag} {H H' : Hp} {a : Addr} {l : Lab} (h : LabV K H a l) (g : Gr H H') : LabV K H' a l := by
  obtain ⟨n, h1, h2⟩ := h
  exact ⟨n, g.seqT h1, g.seqT h2⟩
theorem LabV.dp {K : PySem.W.Frag} {H : Hp} {a : Addr} {l : Lab} (h : LabV K H a l) : Dp K H (.ref a) (labD l) := by
  obtain ⟨n, h1, h2⟩ := h
  exact .tup h1 (.cons (.int _) (.cons (.int _) (.cons (.tup h2 (dp_strs _)) .nil)))
abbrev Ent := Lab × Str
def entD (e : Ent) : PyData := .tuple [labD e.1, .str e.2]
def EntV (K : PySem.W.Frag) (H : Hp) (t : Addr) (e : Ent) : Prop := ∃ a, H t = some (.tup [.ref a, .str e.2]) ∧ LabV K H a e.1
theorem EntV.gr {K : PySem.W.Frag} {H H' : Hp} {a : Addr} {e : Ent} (h : EntV K H a e) (g : Gr H H') : EntV K H' a e := by
  obtain ⟨n, h1, h2⟩ := h
  exact ⟨n, g.tup h1, h2.gr g⟩
theorem EntV.dp {K : PySem.W.Frag} {H : Hp} {a : Addr} {e : Ent} (h : EntV K H a e) : Dp K H (.ref a) (entD e) := by
  obtain ⟨n, h1, h2⟩ := h
  exact .tup (SqT.of h1) (.cons h2.dp (.cons (.str _) .nil))
theorem strs_nol : ∀ ns : List Str, noLstA (ns.map PyData.str) = true
  | [] => rfl
  | n :: ns => by simp [noLstA, noLst, strs_nol ns]
theorem strs_plain : ∀ ns : List Str, PyData.plainAll (ns.map PyData.str) = true
  | [] => rfl
  | n :: ns => by simp [PyData.plainAll, PyData.plain, strs_plain ns]
theorem strs_depth : ∀ ns : List Str, PyData.depthAll (ns.map PyData.str) ≤ 2
  | [] => by simp [PyData.depthAll]
  | n :: ns => by
    have := strs_depth ns
    simp [PyData.depthAll, PyData.depth]
    omega
theorem ent_okq (e : Ent) : Okq (entD e) ∧ PyData.plain (entD e) = true := by
  refine ⟨⟨by simp [entD, labD, strD, noLst, noLstA, strs_nol], by simp [entD], ?_⟩, by simp [entD, labD, strD, PyData.plain, PyData.plainAll, strs_plain]⟩
  have := strs_depth e.1.ns
  simp [entD, labD, strD, PyData.depth, PyData.depthAll]
  omega
theorem ent_alike (a b : Ent) : alike (entD a) (entD b) = true := by
  show (alike (labD a.1) (labD b.1) && (alike (.str a.2) (.str b.2) && true)) = true
  rw [alike_lab]
  rfl
theorem ent_le {a b : Ent} (h : dataLt (entD b) (entD a) = false) : a.1.le b.1 := by
  unfold entD at h
  rw [dataLt_tuple, dataLt_cons (alike_lab _ _)] at h
  show dataLt (labD b.1) (labD a.1) = false
  split at h
  · rename_i h3
    have h4 := (toks_eqv (labD b.1) (labD a.1) (alike_lab _ _)).1 h3
    show lexLt itemOrd _ _ = false
    rw [h4]
    exact lex_irrefl _
  · exact h
theorem HeapA.congr {D D' : Addr → PyData} {ts : List Addr} (h : HeapA D ts) (e : ∀ x ∈ ts, D x = D' x) : HeapA D' ts := by
  intro i i0 hi
  have q := h i i0 hi
  have m : ∀ j, j < ts.length → D (ts.getD j 0) = D' (ts.getD j 0) := fun j hj => e _ (by rw [List.getD_eq_getElem?_getD, List.getElem?_eq_getElem hj]; exact List.getElem_mem hj)
  have q : dataLt (D _) (D _) = false := q
  show dataLt (D' _) (D' _) = false
  rw [← m i hi, ← m _ (by omega)]
  exact q
/-! ### what holds while the queue is worked through -/
structure Dij (ms : List Mak) (src : Str) (L : List (Str × Lab)) (q : List Ent) (P : Mak → Prop) : Prop where
  nd : (L.map (·.1)).Nodup
  wk : ∀ p ∈ L, Wk ms src p.2 p.1
  qw : ∀ e ∈ q, Wk ms src e.1 e.2
  ge : ∀ p ∈ L, ∀ e ∈ q, p.2.le e.1
  st : (src, Lab.zero) ∈ L ∨ (L = [] ∧ (Lab.zero, src) ∈ q ∧ ∀ e ∈ q, e = (Lab.zero, src))
  cl : ∀ p ∈ L, ∀ m ∈ ms, m.s = p.1 → P m → (∃ l, (m.t, l) ∈ L ∧ l.le (p.2.ext m)) ∨ (p.2.ext m, m.t) ∈ q
  kb : ∀ e ∈ q, e.1.k ≤ L.length
theorem Dij.congr {ms : List Mak} {src : Str} {L : List (Str × Lab)} {q q' : List Ent} {P : Mak → Prop} (h : Dij ms src L q P) (e : ∀ x, x ∈ q' ↔ x ∈ q) : Dij ms src L q' P :=
  ⟨h.nd, h.wk, fun x hx => h.qw x ((e x).mp hx), fun p hp x hx => h.ge p hp x ((e x).mp hx), h.st.imp id fun ⟨a, b, c⟩ => ⟨a, (e _).mpr b, fun x hx => c x ((e x).mp hx)⟩, fun p hp m hm e1 pm => (h.cl p hp m hm e1 pm).imp id (e _).mpr, fun x hx => h.kb x ((e x).mp hx)⟩
theorem Dij.init {ms : List Mak} {src : Str} {P : Mak → Prop} : Dij ms src [] [(Lab.zero, src)] P :=
  ⟨List.nodup_nil, fun _ h => by (cases h), fun e he => by rw [List.mem_singleton.mp he]; exact .nil, fun _ h => by (cases h), .inr ⟨rfl, by simp, fun e he => List.mem_singleton.mp he⟩, fun _ h => by (cases h), fun e he => by rw [List.mem_singleton.mp he]; exact Nat.le_refl _⟩
theorem Wk.in {ms : List Mak} {src f : Str} {l : Lab} (h : Wk ms src l f) : f ∈ src :: ms.map Mak.t := by
  cases h with
  | nil => exact List.mem_cons_self
  | snoc _ hm _ => exact List.mem_cons_of_mem _ (List.mem_map.mpr ⟨_, hm, rfl⟩)
theorem Dij.len {ms : List Mak} {src : Str} {L : List (Str × Lab)} {q : List Ent} {P : Mak → Prop} (h : Dij ms src L q P) : L.length ≤ ms.length + 1 := by
  have z := nodup_len (m := src :: ms.map Mak.t) h.nd fun f hf => by
    obtain ⟨p, hp, rfl⟩ := List.mem_map.mp hf
    exact (h.wk p hp).in
  rw [List.length_map, List.length_cons, List.length_map] at z
  exact z
theorem Dij.fin {ms : List Mak} {src : Str} {L : List (Str × Lab)} (h : Dij ms src L [] fun _ => True) : Min ms src L := by
  refine Min.of h.nd h.wk ?_ fun p hp m hm e => ?_
  · rcases h.st with z | ⟨_, z, _⟩
    · exact z
    · cases z
  · rcases h.cl p hp m hm e trivial with z | z
    · exact z
    · cases z
/-- the name has a label: the entry may go -/
theorem Dij.drop {ms : List Mak} {src : Str} {L : List (Str × Lab)} {q : List Ent} {e : Ent} (h : Dij ms src L (e :: q) fun _ => True) (hf : e.2 ∈ L.map (·.1)) : Dij ms src L q fun _ => True := by
  obtain ⟨⟨f0, l'⟩, hp', e1⟩ := List.mem_map.mp hf
  have e1 : f0 = e.2 := e1
  refine ⟨h.nd, h.wk, fun x hx => h.qw x (List.mem_cons_of_mem _ hx), fun p hp x hx => h.ge p hp x (List.mem_cons_of_mem _ hx), ?_, fun p hp m hm e2 _ => ?_, fun x hx => h.kb x (List.mem_cons_of_mem _ hx)⟩
  · rcases h.st with z | ⟨z, _, _⟩
    · exact .inl z
    · rw [z] at hp'; cases hp'
  · rcases h.cl p hp m hm e2 trivial with z | z
    · exact .inl z
    · rcases List.mem_cons.mp z with z | z
      · have q1 : p.2.ext m = e.1 := congrArg Prod.fst z
        have q2 : m.t = e.2 := congrArg Prod.snd z
        refine .inl ⟨l', ?_, ?_⟩
        · rw [q2, ← e1]; exact hp'
        · rw [q1]
          exact h.ge _ hp' e List.mem_cons_self
      · exact .inr z
/-- a name gets its label -/
theorem Dij.take {ms : List Mak} {src : Str} {L : List (Str × Lab)} {q : List Ent} {e : Ent} (h : Dij ms src L (e :: q) fun _ => True) (hf : e.2 ∉ L.map (·.1)) (le : ∀ x ∈ q, e.1.le x.1) : Dij ms src (L ++ [(e.2, e.1)]) q fun m => m.s ≠ e.2 := by
  have w := h.qw e List.mem_cons_self
  refine ⟨?_, fun p hp => ?_, fun x hx => h.qw x (List.mem_cons_of_mem _ hx), fun p hp x hx => ?_, ?_, fun p hp m hm e2 ne => ?_, fun x hx => ?_⟩
  · rw [List.map_append]
    exact List.nodup_append.mpr ⟨h.nd, by simp, fun x hx y hy => by rw [List.mem_singleton.mp hy]; exact fun z => hf (by rw [show e.2 = x from z.symm]; exact hx)⟩
  · rcases List.mem_append.mp hp with z | z
    · exact h.wk p z
    · rw [List.mem_singleton.mp z]; exact w
  · rcases List.mem_append.mp hp with z | z
    · exact h.ge p z x (List.mem_cons_of_mem _ hx)
    · rw [List.mem_singleton.mp z]; exact le x hx
  · rcases h.st with z | ⟨z, _, z2⟩
    · exact .inl (List.mem_append_left _ z)
    · have := z2 e List.mem_cons_self
      rw [this]
      exact .inl (List.mem_append_right _ (by simp))
  · rcases List.mem_append.mp hp with z | z
    · rcases h.cl p z m hm e2 trivial with ⟨l, y1, y2⟩ | y
      · exact .inl ⟨l, List.mem_append_left _ y1, y2⟩
      · rcases List.mem_cons.mp y with y | y
        · have q1 : p.2.ext m = e.1 := congrArg Prod.fst y
          have q2 : m.t = e.2 := congrArg Prod.snd y
          refine .inl ⟨e.1, List.mem_append_right _ ?_, ?_⟩
          · rw [q2]; simp
          · rw [q1]; exact Lab.le.refl _
        · exact .inr y
    · rw [List.mem_singleton.mp z] at e2
      exact absurd e2 ne
  · rw [List.length_append]
    exact Nat.le_succ_of_le (h.kb x (List.mem_cons_of_mem _ hx))
/-- a maker from that name is followed -/
theorem Dij.push {ms : List Mak} {src : Str} {L : List (Str × Lab)} {q : List Ent} {P : Mak → Prop} {f : Str} {l : Lab} {m : Mak} (h : Dij ms src (L ++ [(f, l)]) q P) (h0 : 0 ≤ m.c) (hm : m ∈ ms) (e : m.s = f) (hl : l.k ≤ L.length) (le : ∀ p ∈ L, p.2.le l) : Dij ms src (L ++ [(f, l)]) ((l.ext m, m.t) :: q) fun m' => P m' ∨ m' = m := by
  have hp0 : (f, l) ∈ L ++ [(f, l)] := by simp
  refine ⟨h.nd, h.wk, fun x hx => ?_, fun p hp x hx => ?_, ?_, fun p hp m' hm' e2 pm => ?_, fun x hx => ?_⟩
  · rcases List.mem_cons.mp hx with rfl | hx
    · exact (h.wk _ hp0).snoc hm e
    · exact h.qw x hx
  · rcases List.mem_cons.mp hx with rfl | hx
    · refine Lab.le.trans ?_ (Lab.ext_le h0)
      rcases List.mem_append.mp hp with z | z
      · exact le p z
      · rw [List.mem_singleton.mp z]; exact Lab.le.refl _
    · exact h.ge p hp x hx
  · rcases h.st with z | ⟨z, _⟩
    · exact .inl z
    · simp at z
  · rcases pm with pm | rfl
    · exact (h.cl p hp m' hm' e2 pm).imp id (List.mem_cons_of_mem _)
    · refine .inr ?_
      have e3 : p = (f, l) := by
        obtain ⟨f1, l1⟩ := p
        have e4 : f1 = f := e2.symm.trans e
        subst e4
        rw [nd_at h.nd hp hp0]
      rw [e3]
      exact List.mem_cons_self
  · rcases List.mem_cons.mp hx with rfl | hx
    · show l.k + 1 ≤ _
      rw [List.length_append]
      exact Nat.succ_le_succ hl
    · exact h.kb x hx
theorem Dij.weak {ms : List Mak} {src : Str} {L : List (Str × Lab)} {q : List Ent} {P P' : Mak → Prop} (h : Dij ms src L q P) (pp : ∀ m ∈ ms, P' m → P m) : Dij ms src L q P' :=
  ⟨h.nd, h.wk, h.qw, h.ge, h.st, fun p hp m hm e pm => h.cl p hp m hm e (pp m hm pm), h.kb⟩
/-! ### the labels' dict -/
inductive LbV (K : PySem.W.Frag) (H : Hp) : List (Key × V) → List (Str × Lab) → Prop
  | nil : LbV K H [] []
  | cons {f : Str} {a : Addr} {l : Lab} {kvs : List (Key × V)} {L : List (Str × Lab)} : LabV K H a l → LbV K H kvs L → LbV K H (((Sum.inr f : Key), .ref a) :: kvs) ((f, l) :: L)
theorem LbV.gr {K : PySem.W.Frag} {H H' : Hp} {kvs : List (Key × V)} {L : List (Str × Lab)} (h : LbV K H kvs L) (g : Gr H H') : LbV K H' kvs L := by
  induction h with
  | nil => exact .nil
  | cons h1 _ ih => exact .cons (h1.gr g) ih
theorem LbV.snoc {K : PySem.W.Frag} {H : Hp} {kvs : List (Key × V)} {L : List (Str × Lab)} {f : Str} {a : Addr} {l : Lab} (h : LbV K H kvs L) (h1 : LabV K H a l) : LbV K H (kvs ++ [((Sum.inr f : Key), .ref a)]) (L ++ [(f, l)]) := by
  induction h with
  | nil => exact .cons h1 .nil
  | cons h2 _ ih => exact .cons h2 ih
theorem LbV.len {K : PySem.W.Frag} {H : Hp} {kvs : List (Key × V)} {L : List (Str × Lab)} (h : LbV K H kvs L) : kvs.length = L.length := by
  induction h with
  | nil => rfl
  | cons _ _ ih => rw [List.length_cons, List.length_cons, ih]
theorem LbV.isS {K : PySem.W.Frag} {H : Hp} {kvs : List (Key × V)} {L : List (Str × Lab)} (h : LbV K H kvs L) (n : Str) : (valV kvs (Sum.inr n : Key)).isSome = decide (n ∈ L.map (·.1)) := by
  induction h with
  | nil => rfl
  | @cons f a l kvs L h1 _ ih =>
    rw [List.map_cons]
    by_cases h : f = n
    · rw [valV_pos (by rw [h])]
      simp [h]
    · rw [valV_neg (fun z => h (Sum.inr.inj z)), ih]
      have h' : ¬ n = f := fun z => h z.symm
      simp [h']
theorem LbV.no {K : PySem.W.Frag} {H : Hp} {kvs : List (Key × V)} {L : List (Str × Lab)} (h : LbV K H kvs L) {n : Str} (hn : n ∉ L.map (·.1)) : valV kvs (Sum.inr n : Key) = none := by
  have q := h.isS n
  rw [decide_eq_false hn] at q
  exact Option.isNone_iff_eq_none.mp (Option.isSome_eq_false_iff.mp q)
theorem LbV.at {K : PySem.W.Frag} {H : Hp} {kvs : List (Key × V)} {L : List (Str × Lab)} (h : LbV K H kvs L) (nd : (L.map (·.1)).Nodup) {n : Str} {l : Lab} (hn : (n, l) ∈ L) : ∃ a, valV kvs (Sum.inr n : Key) = some (.ref a) ∧ LabV K H a l := by
  induction h with
  | nil => cases hn
  | @cons f a l' kvs L h1 _ ih =>
    rw [List.map_cons] at nd
    obtain ⟨n1, n2⟩ := List.nodup_cons.mp nd
    rcases List.mem_cons.mp hn with e | hn
    · cases e
      exact ⟨a, valV_pos rfl, h1⟩
    · have ne : f ≠ n := fun z => n1 (z ▸ List.mem_map.mpr ⟨_, hn, rfl⟩)
      obtain ⟨b, q1, q2⟩ := ih n2 hn
      exact ⟨b, by rw [valV_neg (fun z => ne (Sum.inr.inj z))]; exact q1, q2⟩
theorem LbV.keys {K : PySem.W.Frag} {H : Hp} {kvs : List (Key × V)} {L : List (Str × Lab)} (h : LbV K H kvs L) : kvs.map (fun kv => kV kv.1) = strV (L.map (·.1)) := by
  induction h with
  | nil => rfl
  | cons _ _ ih =>
    rw [List.map_cons, ih]
    rfl
end Vf
end
section
set_option Elab.async false
set_option linter.all false
set_option maxRecDepth 100000
set_option maxHeartbeats 4000000
namespace Vf
open PySem PySem.Spec PyProof.Rows L2 GxR GenW RZ
abbrev s_longer : Stmt := top 20
abbrev n_longer : List Str := ["label", "maker", "cost", "number", "names"]
abbrev p_longer : List Str := ["label", "maker"]
theorem sc_longer : FnScope n_longer p_longer (defScope s_longer) := ⟨rfl, rfl, rfl, by decide +kernel, rfl, by decide +kernel, by decide +kernel⟩

abbrev s_least_labels : Stmt := top 19
abbrev n_least_labels : List Str := ["makers", "starts", "labels", "queue", "form", "label", "maker"]
abbrev p_least_labels : List Str := ["makers", "starts"]
theorem sc_least_labels : FnScope n_least_labels p_least_labels (defScope s_least_labels) := ⟨rfl, rfl, rfl, by decide +kernel, rfl, by decide +kernel, by decide +kernel⟩

def spLonger (K : PySem.W.Frag) : Sp := fun vs H Q _ => ∃ (a t : Addr) (l : Lab) (m : Mak), vs = [.ref a, .ref t] ∧ LabV K H a l ∧ SqT K H t (makV m) ∧ l.ns.length < 1000 ∧ ∀ p H', Gr H H' → LabV K H' p (l.ext m) → Q (.ref p) H'
def spLeast (K : PySem.W.Frag) : Sp := fun vs H Q _ => ∃ (a b : Addr) (xs : List V) (ms : List Mak) (src : Str) (bb : Bool), vs = [.ref a, .ref b] ∧ SqA K bb H a xs ∧ RB K makV H xs ms ∧ ms.length ≤ 60 ∧ (∀ m ∈ ms, 0 ≤ m.c) ∧ SqT K H b [.str src] ∧
  ∀ d H' kvs L, Gr H H' → H d = none → H' d = some (.dK kvs) → LbV K H' kvs L → Min ms src L → L.length ≤ ms.length + 1 → Q (.ref d) H'
section
variable {P : Program} {w : World} {K : PySem.W.Frag} {mg : Str → Option Value} {base : Heap}
theorem ok_longer {fd : FuncData} (F : FnP K "longer" s_longer fd) (T : TD K mg) : FnOk P w K mg base CX0 1 (He.fAd K ("longer", none)) fd p_longer (spLonger K) := by
  refine okP F sc_longer (fun vs H Q E h => by obtain ⟨a, t, l, m, rfl, _⟩ := h; rfl) (fun A outer s H vs Q E hr h => ?_)
  obtain ⟨a, t, l, m, rfl, ⟨n, hA, hN⟩, hT, hl, k⟩ := h
  refine ⟨_, (pss_cons (ps_asg (pv 0) (kg_tup 3 (K := K) rfl rfl (pgs_cons (pg_name (i := 2) sc_longer.nd rfl (by first | exact Or.inl rfl | exact Or.inr rfl)) (pgs_cons (pg_name (i := 3) sc_longer.nd rfl (by first | exact Or.inl rfl | exact Or.inr rfl)) (pgs_cons (pg_name (i := 4) sc_longer.nd rfl (by first | exact Or.inl rfl | exact Or.inr rfl)) pgs_nil)))))
      (pss_one (ps_ret (pe_tup (pa_cons (pe_op (u_add (K := K) rfl) (pv 2) (pe_ix (u_ix (K := K) rfl) (pv 1) (pe_gl T.c_COST rfl) (fun _ _ => rfl))) (pa_cons (pe_op (u_add (K := K) rfl) (pv 3) pe_int) (pa_cons (pe_tup (pa_starD (K := K) rfl rfl (pv 4) (pa_cons (pe_ix (u_ix (K := K) rfl) (pv 1) (pe_gl T.c_NAME rfl) (fun _ _ => rfl)) pa_nil))) pa_nil))))))), ?_⟩
  refine ⟨_, rfl, a, _, rfl, hA, rfl, _, _, rfl, _, _, rfl, _, _, rfl, rfl, ?_⟩
  dsimp only [gTup, gName, tSeq]
  refine ⟨_, rfl, _, rfl, x_t hT rfl (a_ii ⟨_, rfl, a_ii ⟨_, rfl, _, _, rfl, ⟨.inl hN⟩, _, rfl, x_t hT rfl ⟨by show (strV l.ns ++ [V.str m.n]).length ≤ sizeLine; unfold strV; rw [List.length_append, List.length_map, sizeLine_eq]; show _ + 1 ≤ _; omega, fun q hq => ?_⟩⟩⟩)⟩
  refine newH hq fun H1 g1 s1 => ⟨by rw [sizeLine_eq]; exact Nat.le_trans (show 3 ≤ 3 from Nat.le_refl _) (by decide), fun p hp => ?_⟩
  refine newH hp fun H2 g2 s2 => ?_
  refine k p H2 (g1.trans g2) ⟨q, SqT.of s2, ?_⟩
  have e : strV (l.ext m).ns = strV l.ns ++ [V.str m.n] := by
    show strV (l.ns ++ [m.n]) = _
    unfold strV
    rw [List.map_append]; rfl
  rw [e]
  exact g2.seqT (SqT.of s1)
end
/-! ### what keeps tuples -/
structure Kp (K : PySem.W.Frag) (H H' : Hp) : Prop where
  s : ∀ a xs, SqT K H a xs → SqT K H' a xs
  r : ∀ (a : Addr) (xs : List V), H a = some (.tup xs) → H' a = some (.tup xs)
theorem Kp.gr {K : PySem.W.Frag} {H H' : Hp} (g : Gr H H') : Kp K H H' := ⟨fun _ _ h => g.seqT h, fun _ _ h => g.tup h⟩
theorem Kp.lst {K : PySem.W.Frag} {H : Hp} {W : Addr} {ys : List V} {o : HO} (h : H W = some (.lst ys)) : Kp K H (upd H W o) := ⟨fun _ _ q => upd_seqT h _ _ q, fun a xs q => by
  rw [upd_ne (fun z => by rw [z, h] at q; cases q)]; exact q⟩
theorem Kp.dct {K : PySem.W.Frag} {H : Hp} {W : Addr} {ys : List (Key × V)} {o : HO} (h : H W = some (.dK ys)) : Kp K H (upd H W o) := ⟨fun _ _ q => upd_dK h q, fun a xs q => by
  rw [upd_ne (fun z => by rw [z, h] at q; cases q)]; exact q⟩
theorem LabV.kp {K : PySem.W.Frag} {H H' : Hp} {a : Addr} {l : Lab} (h : LabV K H a l) (g : Kp K H H') : LabV K H' a l := by
  obtain ⟨n, h1, h2⟩ := h
  exact ⟨n, g.s _ _ h1, g.s _ _ h2⟩
theorem EntV.kp {K : PySem.W.Frag} {H H' : Hp} {a : Addr} {e : Ent} (h : EntV K H a e) (g : Kp K H H') : EntV K H' a e := by
  obtain ⟨n, h1, h2⟩ := h
  exact ⟨n, g.r _ _ h1, h2.kp g⟩
theorem LbV.kp {K : PySem.W.Frag} {H H' : Hp} {kvs : List (Key × V)} {L : List (Str × Lab)} (h : LbV K H kvs L) (g : Kp K H H') : LbV K H' kvs L := by
  induction h with
  | nil => exact .nil
  | cons h1 _ ih => exact .cons (h1.kp g) ih
structure QS (K : PySem.W.Frag) (H : Hp) (W : Addr) (ts : List Addr) (en : Addr → Ent) : Prop where
  l : H W = some (.lst (ts.map V.ref))
  e : ∀ x ∈ ts, EntV K H x (en x)
  h : HeapA (fun x => entD (en x)) ts
theorem push_q {K : PySem.W.Frag} {H : Hp} {W t : Addr} {ts : List Addr} {en : Addr → Ent} {e : Ent} {Q : VK} (q : QS K H W ts en) (ht : EntV K H t e) (fr : t ∉ ts) (hz : ts.length < sizeLine)
    (k : ∀ us en', us.length = ts.length + 1 → (∀ x, x ∈ us.map en' ↔ x ∈ e :: ts.map en) → Kp K H (upd H W (.lst (us.map V.ref))) → QS K (upd H W (.lst (us.map V.ref))) W us en' → Q .non (upd H W (.lst (us.map V.ref)))) : rPushH K [.ref W, .ref t] H Q := by
  have e1 : (fun x => if x = t then e else en x) t = e := if_pos rfl
  have e2 : ∀ x ∈ ts, (fun x => if x = t then e else en x) x = en x := fun x hx => if_neg fun z : x = t => fr (by rw [← z]; exact hx)
  have e3 : ∀ x ∈ t :: ts, EntV K H x ((fun x => if x = t then e else en x) x) := fun x hx => by
    rcases List.mem_cons.mp hx with rfl | hx
    · rw [e1]; exact ht
    · rw [e2 x hx]; exact q.e x hx
  generalize (fun x => if x = t then e else en x) = en' at *
  refine ⟨W, t, ts, fun x => entD (en' x), rfl, q.l, hz, fun x hx => ⟨(e3 x hx).dp, ent_okq _⟩, fun x _ y _ => ent_alike _ _, q.h.congr fun x hx => by rw [e2 x hx], fun us pm hh => ?_⟩
  refine k us en' pm.length_eq (fun x => ?_) (Kp.lst q.l) ⟨upd_same, fun x hx => (e3 x (pm.mem_iff.mp hx)).kp (Kp.lst q.l), hh⟩
  rw [(pm.map en').mem_iff, List.map_cons, e1, List.map_congr_left e2]
theorem pop_q {K : PySem.W.Frag} {H : Hp} {W t : Addr} {ts : List Addr} {en : Addr → Ent} {Q : VK} (q : QS K H W (t :: ts) en)
    (k : ∀ us, us.Perm ts → (∀ x ∈ us.map en, (en t).1.le x.1) → Kp K H (upd H W (.lst (us.map V.ref))) → QS K (upd H W (.lst (us.map V.ref))) W us en → Q (.ref t) (upd H W (.lst (us.map V.ref)))) : rPopH K [.ref W] H Q := by
  refine ⟨W, t, ts, fun x => entD (en x), rfl, q.l, fun x hx => ⟨(q.e x hx).dp, ent_okq _⟩, fun x _ y _ => ent_alike _ _, q.h, fun us pm hh => ?_⟩
  refine k us pm (fun x hx => ?_) (Kp.lst q.l) ⟨upd_same, fun x hx => (q.e x (List.mem_cons_of_mem _ (pm.mem_iff.mp hx))).kp (Kp.lst q.l), hh⟩
  obtain ⟨y, hy, rfl⟩ := List.mem_map.mp hx
  exact ent_le (q.h.least (List.mem_cons_of_mem _ (pm.mem_iff.mp hy)))
def unl (ms : List Mak) (L : List (Str × Lab)) : Nat := (ms.filter fun m => !decide (m.s ∈ L.map (·.1))).length
def cnt (ms : List Mak) (f : Str) : Nat := (ms.filter fun m => decide (m.s = f)).length
theorem unl_snoc {L : List (Str × Lab)} {f : Str} {l : Lab} (h : f ∉ L.map (·.1)) : ∀ ms : List Mak, unl ms (L ++ [(f, l)]) + cnt ms f = unl ms L
  | [] => rfl
  | m :: ms => by
    have ih := unl_snoc h ms (l := l)
    unfold unl cnt at ih ⊢
    rw [List.filter_cons, List.filter_cons, List.filter_cons]
    by_cases e : m.s = f
    · have a1 : m.s ∈ (L ++ [(f, l)]).map (·.1) := by rw [e]; simp
      have a2 : m.s ∉ L.map (·.1) := by rw [e]; exact h
      rw [if_neg (by rw [decide_eq_true a1]; decide), if_pos (by simpa using e), if_pos (by rw [decide_eq_false a2]; rfl)]
      simp only [List.length_cons]
      omega
    · by_cases z : m.s ∈ L.map (·.1)
      · have a1 : m.s ∈ (L ++ [(f, l)]).map (·.1) := by rw [List.map_append]; exact List.mem_append_left _ z
        rw [if_neg (by rw [decide_eq_true a1]; decide), if_neg (by simpa using e), if_neg (by rw [decide_eq_true z]; decide)]
        exact ih
      · have a1 : m.s ∉ (L ++ [(f, l)]).map (·.1) := by
          rw [List.map_append]
          intro y
          rcases List.mem_append.mp y with y | y
          · exact z y
          · exact e (List.mem_singleton.mp y)
        rw [if_pos (by rw [decide_eq_false a1]; rfl), if_neg (by simpa using e), if_pos (by rw [decide_eq_false z]; rfl)]
        simp only [List.length_cons]
        omega
theorem cnt_snoc {ms : List Mak} {m : Mak} {f : Str} : cnt (ms ++ [m]) f = cnt ms f + if m.s = f then 1 else 0 := by
  unfold cnt
  rw [List.filter_append, List.length_append]
  by_cases e : m.s = f
  · rw [if_pos e]; simp [e]
  · rw [if_neg e]; simp [e]
theorem cnt_take {ms : List Mak} {f : Str} (i : Nat) : cnt (ms.take i) f ≤ cnt ms f := by
  unfold cnt
  conv => rhs; rw [← List.take_append_drop i ms]
  rw [List.filter_append, List.length_append]
  omega
def muD (ms : List Mak) (D W : Addr) (H : Hp) : Nat := match H D, H W with
  | some (.dK kvs), some (.lst ys) => (ms.filter fun m => !(valV kvs (Sum.inr m.s : Key)).isSome).length + ys.length
  | _, _ => 0
theorem muD_eq {K : PySem.W.Frag} {ms : List Mak} {D W : Addr} {H : Hp} {kvs : List (Key × V)} {L : List (Str × Lab)} {ts : List Addr} (h1 : H D = some (.dK kvs)) (hL : LbV K H kvs L) (h2 : H W = some (.lst (ts.map V.ref))) : muD ms D W H = unl ms L + ts.length := by
  unfold muD unl
  rw [h1, h2]
  show (ms.filter fun m => !(valV kvs (Sum.inr m.s : Key)).isSome).length + (ts.map V.ref).length = _
  rw [List.length_map]
  have : (fun m : Mak => !(valV kvs (Sum.inr m.s : Key)).isSome) = fun m => !decide (m.s ∈ L.map (·.1)) := funext fun m => by rw [hL.isS]
  rw [this]
section
variable {P : Program} {w : World} {K : PySem.W.Frag} {mg : Str → Option Value} {base : Heap}
theorem ok_least_labels {fd : FuncData} (F : FnP K "least_labels" s_least_labels fd) (T : TD K mg) (D_longer : Df P w K mg base "longer" 1 p_longer (spLonger K)) : FnOk P w K mg base CX0 2 (He.fAd K ("least_labels", none)) fd p_least_labels (spLeast K) := by
  refine okP F sc_least_labels (fun vs H Q E h => by obtain ⟨a, b, xs, ms, src, bb, rfl, _⟩ := h; rfl) (fun A outer s H vs Q E hr h => ?_)
  obtain ⟨a, b, xs, ms, src, bb, rfl, hS, hR, hl, h0, hb, k⟩ := h
  obtain ⟨aE, nE, m_EMPTY_LABEL, sE, sN⟩ := T.c_EMPTY_LABEL
  refine ⟨_, (pss_cons (ps_set (i := 2) sc_least_labels.nd rfl (by first | exact Or.inl rfl | exact Or.inr rfl) pe_dnewK)
      (pss_cons (ps_set (i := 3) sc_least_labels.nd rfl (by first | exact Or.inl rfl | exact Or.inr rfl) (pe_lst pa_nil))
      (pss_cons (ps_for PassesOwn.never rfl (k_tup (K := K) rfl (pv 1)) (pg_name (i := 4) sc_least_labels.nd rfl (by first | exact Or.inl rfl | exact Or.inr rfl))
      (pss_one (ps_expr (pe_callBfun (cr_push hr.units) rfl T.h_heappush (pa_cons (pv 3) (pa_cons (pe_tup (pa_cons (pe_ref rfl m_EMPTY_LABEL) (pa_cons (pv 4) pa_nil))) pa_nil))))))
      (pss_cons (ps_while PassesOwn.never (k_truth (K := K) rfl (pv 3) (by intro _; rfl))
      (pss_cons (ps_asg (pe_callBfun (cr_pop hr.units) rfl T.h_heappop (pa_cons (pv 3) pa_nil)) (kg_tup 2 (K := K) rfl rfl (pgs_cons (pg_name (i := 5) sc_least_labels.nd rfl (by first | exact Or.inl rfl | exact Or.inr rfl)) (pgs_cons (pg_name (i := 4) sc_least_labels.nd rfl (by first | exact Or.inl rfl | exact Or.inr rfl)) pgs_nil))))
      (pss_one (ps_if (pt_cmp (pc_dnotin (hu_of hr) (pv 4) (pv 2)))
      (pss_cons (ps_dput (hu_of hr) (pv 2) (pv 4) (pv 5) rfl)
      (pss_one (ps_for PassesOwn.never rfl (k_seqA (K := K) rfl (pv 0)) (pg_name (i := 6) sc_least_labels.nd rfl (by first | exact Or.inl rfl | exact Or.inr rfl))
      (pss_one (ps_if (pt_cmpR (u_eq (K := K) rfl hr.units) (pe_ix (u_ix (K := K) rfl) (pv 6) (pe_gl T.c_SOURCE rfl) (fun _ _ => rfl)) (pv 4) (nomark _))
      (pss_one (ps_expr (pe_callBfun (cr_push hr.units) rfl T.h_heappush (pa_cons (pv 3) (pa_cons (pe_tup (pa_cons (pe_fn D_longer hr (by decide) rfl (pa_cons (pv 5) (pa_cons (pv 6) pa_nil))) (pa_cons (pe_ix (u_ix (K := K) rfl) (pv 6) (pe_gl T.c_TARGET rfl) (fun _ _ => rfl)) pa_nil))) pa_nil)))))
      pss_nil)))))
      pss_nil))))
      (pss_one (ps_ret (pv 2))))))), ?_⟩
  refine fun D hD => ?_
  have hDf : H D = none := hD
  refine newH hD fun H1 g1 s1 => ?_
  refine ⟨by rw [sizeLine_eq]; exact Nat.zero_le _, fun W hW => ?_⟩
  have nW : W ≠ D := Ne.symm (ne_of_none s1 hW)
  have hWf : H W = none := g1.free hW
  refine newH hW fun H2 g2 s2 => ?_
  have hD2 := g2.keep s1 (fun _ z => by cases z)
  refine ⟨_, rfl, b, rfl, ?_⟩
  have q2 : QS K H2 W [] (fun _ => (Lab.zero, src)) := ⟨s2, fun _ h => by (cases h), HeapA.nil⟩
  refine ⟨⟨_, (g1.trans g2).seqT hb⟩, for_tup (K := K) (a := b) (xs := [.str src]) (fun i σ H' => ∃ (o4 : Option V) (ts : List Addr) (en : Addr → Ent), σ = [some (.ref a), some (.ref b), some (.ref D), some (.ref W), o4, none, none] ∧ Gr H H' ∧ H' D = some (.dK []) ∧ QS K H' W ts en ∧ ts.length = i ∧ ∀ x, x ∈ ts.map en ↔ (i = 1 ∧ x = (Lab.zero, src)))
    ⟨none, [], _, rfl, g1.trans g2, hD2, q2, rfl, by simp⟩ ?_ ?_ ?_⟩
  · rintro i σ H3 _ ⟨o4, ts, en, rfl, g3, _⟩
    exact g3.seqT hb
  · rintro i x σ H3 hx ⟨o4, ts, en, rfl, g3, hD3, q3, hl3, _⟩
    obtain ⟨rfl, rfl⟩ : i = 0 ∧ x = .str src := by
      cases i with
      | zero => cases hx; exact ⟨rfl, rfl⟩
      | succ i => simp at hx
    obtain rfl : ts = [] := List.length_eq_zero_iff.mp hl3
    refine ⟨_, rfl, _, rfl, by rw [sizeLine_eq]; exact Nat.le_trans (show 2 ≤ 2 from Nat.le_refl _) (by decide), fun t ht => ?_⟩
    refine newH ht fun H4 g4 s4 => ?_
    have q4 : QS K H4 W [] en := ⟨g4.lst q3.l, fun _ h => by (cases h), HeapA.nil⟩
    dsimp only [tNil, tCons, tTup]
    refine push_q (e := (Lab.zero, src)) q4 ⟨aE, s4, nE, sE _, sN _⟩ (by simp) (by rw [sizeLine_eq]; decide) fun us en' lu hu kp q5 => ?_
    refine ⟨_, us, en', rfl, (g3.trans g4).upd' hWf, ?_, q5, lu, fun x => ?_⟩
    · rw [upd_ne (Ne.symm nW)]
      exact g4.keep hD3 (fun _ z => by cases z)
    · rw [hu x]; simp
  rintro σ H3 ⟨o4, ts, en, rfl, g3, hD3, q3, hl3, hq3⟩
  dsimp only [tSeq]
  refine while_by (fun σ H' => ∃ (o4 o5 o6 : Option V) (kvs : List (Key × V)) (L : List (Str × Lab)) (ts : List Addr) (en : Addr → Ent), σ = [some (.ref a), some (.ref b), some (.ref D), some (.ref W), o4, o5, o6] ∧ Gr H H' ∧ H' D = some (.dK kvs) ∧ LbV K H' kvs L ∧ QS K H' W ts en ∧ Dij ms src L (ts.map en) (fun _ => True) ∧ unl ms L + ts.length ≤ ms.length + 1)
    (fun _ H' => muD ms D W H') ⟨o4, none, none, [], [], ts, en, rfl, g3, hD3, .nil, q3, Dij.init.congr fun x => by rw [hq3 x]; simp, by rw [hl3]; show (ms.filter _).length + 1 ≤ _; exact Nat.succ_le_succ (List.length_filter_le _ _)⟩ ?_ ?_
  · clear hq3 hl3 q3 hD3 g3 ts en
    rintro σ H3 ⟨o4, o5, o6, kvs, L, ts, en, rfl, g3, hD3, hL3, q3, dj, mb⟩
    have tl : TruV K (.ref W) H3 (!(ts.map V.ref).isEmpty) := .inl ⟨_, SqL.of q3.l, rfl⟩
    cases ts with
    | nil =>
      refine ⟨_, rfl, false, tl, iteF ?_⟩
      exact ⟨_, rfl, k D H3 kvs L g3 hDf hD3 hL3 dj.fin dj.len⟩
    | cons t ts =>
      refine ⟨_, rfl, true, tl, iteT ?_⟩
      rw [show muD ms D W H3 = unl ms L + (t :: ts).length from muD_eq hD3 hL3 q3.l]
      refine ⟨_, rfl, ?_⟩
      have et := q3.e t List.mem_cons_self
      dsimp only [tNil, tCons]
      refine pop_q q3 fun us pm le kp q4 => ?_
      have g4 := g3.upd' (o := .lst (us.map V.ref)) hWf
      have hD4 : (upd H3 W (.lst (us.map V.ref))) D = some (.dK kvs) := by rw [upd_ne (Ne.symm nW)]; exact hD3
      have hL4 := hL3.kp kp
      have et4 := et.kp kp
      generalize upd H3 W (.lst (us.map V.ref)) = H4 at *
      obtain ⟨la, sT, lV⟩ := et4
      have hfl : en t = ((en t).1, (en t).2) := rfl
      have dj1 : Dij ms src L (en t :: us.map en) fun _ => True := dj.congr fun x => by
        rw [List.map_cons, List.mem_cons, List.mem_cons, (pm.map en).mem_iff]
      have lu : us.length = ts.length := pm.length_eq
      generalize en t = e at *
      obtain ⟨l, f⟩ := e
      have sT : H4 t = some (.tup [.ref la, .str f]) := sT
      have lV : LabV K H4 la l := lV
      refine ⟨t, _, rfl, SqT.of sT, rfl, _, _, rfl, _, _, rfl, rfl, ?_⟩
      refine ⟨_, rfl, _, rfl, D, _, rfl, DGet.k (k := Sum.inr f) hD4, ?_⟩
      rw [hL4.isS]
      refine ⟨_, rfl, ite2 (fun hn => ?_) (fun hn => ?_)⟩
      · have hn : f ∉ L.map (·.1) := by
          intro z
          rw [decide_eq_true z] at hn
          cases hn
        have dj2 := dj1.take hn le
        have hlk : l.k ≤ L.length := dj1.kb _ List.mem_cons_self
        have hge : ∀ p ∈ L, p.2.le l := fun p hp => dj1.ge p hp _ List.mem_cons_self
        have lL := dj2.len
        rw [List.length_append] at lL
        have lL : L.length + 1 ≤ ms.length + 1 := lL
        have us1 : unl ms (L ++ [(f, l)]) + cnt ms f = unl ms L := unl_snoc hn ms
        dsimp only [tSeq]
        refine ⟨_, rfl, _, rfl, _, rfl, D, _, rfl, DPut.k (k := Sum.inr f) hD4 (by rw [hL4.len, sizeLine_eq]; omega), ?_⟩
        rw [putK_new (hL4.no hn)]
        have g5 := g4.upd' (o := .dK (kvs ++ [((Sum.inr f : Key), V.ref la)])) hDf
        have hD5 : (upd H4 D (.dK (kvs ++ [((Sum.inr f : Key), V.ref la)]))) D = some (.dK (kvs ++ [((Sum.inr f : Key), V.ref la)])) := upd_same
        have kp5 : Kp K H4 (upd H4 D (.dK (kvs ++ [((Sum.inr f : Key), V.ref la)]))) := Kp.dct hD4
        have hL5 := (hL4.snoc (f := f) lV).kp kp5
        have lV5 := lV.kp kp5
        have q5 : QS K (upd H4 D (.dK (kvs ++ [((Sum.inr f : Key), V.ref la)]))) W us en := ⟨by rw [upd_ne nW]; exact q4.l, fun x hx => (q4.e x hx).kp kp5, q4.h⟩
        generalize upd H4 D (.dK (kvs ++ [((Sum.inr f : Key), V.ref la)])) = H5 at *
        refine ⟨_, rfl, a, rfl, ?_⟩
        refine for_A (hS.gr g5) (fun i σ H' => ∃ (o6 : Option V) (us' : List Addr) (en' : Addr → Ent), σ = [some (.ref a), some (.ref b), some (.ref D), some (.ref W), some (.str f), some (.ref la), o6] ∧ Gr H H' ∧ H' D = some (.dK (kvs ++ [((Sum.inr f : Key), V.ref la)])) ∧ LbV K H' (kvs ++ [((Sum.inr f : Key), V.ref la)]) (L ++ [(f, l)]) ∧ LabV K H' la l ∧ QS K H' W us' en' ∧ Dij ms src (L ++ [(f, l)]) (us'.map en') (fun m => m.s ≠ f ∨ m ∈ ms.take i) ∧ us'.length = us.length + cnt (ms.take i) f)
          ⟨_, us, en, rfl, g5, hD5, hL5, lV5, q5, dj2.weak fun m _ h => h.elim id fun z => by simp at z, rfl⟩ ?_ ?_ ?_
        · rintro i σ H6 _ ⟨o6, us', en', rfl, g6, _⟩
          exact hS.gr g6
        · rintro i x σ H6 hx ⟨o6, us', en', rfl, g6, hD6, hL6, lV6, q6, dj6, lu6⟩
          obtain ⟨m, t, hm, rfl, st⟩ := hR.at_ hx
          have st' := g6.seqT st
          have hmm := List.mem_of_getElem? hm
          have tk := take_snoc hm
          have ct := cnt_take (ms := ms) (f := f) (i + 1)
          rw [tk, cnt_snoc] at ct
          refine ⟨_, rfl, x_t st' rfl ⟨_, rfl, e_flat rfl ⟨_, rfl, ite2 (fun h1 => ?_) (fun h1 => ?_)⟩⟩⟩
          · have e : m.s = f := V.str.inj (of_decide_eq_true h1)
            rw [if_pos e] at ct
            have lw : l.ns.length < 1000 := by
              have := (dj1.qw _ List.mem_cons_self).ok
              have : l.k = l.ns.length := this
              omega
            refine ⟨_, rfl, _, rfl, _, rfl, la, t, l, m, rfl, lV6, st', lw, fun p H7 g7 lV7 => ?_⟩
            refine ⟨_, rfl, x_t (g7.seqT st') rfl ⟨by rw [sizeLine_eq]; exact Nat.le_trans (show 2 ≤ 2 from Nat.le_refl _) (by decide), fun t' ht' => ?_⟩⟩
            have q7 : QS K H7 W us' en' := ⟨g7.lst q6.l, fun x hx => (q6.e x hx).gr g7, q6.h⟩
            have fr : t' ∉ us' := fun hx => by
              obtain ⟨_, z, _⟩ := q7.e t' hx
              rw [ht'] at z
              cases z
            have lV7' := lV6.gr g7
            have hL7 := hL6.gr g7
            have hD7 := g7.keep hD6 (fun _ z => by cases z)
            refine newH ht' fun H8 g8 s8 => ?_
            have q8 : QS K H8 W us' en' := ⟨g8.lst q7.l, fun x hx => (q7.e x hx).gr g8, q7.h⟩
            dsimp only [tNil, tCons]
            refine push_q (e := (l.ext m, m.t)) q8 ⟨p, s8, lV7.gr g8⟩ fr (by rw [sizeLine_eq]; simp only [List.length_cons] at mb; omega) fun us2 en2 lu2 hu2 kp q9 => ?_
            refine ⟨_, us2, en2, rfl, ((g6.trans g7).trans g8).upd' hWf, ?_, (hL7.gr g8).kp kp, (lV7'.gr g8).kp kp, q9, ?_, ?_⟩
            · rw [upd_ne (Ne.symm nW)]
              exact g8.keep hD7 (fun _ z => by cases z)
            · refine ((dj6.push (h0 m hmm) hmm e hlk hge).congr hu2).weak fun m' _ h => h.elim (fun z => .inl (.inl z)) fun z => ?_
              rw [tk] at z
              rcases List.mem_append.mp z with z | z
              · exact .inl (.inr z)
              · exact .inr (List.mem_singleton.mp z)
            · rw [tk, cnt_snoc, if_pos e, lu2]
              omega
          · have e : m.s ≠ f := fun z => h1 (decide_eq_true (by rw [z]))
            refine ⟨_, us', en', rfl, g6, hD6, hL6, lV6, q6, dj6.weak fun m' _ h => h.elim .inl fun z => ?_, by rw [tk, cnt_snoc, if_neg e]; exact lu6⟩
            rw [tk] at z
            rcases List.mem_append.mp z with z | z
            · exact .inr z
            · rw [List.mem_singleton.mp z]; exact .inl e
        · rintro σ H6 ⟨o6, us', en', rfl, g6, hD6, hL6, lV6, q6, dj6, lu6⟩
          rw [hR.1, List.take_length] at lu6 dj6
          refine ⟨⟨_, _, o6, _, _, us', en', rfl, g6, hD6, hL6, q6, dj6.weak fun m hm _ => .inr hm, ?_⟩, ?_⟩
          · simp only [List.length_cons] at mb
            omega
          · rw [muD_eq hD6 hL6 q6.l]
            simp only [List.length_cons]
            omega
      · have hn : f ∈ L.map (·.1) := by
          by_cases z : f ∈ L.map (·.1)
          · exact z
          · rw [decide_eq_false z] at hn
            exact absurd rfl hn
        refine ⟨⟨_, _, o6, _, _, us, en, rfl, g4, hD4, hL4, q4, dj1.drop hn, ?_⟩, ?_⟩
        · simp only [List.length_cons] at mb
          omega
        · rw [muD_eq hD4 hL4 q4.l]
          simp only [List.length_cons]
          omega
  · rintro σ H' Q Q' hm ⟨v, e, kk, h1, h2⟩
    exact ⟨v, e, kk, h1, hm _ _ h2⟩
end
end Vf
end
section
set_option Elab.async false
set_option linter.all false
set_option maxRecDepth 100000
set_option maxHeartbeats 4000000
namespace Vf
open PySem PySem.Spec PyProof.Rows L2 GxR GenW RZ PySem.W
/-! ### sorted lists of different names -/
theorem cps_tot {x y : Str} (h1 : ltCps x.cps.toList y.cps.toList = false) (h2 : ltCps y.cps.toList x.cps.toList = false) : x = y := by
  rw [ltCps_eq] at h1 h2
  exact str_of_cps (List.le_antisymm (of_decide_eq_false h2) (of_decide_eq_false h1))
theorem cps_trans {x y z : Str} (h1 : ltCps y.cps.toList x.cps.toList = false) (h2 : ltCps z.cps.toList y.cps.toList = false) : ltCps z.cps.toList x.cps.toList = false := by
  rw [ltCps_eq] at h1 h2 ⊢
  exact decide_eq_false (List.not_lt.mpr (List.le_trans (List.not_lt.mp (of_decide_eq_false h1)) (List.not_lt.mp (of_decide_eq_false h2))))
def Srt (xs : List Str) : Prop := xs.Pairwise fun a b => ltCps b.cps.toList a.cps.toList = false
theorem srt_rising : ∀ (p : Str) (l : List Str), risingS p l = true → Srt (p :: l)
  | p, [], _ => List.pairwise_singleton _ _
  | p, x :: r, h => by
    have h : (!ltCps x.cps.toList p.cps.toList && risingS x r) = true := h
    rw [Bool.and_eq_true] at h
    have h1 : ltCps x.cps.toList p.cps.toList = false := by simpa using h.1
    have ih := srt_rising x r h.2
    refine List.pairwise_cons.mpr ⟨fun y hy => ?_, ih⟩
    rcases List.mem_cons.mp hy with rfl | hy
    · exact h1
    · exact cps_trans h1 (List.rel_of_pairwise_cons ih hy)
theorem srt_of : ∀ {l : List Str}, sortedS l = true → Srt l
  | [], _ => List.Pairwise.nil
  | x :: r, h => srt_rising x r h
theorem srt_uniq : ∀ {xs ys : List Str}, Srt xs → Srt ys → xs.Nodup → ys.Nodup → (∀ x, x ∈ xs ↔ x ∈ ys) → xs = ys
  | [], [], _, _, _, _, _ => rfl
  | [], y :: ys, _, _, _, _, h => by
    have := (h y).mpr List.mem_cons_self
    cases this
  | x :: xs, [], _, _, _, _, h => by
    have := (h x).mp List.mem_cons_self
    cases this
  | x :: xs, y :: ys, s1, s2, n1, n2, h => by
    have e : x = y := by
      by_cases e : x = y
      · exact e
      · have h1 : x ∈ ys := (List.mem_cons.mp ((h x).mp List.mem_cons_self)).resolve_left e
        have h2 : y ∈ xs := (List.mem_cons.mp ((h y).mpr List.mem_cons_self)).resolve_left fun z => e z.symm
        exact cps_tot (List.rel_of_pairwise_cons s2 h1) (List.rel_of_pairwise_cons s1 h2)
    subst e
    obtain ⟨a1, b1⟩ := List.nodup_cons.mp n1
    obtain ⟨a2, b2⟩ := List.nodup_cons.mp n2
    rw [srt_uniq (List.pairwise_cons.mp s1).2 (List.pairwise_cons.mp s2).2 b1 b2 fun z => ?_]
    constructor
    · intro hz
      rcases List.mem_cons.mp ((h z).mp (List.mem_cons_of_mem _ hz)) with q | q
      · exact absurd (q ▸ hz) a1
      · exact q
    · intro hz
      rcases List.mem_cons.mp ((h z).mpr (List.mem_cons_of_mem _ hz)) with q | q
      · exact absurd (q ▸ hz) a2
      · exact q
/-! ### what can be reached, as a sorted list -/
structure Clo (ms : List Mak) (src : Str) (cs : List Str) : Prop where
  so : sortedS cs = true
  nd : cs.Nodup
  mem : ∀ f, f ∈ cs ↔ Rch ms src f
theorem Clo.uniq {ms : List Mak} {src : Str} {cs cs' : List Str} (h : Clo ms src cs) (h' : Clo ms src cs') : cs = cs' := srt_uniq (srt_of h.so) (srt_of h'.so) h.nd h'.nd fun f => (h.mem f).trans (h'.mem f).symm
open Classical in
noncomputable def clo (ms : List Mak) (src : Str) : List Str := if h : ∃ cs, Clo ms src cs then h.choose else []
theorem Clo.eq {ms : List Mak} {src : Str} {cs : List Str} (h : Clo ms src cs) : clo ms src = cs := by
  unfold clo
  have hh : ∃ cs, Clo ms src cs := ⟨cs, h⟩
  rw [dif_pos hh]
  exact hh.choose_spec.uniq h
theorem Rch.mono {ms ms' : List Mak} {src f : Str} (h : ∀ m ∈ ms, m ∈ ms') (r : Rch ms src f) : Rch ms' src f := by
  induction r with
  | nil => exact .nil
  | snoc _ hm ih => exact .snoc ih (h _ hm)
theorem Wk.mono {ms ms' : List Mak} {src f : Str} {l : Lab} (h : ∀ m ∈ ms, m ∈ ms') (r : Wk ms src l f) : Wk ms' src l f := by
  induction r with
  | nil => exact .nil
  | snoc _ hm e ih => exact .snoc ih (h _ hm) e
theorem Rch.wk {ms : List Mak} {src f : Str} (r : Rch ms src f) : ∃ l, Wk ms src l f := by
  induction r with
  | nil => exact ⟨_, .nil⟩
  | snoc _ hm ih =>
    obtain ⟨l, w⟩ := ih
    exact ⟨_, w.snoc hm rfl⟩
theorem Wk.rch {ms : List Mak} {src f : Str} {l : Lab} (r : Wk ms src l f) : Rch ms src f := by
  induction r with
  | nil => exact .nil
  | snoc _ hm e ih => exact .snoc (e ▸ ih) hm
theorem clo_congr {ms ms' : List Mak} {src : Str} (h : ∀ m, m ∈ ms ↔ m ∈ ms') : clo ms src = clo ms' src := by
  have e : Clo ms src = Clo ms' src := funext fun cs => propext ⟨fun q => ⟨q.so, q.nd, fun f => (q.mem f).trans ⟨Rch.mono fun m hm => (h m).mp hm, Rch.mono fun m hm => (h m).mpr hm⟩⟩, fun q => ⟨q.so, q.nd, fun f => (q.mem f).trans ⟨Rch.mono fun m hm => (h m).mpr hm, Rch.mono fun m hm => (h m).mp hm⟩⟩⟩
  unfold clo
  rw [e]
/-! ### the least labels, as sorted rows -/
structure Rows (ms : List Mak) (src : Str) (R : List (Str × Lab)) : Prop where
  so : sortedS (R.map (·.1)) = true
  mi : Min ms src R
theorem Rows.uniq {ms : List Mak} {src : Str} {R R' : List (Str × Lab)} (h : Rows ms src R) (h' : Rows ms src R') : R = R' := by
  have s1 := h.mi.sub h'.mi
  have s2 := h'.mi.sub h.mi
  have e : R.map (·.1) = R'.map (·.1) := srt_uniq (srt_of h.so) (srt_of h'.so) h.mi.nd h'.mi.nd fun f => ⟨fun q => by
    obtain ⟨p, hp, rfl⟩ := List.mem_map.mp q
    exact List.mem_map.mpr ⟨p, s1 p hp, rfl⟩, fun q => by
    obtain ⟨p, hp, rfl⟩ := List.mem_map.mp q
    exact List.mem_map.mpr ⟨p, s2 p hp, rfl⟩⟩
  have el : R.length = R'.length := by
    have := congrArg List.length e
    rwa [List.length_map, List.length_map] at this
  refine List.ext_getElem el fun i h1 h2 => ?_
  have k : (R[i]).1 = (R'[i]).1 := by
    have q := congrArg (fun l : List Str => l[i]?) e
    simp only [List.getElem?_map, List.getElem?_eq_getElem h1, List.getElem?_eq_getElem h2, Option.map_some] at q
    exact Option.some.inj q
  have m1 := s1 _ (List.getElem_mem h1)
  have m2 := List.getElem_mem h2
  generalize R[i] = p at *
  generalize R'[i] = p' at *
  obtain ⟨f, l⟩ := p
  obtain ⟨f', l'⟩ := p'
  have k : f = f' := k
  subst k
  rw [nd_at h'.mi.nd m1 m2]
open Classical in
noncomputable def rws (ms : List Mak) (src : Str) : List (Str × Lab) := if h : ∃ R, Rows ms src R then h.choose else []
theorem Rows.eq {ms : List Mak} {src : Str} {R : List (Str × Lab)} (h : Rows ms src R) : rws ms src = R := by
  unfold rws
  have hh : ∃ R, Rows ms src R := ⟨R, h⟩
  rw [dif_pos hh]
  exact hh.choose_spec.uniq h
theorem Min.congr {ms ms' : List Mak} {src : Str} {L : List (Str × Lab)} (h : ∀ m, m ∈ ms ↔ m ∈ ms') (q : Min ms src L) : Min ms' src L :=
  ⟨q.nd, fun p hp => (q.wk p hp).mono fun m hm => (h m).mp hm, fun l f w => q.mi l f (w.mono fun m hm => (h m).mpr hm)⟩
theorem rws_congr {ms ms' : List Mak} {src : Str} (h : ∀ m, m ∈ ms ↔ m ∈ ms') : rws ms src = rws ms' src := by
  have e : Rows ms src = Rows ms' src := funext fun R => propext ⟨fun q => ⟨q.so, q.mi.congr h⟩, fun q => ⟨q.so, q.mi.congr fun m => (h m).symm⟩⟩
  unfold rws
  rw [e]
/-! ### the answer -/
noncomputable def ctS (F : List Fo) (ms : List Mak) (src tgt : Str) (p : List Str × List (Str × List Str)) (f : Str) : List Str × List (Str × List Str) :=
  if tgt ∈ clo (fitM F ms (p.1 ++ [f])) src then (p.1 ++ [f], p.2) else (p.1, p.2 ++ [(f, clo (fitM F ms (p.1 ++ [f])) src)])
noncomputable def ctF (F : List Fo) (ms : List Mak) (src tgt : Str) (fs : List Str) : List Str × List (Str × List Str) := fs.foldl (ctS F ms src tgt) ([], [])
theorem ctF_snoc (F : List Fo) (ms : List Mak) (src tgt : Str) (fs : List Str) (f : Str) : ctF F ms src tgt (fs ++ [f]) = ctS F ms src tgt (ctF F ms src tgt fs) f := by
  unfold ctF
  rw [List.foldl_append]; rfl
def cutD (c : Str × List Str) : PyData := .tuple [.str c.1, strD c.2]
def rowD (r : Str × Lab) : PyData := .tuple [.str r.1, labD r.2]
def nsAt (R : List (Str × Lab)) (t : Str) : List Str := match R.find? (fun r => decide (r.1 = t)) with
  | some r => r.2.ns
  | none => []
theorem nsAt_of {R : List (Str × Lab)} (nd : (R.map (·.1)).Nodup) {t : Str} {l : Lab} (h : (t, l) ∈ R) : nsAt R t = l.ns := by
  unfold nsAt
  cases e : R.find? (fun r => decide (r.1 = t)) with
  | none =>
    have := List.find?_eq_none.mp e _ h
    simp at this
  | some r =>
    have h1 := List.mem_of_find?_eq_some e
    have h2 : r.1 = t := by simpa using List.find?_some e
    obtain ⟨f, l'⟩ := r
    have h2 : f = t := h2
    subst h2
    show l'.ns = l.ns
    rw [nd_at nd h1 h]
noncomputable def ansB (F : List Fo) (ms : List Mak) (src : Str) (fs : List Str) (tgt : Str) : PyData :=
  if tgt ∈ clo ms src then
    .tuple [.str "chain", strD (ctF F ms src tgt fs).1, strD (nsAt (rws (fitM F ms (ctF F ms src tgt fs).1) src) tgt), .tuple ((ctF F ms src tgt fs).2.map cutD), .tuple ((rws (fitM F ms (ctF F ms src tgt fs).1) src).map rowD)]
  else .tuple [.str "none", strD (clo ms src)]
theorem fitM_mem {F : List Fo} {ms ms' : List Mak} {fs : List Str} (h : ∀ m, m ∈ ms ↔ m ∈ ms') : ∀ m, m ∈ fitM F ms fs ↔ m ∈ fitM F ms' fs := fun m => by
  unfold fitM
  rw [List.mem_filter, List.mem_filter, h m]
theorem ctF_congr {F : List Fo} {ms ms' : List Mak} {src tgt : Str} (h : ∀ m, m ∈ ms ↔ m ∈ ms') (fs : List Str) : ctF F ms src tgt fs = ctF F ms' src tgt fs := by
  unfold ctF
  have e : ctS F ms src tgt = ctS F ms' src tgt := funext fun p => funext fun f => by
    unfold ctS
    rw [clo_congr (fitM_mem h)]
  rw [e]
theorem ansB_congr {F : List Fo} {ms ms' : List Mak} {src tgt : Str} {fs : List Str} (h : ∀ m, m ∈ ms ↔ m ∈ ms') : ansB F ms src fs tgt = ansB F ms' src fs tgt := by
  unfold ansB
  rw [ctF_congr h, clo_congr h, rws_congr (fitM_mem h)]
/-- every maker's ends are forms: without a feature all makers stay -/
theorem fitM_nil {F : List Fo} {ms : List Mak} (h : ∀ m ∈ ms, m.s ∈ F.map Fo.name ∧ m.t ∈ F.map Fo.name) : fitM F ms [] = ms := by
  unfold fitM
  refine List.filter_eq_self.mpr fun m hm => ?_
  have q : ∀ n ∈ F.map Fo.name, okFor F [] n = true := fun n hn => by
    obtain ⟨f, hf, rfl⟩ := List.mem_map.mp hn
    unfold okFor
    exact List.any_eq_true.mpr ⟨f, hf, by simp [hasAll]⟩
  rw [q _ (h m hm).1, q _ (h m hm).2]
  rfl
theorem fitM_sub {F : List Fo} {ms : List Mak} {fs : List Str} : ∀ m ∈ fitM F ms fs, m ∈ ms := fun m hm => (List.mem_filter.mp hm).1
theorem fitM_len {F : List Fo} {ms : List Mak} {fs : List Str} : (fitM F ms fs).length ≤ ms.length := List.length_filter_le _ _
end Vf
end
section
set_option Elab.async false
set_option linter.all false
set_option maxRecDepth 100000
set_option maxHeartbeats 4000000
namespace Vf
open PySem PySem.Spec PyProof.Rows L2 GxR GenW RZ
abbrev s_best : Stmt := top 22
abbrev n_best : List Str := ["forms", "makers", "source", "features", "target", "closed", "kept", "cuts", "feature", "labels", "form", "rows"]
abbrev p_best : List Str := ["forms", "makers", "source", "features", "target"]
theorem sc_best : FnScope n_best p_best (defScope s_best) := ⟨rfl, rfl, rfl, by decide +kernel, rfl, by decide +kernel, by decide +kernel⟩

/-! ### cuts and rows as they stand -/
inductive CtV (K : PySem.W.Frag) (H : Hp) : List V → List (Str × List Str) → Prop
  | nil : CtV K H [] []
  | cons {t q : Addr} {f : Str} {cs : List Str} {ys : List V} {C : List (Str × List Str)} : SqT K H t [.str f, .ref q] → SqT K H q (strV cs) → CtV K H ys C → CtV K H (.ref t :: ys) ((f, cs) :: C)
theorem CtV.kp {K : PySem.W.Frag} {H H' : Hp} {ys : List V} {C : List (Str × List Str)} (h : CtV K H ys C) (g : Kp K H H') : CtV K H' ys C := by
  induction h with
  | nil => exact .nil
  | cons h1 h2 _ ih => exact .cons (g.s _ _ h1) (g.s _ _ h2) ih
theorem CtV.snoc {K : PySem.W.Frag} {H : Hp} {ys : List V} {C : List (Str × List Str)} {t q : Addr} {f : Str} {cs : List Str} (h : CtV K H ys C) (h1 : SqT K H t [.str f, .ref q]) (h2 : SqT K H q (strV cs)) : CtV K H (ys ++ [.ref t]) (C ++ [(f, cs)]) := by
  induction h with
  | nil => exact .cons h1 h2 .nil
  | cons a1 a2 _ ih => exact .cons a1 a2 ih
theorem CtV.len {K : PySem.W.Frag} {H : Hp} {ys : List V} {C : List (Str × List Str)} (h : CtV K H ys C) : ys.length = C.length := by
  induction h with
  | nil => rfl
  | cons _ _ _ ih => rw [List.length_cons, List.length_cons, ih]
theorem dd_strA {K : PySem.W.Frag} {H : Hp} : ∀ ns : List Str, DdAll K H (strV ns) (ns.map PyData.str)
  | [] => .nil
  | n :: ns => .cons (.str n) (dd_strA ns)
theorem dd_stT {K : PySem.W.Frag} {H : Hp} {q : Addr} {ns : List Str} (h : SqT K H q (strV ns)) : Dd K H (.ref q) (strD ns) := .tup h (dd_strA ns)
theorem LabV.dd {K : PySem.W.Frag} {H : Hp} {a : Addr} {l : Lab} (h : LabV K H a l) : Dd K H (.ref a) (labD l) := by
  obtain ⟨n, h1, h2⟩ := h
  exact .tup h1 (.cons (.int _) (.cons (.int _) (.cons (dd_stT h2) .nil)))
theorem CtV.dd {K : PySem.W.Frag} {H : Hp} {ys : List V} {C : List (Str × List Str)} (h : CtV K H ys C) : DdAll K H ys (C.map cutD) := by
  induction h with
  | nil => exact .nil
  | cons h1 h2 _ ih => exact .cons (.tup h1 (.cons (.str _) (.cons (dd_stT h2) .nil))) ih
inductive RwV (K : PySem.W.Frag) (H : Hp) : List V → List (Str × Lab) → Prop
  | nil : RwV K H [] []
  | cons {t a : Addr} {f : Str} {l : Lab} {ys : List V} {R : List (Str × Lab)} : SqT K H t [.str f, .ref a] → LabV K H a l → RwV K H ys R → RwV K H (.ref t :: ys) ((f, l) :: R)
theorem RwV.kp {K : PySem.W.Frag} {H H' : Hp} {ys : List V} {R : List (Str × Lab)} (h : RwV K H ys R) (g : Kp K H H') : RwV K H' ys R := by
  induction h with
  | nil => exact .nil
  | cons h1 h2 _ ih => exact .cons (g.s _ _ h1) (h2.kp g) ih
theorem RwV.snoc {K : PySem.W.Frag} {H : Hp} {ys : List V} {R : List (Str × Lab)} {t a : Addr} {f : Str} {l : Lab} (h : RwV K H ys R) (h1 : SqT K H t [.str f, .ref a]) (h2 : LabV K H a l) : RwV K H (ys ++ [.ref t]) (R ++ [(f, l)]) := by
  induction h with
  | nil => exact .cons h1 h2 .nil
  | cons a1 a2 _ ih => exact .cons a1 a2 ih
theorem RwV.len {K : PySem.W.Frag} {H : Hp} {ys : List V} {R : List (Str × Lab)} (h : RwV K H ys R) : ys.length = R.length := by
  induction h with
  | nil => rfl
  | cons _ _ _ ih => rw [List.length_cons, List.length_cons, ih]
theorem RwV.dd {K : PySem.W.Frag} {H : Hp} {ys : List V} {R : List (Str × Lab)} (h : RwV K H ys R) : DdAll K H ys (R.map rowD) := by
  induction h with
  | nil => exact .nil
  | cons h1 h2 _ ih => exact .cons (.tup h1 (.cons (.str _) (.cons h2.dd .nil))) ih
theorem inV_strV {x : Str} {l : List Str} : inV (.str x) (strV l) = decide (x ∈ l) := by
  by_cases h : x ∈ l
  · rw [decide_eq_true h]; exact inV_str.mpr h
  · rw [decide_eq_false h]
    exact Bool.eq_false_iff.mpr fun z => h (inV_str.mp z)
theorem strV_snoc (xs : List Str) (f : Str) : strV (xs ++ [f]) = strV xs ++ [V.str f] := by
  unfold strV
  rw [List.map_append]; rfl
theorem strV_len (xs : List Str) : (strV xs).length = xs.length := List.length_map _
theorem le_sz {n : Nat} (h : n ≤ 10000) : n ≤ sizeLine := by rw [sizeLine_eq]; omega
theorem Gr.keep' {H H' : Hp} (g : Gr H H') {d : Addr} {kvs : List (Key × V)} (h : H d = some (.dK kvs)) : H' d = some (.dK kvs) := g.keep h (fun _ z => by cases z)
def labAt (L : List (Str × Lab)) (n : Str) : Lab := match L.find? (fun r => decide (r.1 = n)) with
  | some r => r.2
  | none => Lab.zero
theorem labAt_of {R : List (Str × Lab)} (nd : (R.map (·.1)).Nodup) {t : Str} {l : Lab} (h : (t, l) ∈ R) : labAt R t = l := by
  unfold labAt
  cases e : R.find? (fun r => decide (r.1 = t)) with
  | none =>
    have := List.find?_eq_none.mp e _ h
    simp at this
  | some r =>
    have h1 := List.mem_of_find?_eq_some e
    have h2 : r.1 = t := by simpa using List.find?_some e
    obtain ⟨f, l'⟩ := r
    have h2 : f = t := h2
    subst h2
    show l' = l
    rw [nd_at nd h1 h]
def rowsL (L : List (Str × Lab)) (nm : List Str) : List (Str × Lab) := nm.map fun n => (n, labAt L n)
theorem rowsL_mem {L : List (Str × Lab)} {nm : List Str} (nd : (L.map (·.1)).Nodup) (pm : nm.Perm (L.map (·.1))) (p : Str × Lab) : p ∈ rowsL L nm ↔ p ∈ L := by
  constructor
  · intro h
    obtain ⟨n, hn, rfl⟩ := List.mem_map.mp h
    obtain ⟨⟨n', l⟩, hp, rfl⟩ := List.mem_map.mp (pm.mem_iff.mp hn)
    rw [labAt_of nd hp]; exact hp
  · intro h
    obtain ⟨n, l⟩ := p
    exact List.mem_map.mpr ⟨n, pm.mem_iff.mpr (List.mem_map.mpr ⟨_, h, rfl⟩), by rw [labAt_of nd h]⟩
theorem rowsL_fst {L : List (Str × Lab)} {nm : List Str} : (rowsL L nm).map (·.1) = nm := by
  unfold rowsL
  rw [List.map_map]
  exact List.map_id _
theorem rowsL_of {ms : List Mak} {src : Str} {L : List (Str × Lab)} {nm : List Str} (mi : Min ms src L) (pm : nm.Perm (L.map (·.1))) (so : sortedS nm = true) : Rows ms src (rowsL L nm) := by
  refine ⟨by rw [rowsL_fst]; exact so, ⟨by rw [rowsL_fst]; exact pm.nodup_iff.mpr mi.nd, fun p hp => mi.wk p ((rowsL_mem mi.nd pm p).mp hp), fun l f w => ?_⟩⟩
  obtain ⟨l', h1, h2⟩ := mi.mi l f w
  exact ⟨l', (rowsL_mem mi.nd pm _).mpr h1, h2⟩
theorem LbV.fst {K : PySem.W.Frag} {H : Hp} {kvs : List (Key × V)} {L : List (Str × Lab)} (h : LbV K H kvs L) : kvs.map (·.1) = (L.map (·.1)).map Sum.inr := by
  induction h with
  | nil => rfl
  | cons _ _ ih => rw [List.map_cons, ih]; rfl
def spBest (K : PySem.W.Frag) : Sp := fun vs H Q _ => ∃ (d a b : Addr) (kvs : List (Key × V)) (F : List Fo) (xs : List V) (ms : List Mak) (src tgt : Str) (fs : List Str), vs = [.ref d, .ref a, .str src, .ref b, .str tgt] ∧ H d = some (.dK kvs) ∧ KB K Fo.name foV H kvs F ∧ (F.map Fo.name).Nodup ∧ F.length ≤ 100 ∧ SqT K H a xs ∧ RB K makV H xs ms ∧ ms.length ≤ 60 ∧ (∀ m ∈ ms, 0 ≤ m.c) ∧ (∀ m ∈ ms, m.s ∈ F.map Fo.name ∧ m.t ∈ F.map Fo.name) ∧ SqT K H b (strV fs) ∧ fs.length ≤ 100 ∧ TabG H (tb K "contains") ∧
  ∀ p H', Gr H H' → Dd K H' (.ref p) (ansB F ms src fs tgt) → Q (.ref p) H'
section
variable {P : Program} {w : World} {K : PySem.W.Frag} {mg : Str → Option Value} {base : Heap}
theorem ok_best {fd : FuncData} (F : FnP K "best" s_best fd) (T : TD K mg) (D_reached : Df P w K mg base "reached" 1 p_reached (spReached K)) (D_carrying : Df P w K mg base "carrying" 3 p_carrying (spCarrying K)) (D_least_labels : Df P w K mg base "least_labels" 2 p_least_labels (spLeast K)) : FnOk P w K mg base CX0 4 (He.fAd K ("best", none)) fd p_best (spBest K) := by
  refine okP F sc_best (fun vs H Q E h => by obtain ⟨d, a, b, kvs, F, xs, ms, src, tgt, fs, rfl, _⟩ := h; rfl) (fun A outer s H vs Q E hr h => ?_)
  obtain ⟨d, a, b, kvs, F, xs, ms, src, tgt, fs, rfl, hd, hK, nd, hF, hS, hR, hl, h0, hin, hb, hfs, hT, k⟩ := h
  refine ⟨_, (pss_cons (ps_set (i := 5) sc_best.nd rfl (by first | exact Or.inl rfl | exact Or.inr rfl) (pe_fn D_reached hr (by decide) rfl (pa_cons (pv 1) (pa_cons (pe_tup (pa_cons (pv 2) pa_nil)) pa_nil))))
      (pss_cons (ps_if (pt_cmpR (u_ni (K := K) rfl) (pv 4) (pv 5) (by first | exact nomark _ | rfl))
      (pss_one (ps_ret (pe_tup (pa_cons pe_str (pa_cons (pv 5) pa_nil)))))
      pss_nil)
      (pss_cons (ps_set (i := 6) sc_best.nd rfl (by first | exact Or.inl rfl | exact Or.inr rfl) (pe_tup pa_nil))
      (pss_cons (ps_set (i := 7) sc_best.nd rfl (by first | exact Or.inl rfl | exact Or.inr rfl) (pe_lst pa_nil))
      (pss_cons (ps_for PassesOwn.never rfl (k_tup (K := K) rfl (pv 3)) (pg_name (i := 8) sc_best.nd rfl (by first | exact Or.inl rfl | exact Or.inr rfl))
      (pss_cons (ps_set (i := 5) sc_best.nd rfl (by first | exact Or.inl rfl | exact Or.inr rfl) (pe_fn D_reached hr (by decide) rfl (pa_cons (pe_fn D_carrying hr (by decide) rfl (pa_cons (pv 0) (pa_cons (pv 1) (pa_cons (pe_tup (pa_starD (K := K) rfl rfl (pv 6) (pa_cons (pv 8) pa_nil))) pa_nil)))) (pa_cons (pe_tup (pa_cons (pv 2) pa_nil)) pa_nil))))
      (pss_one (ps_if (pt_cmpR (u_in (K := K) rfl) (pv 4) (pv 5) (by first | exact nomark _ | rfl))
      (pss_one (ps_set (i := 6) sc_best.nd rfl (by first | exact Or.inl rfl | exact Or.inr rfl) (pe_tup (pa_starD (K := K) rfl rfl (pv 6) (pa_cons (pv 8) pa_nil)))))
      (pss_one (ps_expr (k_bm (K := K) rfl PySem.F.plainAttrs_list PySem.F.slot_list_append PySem.F.type_list_append mt_append (pv 7) (pa_cons (pe_tup (pa_cons (pv 8) (pa_cons (pv 5) pa_nil))) pa_nil))))))))
      (pss_cons (ps_set (i := 9) sc_best.nd rfl (by first | exact Or.inl rfl | exact Or.inr rfl) (pe_fn D_least_labels hr (by decide) rfl (pa_cons (pe_fn D_carrying hr (by decide) rfl (pa_cons (pv 0) (pa_cons (pv 1) (pa_cons (pv 6) pa_nil)))) (pa_cons (pe_tup (pa_cons (pv 2) pa_nil)) pa_nil))))
      (pss_cons (ps_set (i := 11) sc_best.nd rfl (by first | exact Or.inl rfl | exact Or.inr rfl) (k_tuple (K := K) rfl rfl T.b_tuple (pe_lc (own := [("form", 10)]) (g := gName 10) (tt := tYes) rfl sc_best.nd (k_list (K := K) rfl (pe_callB (call_sortedD rfl) rfl T.b_sorted (by decide +kernel) (pa_cons (pv 9) pa_nil))) (blkOk_by (own := [("form", 10)]) (N := n_best) (sc := defScope s_best) (by decide +kernel)) (fun _ _ _ _ _ => (pg_name (i := 10) sc_best.nd rfl (by first | exact Or.inl rfl | exact Or.inr rfl))) (fun _ _ _ _ _ => pts_nil) (fun _ _ _ _ _ => (pe_tup (pa_cons (pv 10) (pa_cons (pe_dget (hu_of hr) (pv 9) (pv 10) (fun _ _ => rfl)) pa_nil)))))))
      (pss_one (ps_ret (pe_tup (pa_cons pe_str (pa_cons (pv 6) (pa_cons (pe_ix (u_ix (K := K) rfl) (pe_dget (hu_of hr) (pv 9) (pv 4) (fun _ _ => rfl)) pe_int (fun _ _ => rfl)) (pa_cons (k_tuple (K := K) rfl rfl T.b_tuple (pv 7)) (pa_cons (pv 11) pa_nil))))))))))))))), ?_⟩
  refine ⟨_, rfl, _, rfl, by rw [sizeLine_eq]; exact Nat.le_trans (show 1 ≤ 1 from Nat.le_refl _) (by decide), fun p0 hp0 => ?_⟩
  refine newH hp0 fun H0 g0 s0 => ?_
  refine ⟨a, p0, xs, ms, src, true, rfl, g0.seqT hS, hR.gr g0, hl, SqT.of s0, fun p cs H1 g1 sp so ndc mem => ?_⟩
  have hc : Clo ms src cs := ⟨so, ndc, mem⟩
  have ec := hc.eq
  refine ⟨_, rfl, _, rfl, ni_seq (.inr sp) rfl (strV_flat cs) ⟨_, rfl, ?_⟩⟩
  rw [inV_strV]
  refine ite2 (fun hn => ?_) (fun hn => ?_)
  · refine ⟨_, rfl, le_sz (show 2 ≤ 10000 by omega), fun q hq => ?_⟩
    refine newH hq fun H2 g2 s2 => ?_
    refine k q H2 ((g0.trans g1).trans g2) ?_
    have hn : tgt ∉ cs := by simpa using hn
    unfold ansB
    rw [ec, if_neg hn]
    exact .tup (SqT.of s2) (.cons (.str _) (.cons (dd_stT (g2.seqT sp)) .nil))
  have hn : tgt ∈ cs := by simpa using hn
  have hcl : tgt ∈ clo (fitM F ms []) src := by rw [fitM_nil hin, ec]; exact hn
  refine ⟨le_sz (Nat.zero_le _), fun k0 hk0 => ?_⟩
  refine newH hk0 fun H2 g2 s2 => ?_
  refine ⟨le_sz (Nat.zero_le _), fun W hW => ?_⟩
  have hWf : H W = none := ((g0.trans g1).trans g2).free hW
  refine newH hW fun H3 g3 s3 => ?_
  have G3 := ((g0.trans g1).trans g2).trans g3
  refine ⟨_, rfl, b, rfl, ⟨_, G3.seqT hb⟩, ?_⟩
  refine for_tup (K := K) (a := b) (xs := strV fs) (fun i σ H' => ∃ (o5 o8 : Option V) (kq : Addr) (ys : List V), σ = [some (.ref d), some (.ref a), some (.str src), some (.ref b), some (.str tgt), o5, some (.ref kq), some (.ref W), o8, none, none, none] ∧ Gr H H' ∧ SqT K H' kq (strV (ctF F ms src tgt (fs.take i)).1) ∧ H' W = some (.lst ys) ∧ CtV K H' ys (ctF F ms src tgt (fs.take i)).2 ∧ (ctF F ms src tgt (fs.take i)).1.length ≤ i ∧ (ctF F ms src tgt (fs.take i)).2.length ≤ i ∧ tgt ∈ clo (fitM F ms (ctF F ms src tgt (fs.take i)).1) src)
    ⟨_, none, k0, [], rfl, G3, g3.seqT (SqT.of s2), s3, .nil, Nat.le_refl _, Nat.le_refl _, hcl⟩ ?_ ?_ ?_
  · rintro i σ H' _ ⟨o5, o8, kq, ys, rfl, g, _⟩
    exact g.seqT hb
  · rintro i x σ H4 hx ⟨o5, o8, kq, ys, rfl, g4, sk, hW4, hC, lk, lc, ht⟩
    have il : i < fs.length := by
      have := (List.getElem?_eq_some_iff.mp hx).1
      rwa [strV_len] at this
    obtain ⟨f, hf, rfl⟩ : ∃ f, fs[i]? = some f ∧ x = .str f := by
      refine ⟨fs[i], List.getElem?_eq_getElem il, ?_⟩
      unfold strV at hx
      rw [List.getElem?_map, List.getElem?_eq_getElem il] at hx
      exact (Option.some.inj hx).symm
    rw [take_snoc hf, ctF_snoc]
    generalize ctF F ms src tgt (fs.take i) = pp at *
    obtain ⟨kept, cuts⟩ := pp
    have lk : kept.length ≤ i := lk
    have lc : cuts.length ≤ i := lc
    have ht : tgt ∈ clo (fitM F ms kept) src := ht
    have sk : SqT K H4 kq (strV kept) := sk
    have hC : CtV K H4 ys cuts := hC
    dsimp only [gName, tSeq]
    refine ⟨_, rfl, _, rfl, _, rfl, kq, _, rfl, ⟨.inl sk⟩, _, rfl, ?_⟩
    refine ⟨le_sz (by rw [List.length_append, strV_len]; show _ + 1 ≤ _; omega), fun q hq => ?_⟩
    refine newH hq fun H5 g5 s5 => ?_
    have G5 := g4.trans g5
    have s5 : SqT K H5 q (strV (kept ++ [f])) := by rw [strV_snoc]; exact SqT.of s5
    refine ⟨d, a, q, kvs, F, xs, ms, kept ++ [f], rfl, G5.keep' hd, hK.gr G5, nd, hF, G5.seqT hS, hR.gr G5, by omega, s5, G5.tabG hT, fun l ys' H6 g6 hl6 hR6 => ?_⟩
    refine ⟨_, rfl, le_sz (show 1 ≤ 10000 by omega), fun p1 hp1 => ?_⟩
    refine newH hp1 fun H7 g7 s7 => ?_
    have fl := fitM_len (F := F) (ms := ms) (fs := kept ++ [f])
    refine ⟨l, p1, ys', fitM F ms (kept ++ [f]), src, false, rfl, SqL.of (g7.lst hl6), hR6.gr g7, by omega, SqT.of s7, fun p cs2 H8 g8 sp2 so2 nd2 mem2 => ?_⟩
    have ec2 := (Clo.mk so2 nd2 mem2).eq
    have G8 := ((G5.trans g6).trans g7).trans g8
    have sk8 := (((g5.trans g6).trans g7).trans g8).seqT sk
    have hW8 := ((((g5.trans g6).trans g7).trans g8).lst hW4)
    have hC8 := hC.kp (Kp.gr (((g5.trans g6).trans g7).trans g8))
    refine ⟨_, rfl, _, rfl, in_seq (.inr sp2) rfl (strV_flat cs2) ⟨_, rfl, ?_⟩⟩
    rw [inV_strV]
    unfold ctS
    rw [ec2]
    refine ite2 (fun hn => ?_) (fun hn => ?_)
    · have hn : tgt ∈ cs2 := by simpa using hn
      rw [if_pos hn]
      refine ⟨_, rfl, kq, _, rfl, ⟨.inl sk8⟩, _, rfl, le_sz (by rw [List.length_append, strV_len]; show _ + 1 ≤ _; omega), fun q2 hq2 => ?_⟩
      refine newH hq2 fun H9 g9 s9 => ?_
      refine ⟨_, _, q2, ys, rfl, G8.trans g9, ?_, g9.lst hW8, hC8.kp (Kp.gr g9), ?_, Nat.le_succ_of_le lc, ?_⟩
      · show SqT K H9 q2 (strV (kept ++ [f]))
        rw [strV_snoc]
        exact SqT.of s9
      · show (kept ++ [f]).length ≤ i + 1
        rw [List.length_append]
        exact Nat.succ_le_succ lk
      · show tgt ∈ clo (fitM F ms (kept ++ [f])) src
        rw [ec2]; exact hn
    · have hn : tgt ∉ cs2 := by simpa using hn
      rw [if_neg hn]
      refine ⟨_, rfl, .inl ⟨rfl, _, SqL.of hW8⟩, ?_⟩
      refine ⟨_, rfl, _, rfl, le_sz (show 2 ≤ 10000 by omega), fun t ht' => ?_⟩
      refine newH ht' fun H9 g9 s9 => ?_
      have hW9 := g9.lst hW8
      refine ⟨W, _, _, rfl, rfl, hW9, by rw [hC.len, sizeLine_eq]; show cuts.length < _; omega, ?_⟩
      have kp9 : Kp K H9 (upd H9 W (.lst (ys ++ [.ref t]))) := Kp.lst hW9
      refine ⟨_, _, kq, _, rfl, (G8.trans g9).upd' hWf, kp9.s _ _ (g9.seqT sk8), upd_same, ?_, Nat.le_succ_of_le lk, ?_, ht⟩
      · exact ((hC8.kp (Kp.gr g9)).kp kp9).snoc (kp9.s _ _ (SqT.of s9)) (kp9.s _ _ (g9.seqT sp2))
      · show (cuts ++ [_]).length ≤ i + 1
        rw [List.length_append]
        exact Nat.succ_le_succ lc
  · rintro σ H4 ⟨o5, o8, kq, ys, rfl, g4, sk, hW4, hC, lk, lc, ht⟩
    rw [strV_len, List.take_length] at sk hC lk lc ht
    have ea : ansB F ms src fs tgt = .tuple [.str "chain", strD (ctF F ms src tgt fs).1, strD (nsAt (rws (fitM F ms (ctF F ms src tgt fs).1) src) tgt), .tuple ((ctF F ms src tgt fs).2.map cutD), .tuple ((rws (fitM F ms (ctF F ms src tgt fs).1) src).map rowD)] := by
      unfold ansB
      rw [if_pos (by rw [ec]; exact hn)]
    rw [ea] at k
    clear ea
    generalize ctF F ms src tgt fs = pp at *
    obtain ⟨kept, cuts⟩ := pp
    have lk : kept.length ≤ fs.length := lk
    have lc : cuts.length ≤ fs.length := lc
    have ht : tgt ∈ clo (fitM F ms kept) src := ht
    have sk : SqT K H4 kq (strV kept) := sk
    have hC : CtV K H4 ys cuts := hC
    have k : ∀ (p : Addr) (H' : Hp), Gr H H' → Dd K H' (V.ref p) (.tuple [.str "chain", strD kept, strD (nsAt (rws (fitM F ms kept) src) tgt), .tuple (cuts.map cutD), .tuple ((rws (fitM F ms kept) src).map rowD)]) → Q (V.ref p) H' := k
    dsimp only [gName, tSeq]
    refine ⟨_, rfl, _, rfl, _, rfl, ?_⟩
    refine ⟨d, a, kq, kvs, F, xs, ms, kept, rfl, g4.keep' hd, hK.gr g4, nd, hF, g4.seqT hS, hR.gr g4, by omega, sk, g4.tabG hT, fun l ys' H6 g6 hl6 hR6 => ?_⟩
    refine ⟨_, rfl, le_sz (show 1 ≤ 10000 by omega), fun p1 hp1 => ?_⟩
    refine newH hp1 fun H7 g7 s7 => ?_
    have fl := fitM_len (F := F) (ms := ms) (fs := kept)
    refine ⟨l, p1, ys', fitM F ms kept, src, false, rfl, SqL.of (g7.lst hl6), hR6.gr g7, by omega, fun m hm => h0 m (fitM_sub m hm), SqT.of s7, fun D H8 kvs2 L g8 frD hD8 hL8 mi ln => ?_⟩
    have G8 := ((g4.trans g6).trans g7).trans g8
    have sk8 := ((g6.trans g7).trans g8).seqT sk
    have hW8 := ((g6.trans g7).trans g8).lst hW4
    have hC8 := hC.kp (Kp.gr ((g6.trans g7).trans g8))
    refine ⟨_, rfl, D, kvs2, L.map (·.1), rfl, .inl hD8, hL8.fst, by rw [List.length_map]; omega, fun nm LL pm so hLL => ?_⟩
    have nml : nm.length ≤ 61 := by
      have := pm.length_eq
      rw [List.length_map] at this
      omega
    have rw1 := rowsL_of mi pm so
    have ndm := pm.nodup_iff.mpr mi.nd
    have hpt : (tgt, labAt L tgt) ∈ L := by
      obtain ⟨l, w⟩ : ∃ l, Wk (fitM F ms kept) src l tgt := by
        have he : ∃ cs, Clo (fitM F ms kept) src cs := by
          by_cases z : ∃ cs, Clo (fitM F ms kept) src cs
          · exact z
          · unfold clo at ht
            rw [dif_neg z] at ht
            cases ht
        obtain ⟨cs', hcs⟩ := he
        rw [hcs.eq] at ht
        exact ((hcs.mem tgt).mp ht).wk
      obtain ⟨l', h1, _⟩ := mi.mi l tgt w
      rw [labAt_of mi.nd h1]
      exact h1
    rw [rw1.eq, nsAt_of rw1.mi.nd ((rowsL_mem mi.nd pm _).mpr hpt)] at k
    refine newH hLL fun H9 g9 s9 => ?_
    have s9 : H9 LL = some (.lst (strV nm)) := s9
    refine ⟨LL, rfl, ⟨_, SqL.of s9⟩, fun D2 hD2 => ?_⟩
    refine lc_list (K := K) (a := LL) (xs := strV nm) (fun i H' => Gr H9 H' ∧ ∃ ys2, H' D2 = some (.lst ys2) ∧ RwV K H' ys2 (rowsL L (nm.take i))) ⟨Gr.new hD2, [], upd_same, .nil⟩ ?_ ?_ ?_
    · rintro i H' _ ⟨g, _⟩
      exact SqL.of (g.lst s9)
    · rintro i x H' hx ⟨g, ys2, hD2', hY⟩
      have il : i < nm.length := by
        have := (List.getElem?_eq_some_iff.mp hx).1
        rwa [strV_len] at this
      obtain ⟨n, hn', rfl⟩ : ∃ n, nm[i]? = some n ∧ x = .str n := by
        refine ⟨nm[i], List.getElem?_eq_getElem il, ?_⟩
        unfold strV at hx
        rw [List.getElem?_map, List.getElem?_eq_getElem il] at hx
        exact (Option.some.inj hx).symm
      have hmn : n ∈ L.map (·.1) := pm.mem_iff.mp (List.mem_of_getElem? hn')
      obtain ⟨⟨n', l⟩, hp, e⟩ := List.mem_map.mp hmn
      have e : n' = n := e
      subst e
      have hL9 := hL8.gr (g9.trans g)
      obtain ⟨la, e1, lV⟩ := hL9.at mi.nd hp
      have hDk := (g9.trans g).keep' hD8
      refine ⟨rfl, ?_⟩
      refine ⟨_, rfl, _, rfl, _, rfl, D, _, rfl, e1 ▸ DGet.k (k := Sum.inr n') hDk, le_sz (show 2 ≤ 10000 by omega), fun t ht' => ?_⟩
      refine newH ht' fun H10 g10 s10 => ?_
      have hD10 := g10.lst hD2'
      have kp := Kp.lst (K := K) (o := .lst (ys2 ++ [V.ref t])) hD10
      refine ⟨ys2, hD10, by rw [hY.len, sizeLine_eq]; unfold rowsL; rw [List.length_map, List.length_take]; omega, (g.trans g10).upd' hD2, _, upd_same, ?_⟩
      rw [take_snoc hn']
      unfold rowsL
      rw [List.map_append]
      refine RwV.snoc ((hY.kp (Kp.gr g10)).kp kp) (a := la) (kp.s _ _ (SqT.of s10)) ?_
      rw [labAt_of mi.nd hp]
      exact (lV.gr g10).kp kp
    · rintro H10 ⟨g10, ys2, hD2', hY⟩
      rw [strV_len, List.take_length] at hY
      refine ⟨.inl ⟨D2, _, rfl, SqL.of hD2', fun t2 ht2 => ?_⟩⟩
      refine newH ht2 fun H11 g11 s11 => ?_
      have G11 := (g9.trans g10).trans g11
      obtain ⟨la, e1, n, lV1, lV2⟩ := (hL8.gr G11).at mi.nd hpt
      refine ⟨_, rfl, _, rfl, _, rfl, D, _, rfl, e1 ▸ DGet.k (k := Sum.inr tgt) (G11.keep' hD8), x_t lV1 rfl ⟨_, rfl, ⟨.inl ⟨W, _, rfl, SqL.of (G11.lst hW8), fun t3 ht3 => ?_⟩⟩⟩⟩
      refine newH ht3 fun H12 g12 s12 => ?_
      refine ⟨_, rfl, le_sz (show 5 ≤ 10000 by omega), fun q hq => ?_⟩
      refine newH hq fun H13 g13 s13 => ?_
      have G13 := g12.trans g13
      refine k q H13 ((G8.trans G11).trans G13) (.tup (SqT.of s13) (.cons (.str _) (.cons (dd_stT ((G11.trans G13).seqT sk8)) (.cons (dd_stT (G13.seqT lV2)) (.cons (.tup (g13.seqT (SqT.of s12)) ?_) (.cons (.tup (G13.seqT (SqT.of s11)) ?_) .nil))))))
      · exact (hC8.kp (Kp.gr (G11.trans G13))).dd
      · exact (hY.kp (Kp.gr (g11.trans G13))).dd
end
end Vf
end
section
set_option Elab.async false
set_option linter.all false
set_option maxRecDepth 100000
set_option maxHeartbeats 4000000
namespace Vf
open PySem PySem.Spec PyProof.Rows L2 GxR GenW RZ
abbrev s__law_within : Stmt := top 48
abbrev n__law_within : List Str := ["some", "features", "feature"]
abbrev p__law_within : List Str := ["some", "features"]
theorem sc__law_within : FnScope n__law_within p__law_within (defScope s__law_within) := ⟨rfl, rfl, rfl, by decide +kernel, rfl, by decide +kernel, by decide +kernel⟩

abbrev s__law_fit : Stmt := top 49
abbrev n__law_fit : List Str := ["forms", "makers", "features", "found", "maker", "both"]
abbrev p__law_fit : List Str := ["forms", "makers", "features"]
theorem sc__law_fit : FnScope n__law_fit p__law_fit (defScope s__law_fit) := ⟨rfl, rfl, rfl, by decide +kernel, rfl, by decide +kernel, by decide +kernel⟩

def layS (x : Str) : Bool := PyData.canLay0 (.str x)
def spWithin (K : PySem.W.Frag) : Sp := fun vs H Q _ => ∃ (a b : Addr) (xs ys : List Str), vs = [.ref a, .ref b] ∧ SqT K H a (strV xs) ∧ SqT K H b (strV ys) ∧ xs.length ≤ 1000 ∧ (∀ x ∈ xs, layS x = true) ∧ ∀ H', Gr H H' → Q (.bl (hasAll ys xs)) H'
theorem dp_strA {K : PySem.W.Frag} {H : Hp} : ∀ ns : List Str, DpAll K H (strV ns) (ns.map PyData.str)
  | [] => .nil
  | n :: ns => .cons (.str n) (dp_strA ns)
theorem strs_can : ∀ {ns : List Str}, (∀ n ∈ ns, layS n = true) → PyData.canLayAll0 (ns.map PyData.str) = true
  | [], _ => by simp [PyData.canLayAll0]
  | n :: ns, h => by
    have h1 : PyData.canLay0 (.str n) = true := h n List.mem_cons_self
    have h2 := strs_can fun x hx => h x (List.mem_cons_of_mem _ hx)
    rw [List.map_cons]
    show (PyData.canLay0 (.str n) && PyData.canLayAll0 (ns.map PyData.str)) = true
    rw [h1, h2]; rfl
theorem strs_shaped {ns : List Str} (h : ∀ n ∈ ns, layS n = true) : SeqAt.shaped (.list (ns.map PyData.str)) = true := by
  have h1 : PyData.canLay0 (.list (ns.map PyData.str)) = true := strs_can h
  have h2 := strs_depth ns
  unfold SeqAt.shaped
  rw [h1, decide_eq_true (by simp [PyData.depth]; omega)]; rfl
section
variable {P : Program} {w : World} {K : PySem.W.Frag} {mg : Str → Option Value} {base : Heap}
theorem ok_within {fd : FuncData} (F : FnP K "_law_within" s__law_within fd) (T : TD K mg) : FnOk P w K mg base CX0 1 (He.fAd K ("_law_within", none)) fd p__law_within (spWithin K) := by
  refine okP F sc__law_within (fun vs H Q E h => by obtain ⟨a, b, xs, ys, rfl, _⟩ := h; rfl) (fun A outer s H vs Q E hr h => ?_)
  obtain ⟨a, b, xs, ys, rfl, hA, hB, hl, hy, k⟩ := h
  refine ⟨_, (pss_one (ps_ret (pe_cmpR (u_eq (K := K) rfl hr.units) (pe_lc (own := [("feature", 2)]) (g := gName 2) rfl sc__law_within.nd (k_tup (K := K) rfl (pv 0)) (blkOk_by (own := [("feature", 2)]) (N := n__law_within) (sc := defScope s__law_within) (by decide +kernel)) (fun _ _ _ _ _ => (pg_name (i := 2) sc__law_within.nd rfl (by first | exact Or.inl rfl | exact Or.inr rfl))) (fun _ _ _ _ _ => (pts_one (pt_cmpR (u_ni (K := K) rfl) (pv 2) (pv 1) (by first | exact nomark _ | rfl)))) (fun _ _ _ _ _ => (pv 2))) (pe_lst pa_nil) (nomark _)))), ?_⟩
  refine ⟨_, rfl, a, rfl, ⟨_, hA⟩, fun D hD => ?_⟩
  refine lc_tup (K := K) (a := a) (xs := strV xs) (fun i H' => Gr H H' ∧ H' D = some (.lst (strV ((xs.take i).filter fun x => !decide (x ∈ ys))))) ⟨Gr.new hD, upd_same⟩ ?_ ?_ ?_
  · rintro i H' _ ⟨g, _⟩
    exact g.seqT hA
  · rintro i x H' hx ⟨g, hD'⟩
    have il : i < xs.length := by
      have := (List.getElem?_eq_some_iff.mp hx).1
      rwa [strV_len] at this
    obtain ⟨f, hf, rfl⟩ : ∃ f, xs[i]? = some f ∧ x = .str f := by
      refine ⟨xs[i], List.getElem?_eq_getElem il, ?_⟩
      unfold strV at hx
      rw [List.getElem?_map, List.getElem?_eq_getElem il] at hx
      exact (Option.some.inj hx).symm
    refine ⟨rfl, ?_⟩
    refine ⟨_, rfl, _, rfl, ni_seq (.inr (g.seqT hB)) rfl (strV_flat ys) ⟨_, rfl, ?_⟩⟩
    rw [inV_strV, take_snoc hf, List.filter_append]
    cases e : decide (f ∈ ys) with
    | true => exact iteF ⟨g, by rw [hD']; simp [e]⟩
    | false =>
      refine iteT ⟨_, rfl, _, hD', ?_, g.upd' hD, ?_⟩
      · rw [strV_len, sizeLine_eq]
        have := List.length_filter_le (fun x => !decide (x ∈ ys)) (xs.take i)
        rw [List.length_take] at this
        omega
      · rw [upd_same, List.filter_cons, if_pos (by rw [e]; rfl), List.filter_nil, strV_snoc]
  · rintro H' ⟨g, hD'⟩
    rw [strV_len, List.take_length] at hD'
    refine ⟨le_sz (Nat.zero_le _), fun E2 hE2 => ?_⟩
    refine newH hE2 fun H2 g2 s2 => ?_
    refine e_data (.lst (SqL.of (g2.lst hD')) (dp_strA _)) (.lst (SqL.of s2) .nil) (strs_shaped fun n hn => hy n (List.mem_filter.mp hn).1) (by decide) ?_
    have e : PyData.eqv (.list ((xs.filter fun x => !decide (x ∈ ys)).map PyData.str)) (.list []) = hasAll ys xs := by
      unfold hasAll
      cases h : xs.filter fun x => !decide (x ∈ ys) with
      | nil =>
        have := List.filter_eq_nil_iff.mp h
        symm
        refine List.all_eq_true.mpr fun x hx => ?_
        have q := this x hx
        simpa using q
      | cons z zs =>
        have hz : z ∈ xs.filter fun x => !decide (x ∈ ys) := by rw [h]; exact List.mem_cons_self
        obtain ⟨z1, z2⟩ := List.mem_filter.mp hz
        symm
        refine List.all_eq_false.mpr ⟨z, z1, ?_⟩
        simpa using z2
    rw [e]
    exact k H2 (g.trans g2)
def spFit (K : PySem.W.Frag) : Sp := fun vs H Q _ => ∃ (d a b : Addr) (kvs : List (Key × V)) (F : List Fo) (xs : List V) (ms : List Mak) (fs : List Str), vs = [.ref d, .ref a, .ref b] ∧ H d = some (.dK kvs) ∧ KB K Fo.name foV H kvs F ∧ (F.map Fo.name).Nodup ∧ SqT K H a xs ∧ RB K makV H xs ms ∧ ms.length ≤ 60 ∧ (∀ m ∈ ms, m.s ∈ F.map Fo.name ∧ m.t ∈ F.map Fo.name) ∧ SqT K H b (strV fs) ∧ fs.length ≤ 1000 ∧ (∀ x ∈ fs, layS x = true) ∧
  ∀ l ys H', Gr H H' → H' l = some (.lst ys) → RB K makV H' ys (fitM F ms fs) → Q (.ref l) H'
theorem okFor_at {F : List Fo} (nd : (F.map Fo.name).Nodup) {f : Fo} (hf : f ∈ F) (fs : List Str) : okFor F fs f.name = hasAll (carF f) fs := by
  unfold okFor
  cases h : hasAll (carF f) fs with
  | true => exact List.any_eq_true.mpr ⟨f, hf, by rw [decide_eq_true rfl, h]; rfl⟩
  | false =>
    refine List.any_eq_false.mpr fun g hg => ?_
    intro z
    rw [Bool.and_eq_true] at z
    have e : g.name = f.name := of_decide_eq_true z.1
    obtain ⟨i, hi, ei⟩ := List.mem_iff_getElem.mp hf
    obtain ⟨j, hj, ej⟩ := List.mem_iff_getElem.mp hg
    have q1 : (F.map Fo.name)[i]? = some f.name := by rw [List.getElem?_map, List.getElem?_eq_getElem hi, ei]; rfl
    have q2 : (F.map Fo.name)[j]? = some f.name := by rw [List.getElem?_map, List.getElem?_eq_getElem hj, ej]; exact congrArg some e
    have := nodup_at nd q1 q2
    subst this
    rw [ei] at ej
    subst ej
    rw [h] at z
    cases z.2
theorem ok_fit {fd : FuncData} (F : FnP K "_law_fit" s__law_fit fd) (T : TD K mg) (D__law_carried : Df P w K mg base "_law_carried" 1 p__law_carried (spCarried K)) (D__law_within : Df P w K mg base "_law_within" 1 p__law_within (spWithin K)) : FnOk P w K mg base CX0 2 (He.fAd K ("_law_fit", none)) fd p__law_fit (spFit K) := by
  refine okP F sc__law_fit (fun vs H Q E h => by obtain ⟨d, a, b, kvs, F, xs, ms, fs, rfl, _⟩ := h; rfl) (fun A outer s H vs Q E hr h => ?_)
  obtain ⟨d, a, b, kvs, F, xs, ms, fs, rfl, hd, hK, nd, hS, hR, hl, hin, hb, hfl, hfs, k⟩ := h
  refine ⟨_, (pss_cons (ps_set (i := 3) sc__law_fit.nd rfl (by first | exact Or.inl rfl | exact Or.inr rfl) (pe_lst pa_nil))
      (pss_cons (ps_for PassesOwn.never rfl (k_tup (K := K) rfl (pv 1)) (pg_name (i := 4) sc__law_fit.nd rfl (by first | exact Or.inl rfl | exact Or.inr rfl))
      (pss_cons (ps_set (i := 5) sc__law_fit.nd rfl (by first | exact Or.inl rfl | exact Or.inr rfl) (pe_tup (pa_cons (pe_fn D__law_carried hr (by decide) rfl (pa_cons (pe_dget (hu_of hr) (pv 0) (pe_ix (u_ix (K := K) rfl) (pv 4) pe_int (fun _ _ => rfl)) (fun _ _ => rfl)) pa_nil)) (pa_cons (pe_fn D__law_carried hr (by decide) rfl (pa_cons (pe_dget (hu_of hr) (pv 0) (pe_ix (u_ix (K := K) rfl) (pv 4) pe_int (fun _ _ => rfl)) (fun _ _ => rfl)) pa_nil)) pa_nil))))
      (pss_one (ps_if (PW.pt (pw_and (pt_val (pe_fn D__law_within hr (by decide) rfl (pa_cons (pv 2) (pa_cons (pe_ix (u_ix (K := K) rfl) (pv 5) pe_int (fun _ _ => rfl)) pa_nil)))) (pw_and1 (pt_val (pe_fn D__law_within hr (by decide) rfl (pa_cons (pv 2) (pa_cons (pe_ix (u_ix (K := K) rfl) (pv 5) pe_int (fun _ _ => rfl)) pa_nil)))))))
      (pss_one (ps_expr (k_bm (K := K) rfl PySem.F.plainAttrs_list PySem.F.slot_list_append PySem.F.type_list_append mt_append (pv 3) (pa_cons (pv 4) pa_nil))))
      pss_nil))))
      (pss_one (ps_ret (pv 3))))), ?_⟩
  refine ⟨le_sz (Nat.zero_le _), fun L hL => ?_⟩
  have hLf : H L = none := hL
  refine newH hL fun H1 g1 s1 => ?_
  refine ⟨_, rfl, a, rfl, ⟨_, g1.seqT hS⟩, ?_⟩
  refine for_tup (K := K) (a := a) (xs := xs) (fun i σ H' => ∃ (o4 o5 : Option V) (ys : List V), σ = [some (.ref d), some (.ref a), some (.ref b), some (.ref L), o4, o5] ∧ Gr H H' ∧ H' L = some (.lst ys) ∧ RB K makV H' ys (fitM F (ms.take i) fs)) ⟨none, none, [], rfl, g1, s1, RB.nil⟩ ?_ ?_ ?_
  · rintro i σ H' _ ⟨o4, o5, ys, rfl, g, _⟩
    exact g.seqT hS
  · rintro i x σ H2 hx ⟨o4, o5, ys, rfl, g2, hL2, hY⟩
    obtain ⟨m, t, hm, rfl, st⟩ := hR.at_ hx
    have hmm := List.mem_of_getElem? hm
    obtain ⟨f1, hf1, e1⟩ := List.mem_map.mp (hin m hmm).1
    obtain ⟨f2, hf2, e2⟩ := List.mem_map.mp (hin m hmm).2
    have st' := g2.seqT st
    obtain ⟨t1, d1, sq1⟩ := (hK.gr g2).get nd hf1
    rw [e1] at d1
    have hd2 := g2.keep' hd
    dsimp only [gName, tSeq]
    refine ⟨_, rfl, _, rfl, x_t st' rfl ⟨d, _, rfl, d1 ▸ DGet.k (k := Sum.inr m.s) hd2, t1, f1, rfl, sq1, fun p1 H3 g3 sp1 => ?_⟩⟩
    have g23 := g2.trans g3
    obtain ⟨t2, d2, sq2⟩ := (hK.gr g23).get nd hf2
    rw [e2] at d2
    refine ⟨_, rfl, _, rfl, x_t (g3.seqT st') rfl ⟨d, _, rfl, d2 ▸ DGet.k (k := Sum.inr m.t) (g23.keep' hd), t2, f2, rfl, sq2, fun p2 H4 g4 sp2 => ?_⟩⟩
    refine ⟨le_sz (show 2 ≤ 10000 by omega), fun q hq => ?_⟩
    refine newH hq fun H5 g5 s5 => ?_
    have G5 := (g23.trans g4).trans g5
    have o1 := okFor_at nd hf1 fs
    have o2 := okFor_at nd hf2 fs
    rw [e1] at o1
    rw [e2] at o2
    have fin : ∀ H7, Gr H5 H7 → (okFor F fs m.s && okFor F fs m.t) = false → ∃ (o4 o5 : Option V) (ys : List V), [some (V.ref d), some (.ref a), some (.ref b), some (.ref L), some (.ref t), some (.ref q)] = [some (.ref d), some (.ref a), some (.ref b), some (.ref L), o4, o5] ∧ Gr H H7 ∧ H7 L = some (.lst ys) ∧ RB K makV H7 ys (fitM F (ms.take (i + 1)) fs) := fun H7 g7 h => by
      refine ⟨_, _, ys, rfl, G5.trans g7, (((g3.trans g4).trans g5).trans g7).lst hL2, ?_⟩
      have e : fitM F (ms.take (i + 1)) fs = fitM F (ms.take i) fs := by
        unfold fitM
        rw [take_snoc hm, List.filter_append, List.filter_cons, h]
        simp
      rw [e]
      exact hY.gr (((g3.trans g4).trans g5).trans g7)
    refine ⟨_, rfl, _, rfl, x_t (SqT.of s5) rfl ⟨b, p1, fs, carF f1, rfl, G5.seqT hb, (g4.trans g5).seqT sp1, hfl, hfs, fun H6 g6 => ⟨_, rfl, ?_⟩⟩⟩
    cases h1 : hasAll (carF f1) fs with
    | false => exact iteF (iteF (fin H6 g6 (by rw [o1, h1]; rfl)))
    | true =>
      refine iteT ⟨_, rfl, _, rfl, x_t (SqT.of (g6.tup s5)) rfl ⟨b, p2, fs, carF f2, rfl, (G5.trans g6).seqT hb, (g5.trans g6).seqT sp2, hfl, hfs, fun H7 g7 => ⟨_, rfl, ?_⟩⟩⟩
      cases h2 : hasAll (carF f2) fs with
      | false => exact iteF (fin H7 (g6.trans g7) (by rw [o2, h2, Bool.and_false]))
      | true =>
        have hL7 := (((g3.trans g4).trans g5).trans (g6.trans g7)).lst hL2
        have st7 := (((g3.trans g4).trans g5).trans (g6.trans g7)).seqT st'
        have hY7 := hY.gr (((g3.trans g4).trans g5).trans (g6.trans g7))
        have yl : ys.length ≤ 60 := by
          rw [hY.1]
          have h1 := fitM_len (F := F) (ms := ms.take i) (fs := fs)
          rw [List.length_take] at h1
          omega
        refine iteT ⟨_, rfl, .inl ⟨rfl, _, SqL.of hL7⟩, _, rfl, L, _, _, rfl, rfl, hL7, by rw [sizeLine_eq]; omega, ?_⟩
        refine ⟨_, _, _, rfl, (G5.trans (g6.trans g7)).upd' hLf, upd_same, ?_⟩
        have e : fitM F (ms.take (i + 1)) fs = fitM F (ms.take i) fs ++ [m] := by
          unfold fitM
          rw [take_snoc hm, List.filter_append, List.filter_cons, o1, o2, h1, h2]
          simp
        rw [e]
        exact (hY7.mono fun t ys q => upd_seqT hL7 t ys q).snoc (upd_seqT hL7 _ _ st7)
  · rintro σ H' ⟨o4, o5, ys, rfl, g, hL', hY⟩
    rw [hR.1, List.take_length] at hY
    exact ⟨_, rfl, k L ys H' g hL' hY⟩
end
end Vf
end
section
set_option Elab.async false
set_option linter.all false
set_option maxRecDepth 100000
set_option maxHeartbeats 4000000
namespace Vf
open PySem PySem.Spec PyProof.Rows L2 GxR GenW RZ PySem.W
abbrev s__law_labelled : Stmt := top 51
abbrev n__law_labelled : List Str := ["makers", "starts", "name", "found", "turn", "source", "target", "cost", "label"]
abbrev p__law_labelled : List Str := ["makers", "starts"]
theorem sc__law_labelled : FnScope n__law_labelled p__law_labelled (defScope s__law_labelled) := ⟨rfl, rfl, rfl, by decide +kernel, rfl, by decide +kernel, by decide +kernel⟩

/-! ### relaxing, again and again -/
def putL (L : List (Str × Lab)) (f : Str) (l : Lab) : List (Str × Lab) := if L.any (fun p => decide (p.1 = f)) = true then L.map (fun p => if p.1 = f then (p.1, l) else p) else L ++ [(f, l)]
theorem putL_fst (L : List (Str × Lab)) (f : Str) (l : Lab) : (putL L f l).map (·.1) = if L.any (fun p => decide (p.1 = f)) = true then L.map (·.1) else L.map (·.1) ++ [f] := by
  unfold putL
  split
  · rw [List.map_map]
    refine List.map_congr_left fun p _ => ?_
    show (if p.1 = f then (p.1, l) else p).1 = p.1
    split <;> rfl
  · rw [List.map_append]; rfl
theorem any_mem (L : List (Str × Lab)) (f : Str) : L.any (fun p => decide (p.1 = f)) = decide (f ∈ L.map (·.1)) := by
  by_cases h : f ∈ L.map (·.1)
  · rw [decide_eq_true h]
    obtain ⟨p, hp, e⟩ := List.mem_map.mp h
    exact List.any_eq_true.mpr ⟨p, hp, decide_eq_true e⟩
  · rw [decide_eq_false h]
    exact List.any_eq_false.mpr fun p hp z => h (List.mem_map.mpr ⟨p, hp, of_decide_eq_true z⟩)
theorem putL_nd {L : List (Str × Lab)} (nd : (L.map (·.1)).Nodup) (f : Str) (l : Lab) : ((putL L f l).map (·.1)).Nodup := by
  rw [putL_fst, any_mem]
  split
  · exact nd
  · rename_i h
    have h : f ∉ L.map (·.1) := by simpa using h
    exact List.nodup_append.mpr ⟨nd, by simp, fun x hx y hy => by rw [List.mem_singleton.mp hy]; exact fun z : x = f => h (by rw [← z]; exact hx)⟩
theorem putL_mem {L : List (Str × Lab)} {f : Str} {l : Lab} {p : Str × Lab} (h : p ∈ putL L f l) : p = (f, l) ∨ (p ∈ L ∧ p.1 ≠ f) := by
  unfold putL at h
  split at h
  · obtain ⟨q, hq, e⟩ := List.mem_map.mp h
    split at e
    · rename_i z
      exact .inl (by rw [← e, z])
    · rename_i z
      subst e
      exact .inr ⟨hq, z⟩
  · rename_i z
    rcases List.mem_append.mp h with y | y
    · refine .inr ⟨y, fun e => z ?_⟩
      exact List.any_eq_true.mpr ⟨p, y, decide_eq_true e⟩
    · exact .inl (List.mem_singleton.mp y)
theorem putL_in (L : List (Str × Lab)) (f : Str) (l : Lab) : (f, l) ∈ putL L f l := by
  unfold putL
  split
  · rename_i h
    obtain ⟨p, hp, e⟩ := List.any_eq_true.mp h
    have e : p.1 = f := of_decide_eq_true e
    exact List.mem_map.mpr ⟨p, hp, by rw [if_pos e, e]⟩
  · simp
theorem putL_keep {L : List (Str × Lab)} {f : Str} {l : Lab} {p : Str × Lab} (h : p ∈ L) (ne : p.1 ≠ f) : p ∈ putL L f l := by
  unfold putL
  split
  · exact List.mem_map.mpr ⟨p, h, if_neg ne⟩
  · exact List.mem_append_left _ h
/-- one relaxing: the label at the end of a maker -/
def better (L : List (Str × Lab)) (f : Str) (d : Lab) : Lab := if f ∈ L.map (·.1) then (if dataLt (labD d) (labD (labAt L f)) = true then d else labAt L f) else d
structure Bf (ms : List Mak) (src : Str) (t n : Nat) (L : List (Str × Lab)) : Prop where
  nd : (L.map (·.1)).Nodup
  wk : ∀ p ∈ L, Wk ms src p.2 p.1
  mi : ∀ l f, Wk ms src l f → l.k ≤ t → ∃ l', (f, l') ∈ L ∧ l'.le l
  kb : ∀ p ∈ L, p.2.k ≤ n
theorem dataLt_le {a b : Lab} (h : dataLt (labD a) (labD b) = true) : a.le b := by
  show dataLt (labD b) (labD a) = false
  exact dataLt_asym h
theorem better_le {L : List (Str × Lab)} {f : Str} {d l : Lab} (nd : (L.map (·.1)).Nodup) (h : (f, l) ∈ L) : (better L f d).le l := by
  unfold better
  rw [if_pos (List.mem_map.mpr ⟨_, h, rfl⟩), labAt_of nd h]
  split
  · rename_i z; exact dataLt_le z
  · exact Lab.le.refl _
theorem better_ge (L : List (Str × Lab)) (f : Str) (d : Lab) : (better L f d).le d := by
  unfold better
  split
  · split
    · exact Lab.le.refl _
    · rename_i z
      exact Bool.eq_false_iff.mpr z
  · exact Lab.le.refl _
theorem Bf.step {ms : List Mak} {src : Str} {t n : Nat} {L : List (Str × Lab)} (h : Bf ms src t n L) {m : Mak} (hm : m ∈ ms) {l0 : Lab} (hl : (m.s, l0) ∈ L) : Bf ms src t (n + 1) (putL L m.t (better L m.t (l0.ext m))) := by
  refine ⟨putL_nd h.nd _ _, fun p hp => ?_, fun l f w kl => ?_, fun p hp => ?_⟩
  · rcases putL_mem hp with rfl | ⟨q, _⟩
    · show Wk ms src (better L m.t (l0.ext m)) m.t
      unfold better
      split
      · rename_i z
        obtain ⟨⟨f, l2⟩, hp2, e⟩ := List.mem_map.mp z
        have e : f = m.t := e
        subst e
        split
        · exact (h.wk _ hl).snoc hm rfl
        · rw [labAt_of h.nd hp2]; exact h.wk _ hp2
      · exact (h.wk _ hl).snoc hm rfl
    · exact h.wk p q
  · obtain ⟨l', h1, h2⟩ := h.mi l f w kl
    by_cases e : f = m.t
    · subst e
      exact ⟨_, putL_in _ _ _, (better_le h.nd h1).trans h2⟩
    · exact ⟨l', putL_keep h1 e, h2⟩
  · rcases putL_mem hp with rfl | ⟨q, _⟩
    · show (better L m.t (l0.ext m)).k ≤ n + 1
      have q0 := h.kb _ hl
      have q1 : (l0.ext m).k ≤ n + 1 := Nat.succ_le_succ q0
      unfold better
      split
      · rename_i z
        obtain ⟨⟨f, l2⟩, hp2, e⟩ := List.mem_map.mp z
        have e : f = m.t := e
        subst e
        split
        · exact q1
        · rw [labAt_of h.nd hp2]; exact Nat.le_succ_of_le (h.kb _ hp2)
      · exact q1
    · exact Nat.le_succ_of_le (h.kb p q)
/-- what one round has done -/
def Rel (ms : List Mak) (src : Str) (t i : Nat) (L : List (Str × Lab)) : Prop := ∀ m ∈ ms.take i, ∀ l, Wk ms src l m.s → l.k ≤ t → ∃ l', (m.t, l') ∈ L ∧ l'.le (l.ext m)
theorem Rel.zero {ms : List Mak} {src : Str} {t : Nat} {L : List (Str × Lab)} : Rel ms src t 0 L := fun m hm => by simp at hm
theorem Rel.keep {ms : List Mak} {src : Str} {t i : Nat} {L : List (Str × Lab)} {f : Str} {d : Lab} (nd : (L.map (·.1)).Nodup) (r : Rel ms src t i L) : Rel ms src t i (putL L f (better L f d)) := fun m hm l w kl => by
  obtain ⟨l', h1, h2⟩ := r m hm l w kl
  by_cases e : m.t = f
  · subst e
    exact ⟨_, putL_in _ _ _, (better_le nd h1).trans h2⟩
  · exact ⟨l', putL_keep h1 e, h2⟩
theorem Rel.step {ms : List Mak} {src : Str} {t n i : Nat} {L : List (Str × Lab)} (h : Bf ms src t n L) (r : Rel ms src t i L) {m : Mak} (hm : ms[i]? = some m) {l0 : Lab} (hl : (m.s, l0) ∈ L) : Rel ms src t (i + 1) (putL L m.t (better L m.t (l0.ext m))) := fun m' hm' l w kl => by
  rw [take_snoc hm] at hm'
  rcases List.mem_append.mp hm' with z | z
  · exact Rel.keep h.nd r m' z l w kl
  · have e := List.mem_singleton.mp z
    subst e
    obtain ⟨l', h1, h2⟩ := h.mi l m'.s w kl
    have := nd_at h.nd hl h1
    subst this
    exact ⟨_, putL_in _ _ _, (better_ge _ _ _).trans (Lab.ext_mono m' (h.wk _ hl).ok w.ok h2)⟩
theorem Rel.skip {ms : List Mak} {src : Str} {t n i : Nat} {L : List (Str × Lab)} (h : Bf ms src t n L) (r : Rel ms src t i L) {m : Mak} (hm : ms[i]? = some m) (hn : m.s ∉ L.map (·.1)) : Rel ms src t (i + 1) L := fun m' hm' l w kl => by
  rw [take_snoc hm] at hm'
  rcases List.mem_append.mp hm' with z | z
  · exact r m' z l w kl
  · have e := List.mem_singleton.mp z
    subst e
    obtain ⟨l', h1, _⟩ := h.mi l m'.s w kl
    exact absurd (List.mem_map.mpr ⟨_, h1, rfl⟩) hn
theorem Bf.next {ms : List Mak} {src : Str} {t n : Nat} {L : List (Str × Lab)} (h : Bf ms src t n L) (r : Rel ms src t ms.length L) : Bf ms src (t + 1) n L := by
  refine ⟨h.nd, h.wk, fun l f w kl => ?_, h.kb⟩
  rw [Rel, List.take_length] at r
  cases w with
  | nil => exact h.mi _ _ .nil (Nat.zero_le _)
  | @snoc l0 f0 m w hm e =>
    subst e
    exact r m hm l0 w (Nat.le_of_succ_le_succ kl)
theorem Bf.init {ms : List Mak} {src : Str} : Bf ms src 0 0 [(src, Lab.zero)] := by
  refine ⟨by simp, fun p hp => by rw [List.mem_singleton.mp hp]; exact .nil, fun l f w kl => ?_, fun p hp => by rw [List.mem_singleton.mp hp]; exact Nat.le_refl _⟩
  cases w with
  | nil => exact ⟨_, List.mem_singleton.mpr rfl, Lab.le.refl _⟩
  | @snoc l0 f0 m w hm e => exact absurd kl (Nat.not_succ_le_zero _)
theorem Bf.len {ms : List Mak} {src : Str} {t n : Nat} {L : List (Str × Lab)} (h : Bf ms src t n L) : L.length ≤ ms.length + 1 := by
  have z := nodup_len (m := src :: ms.map Mak.t) h.nd fun f hf => by
    obtain ⟨p, hp, rfl⟩ := List.mem_map.mp hf
    exact (h.wk p hp).in
  rw [List.length_map, List.length_cons, List.length_map] at z
  exact z
theorem Bf.fin {ms : List Mak} {src : Str} {t n : Nat} {L : List (Str × Lab)} (h0 : ∀ m ∈ ms, 0 ≤ m.c) (h : Bf ms src t n L) (ht : ms.length ≤ t) : Min ms src L := Min.short h0 h.nd h.wk fun l f w kl => h.mi l f w (Nat.le_trans kl ht)
theorem LbV.put {K : PySem.W.Frag} {H : Hp} {kvs : List (Key × V)} {L : List (Str × Lab)} (h : LbV K H kvs L) {f : Str} {a : Addr} {l : Lab} (ha : LabV K H a l) : LbV K H (putK kvs (Sum.inr f) (.ref a)) (putL L f l) := by
  have e : (kvs.any fun kv => decide (kv.1 = (Sum.inr f : Key))) = L.any fun p => decide (p.1 = f) := by
    induction h with
    | nil => rfl
    | cons _ _ ih =>
      rw [List.any_cons, List.any_cons, ih]
      congr 1
      exact decide_eq_decide.mpr ⟨fun z => Sum.inr.inj z, fun z => congrArg _ z⟩
  unfold putK putL
  rw [e]
  split
  · clear e
    rename_i h'
    clear h'
    induction h with
    | nil => exact .nil
    | @cons f' a' l' kvs L h1 _ ih =>
      rw [List.map_cons, List.map_cons]
      by_cases z : f' = f
      · rw [if_pos (congrArg Sum.inr z), if_pos z]
        exact .cons ha ih
      · rw [if_neg (fun y => z (Sum.inr.inj y)), if_neg z]
        exact .cons h1 ih
  · exact h.snoc ha
theorem a_ttG {K : PySem.W.Frag} {H : Hp} {Q : VK} {a b : Addr} {xs ys : List V} (h1 : SqT K H a xs) (h2 : SqT K H b ys) (h : xs.length + ys.length ≤ sizeLine) (q : ∀ p H', Gr H H' → SqT K H' p (xs ++ ys) → Q (.ref p) H') : rAdd K (.ref a) (.ref b) H Q :=
  a_tt h1 h2 h (fun z => by subst z; exact q b H (Gr.refl H) h2) (fun _ z => by subst z; rw [List.append_nil] at q; exact q a H (Gr.refl H) h1) fun _ _ p hp => newH hp fun H1 g s => q p H1 g (SqT.of s)
theorem labs_alike (a b : Lab) : AlikeAll [labD a, labD b] := by
  refine ⟨fun x hx y hy => ?_, fun x hx => ?_⟩
  · have e : ∀ z ∈ [labD a, labD b], ∃ l, z = labD l := fun z hz => by
      rcases List.mem_cons.mp hz with e | hz
      · exact ⟨a, e⟩
      · exact ⟨b, List.mem_singleton.mp hz⟩
    obtain ⟨l, rfl⟩ := e x hx
    obtain ⟨l', rfl⟩ := e y hy
    exact alike_lab l l'
  · rcases List.mem_cons.mp hx with rfl | hx
    · simp [labD]
    · rw [List.mem_singleton.mp hx]; simp [labD]
theorem lab_depth (a : Lab) : PyData.depth (labD a) ≤ 5 := by
  have := strs_depth a.ns
  simp [labD, strD, PyData.depth, PyData.depthAll]
  omega
theorem labs_depth (a b : Lab) : PyData.depthAll [labD a, labD b] ≤ 50 := by
  have h1 := lab_depth a
  have h2 := lab_depth b
  show max _ (max _ _) ≤ _
  simp [PyData.depthAll]
  omega
def spLabelled (K : PySem.W.Frag) : Sp := fun vs H Q _ => ∃ (a b : Addr) (xs : List V) (ms : List Mak) (src : Str) (bb : Bool), vs = [.ref a, .ref b] ∧ SqA K bb H a xs ∧ RB K makV H xs ms ∧ ms.length ≤ 60 ∧ (∀ m ∈ ms, 0 ≤ m.c) ∧ SqL K H b [.str src] ∧
  ∀ d H' kvs L, Gr H H' → H d = none → H' d = some (.dK kvs) → LbV K H' kvs L → Min ms src L → L.length ≤ ms.length + 1 → Q (.ref d) H'
section
variable {P : Program} {w : World} {K : PySem.W.Frag} {mg : Str → Option Value} {base : Heap}
theorem ok_labelled {fd : FuncData} (F : FnP K "_law_labelled" s__law_labelled fd) (T : TD K mg) : FnOk P w K mg base CX0 1 (He.fAd K ("_law_labelled", none)) fd p__law_labelled (spLabelled K) := by
  refine okP F sc__law_labelled (fun vs H Q E h => by obtain ⟨a, b, xs, ms, src, bb, rfl, _⟩ := h; rfl) (fun A outer s H vs Q E hr h => ?_)
  obtain ⟨a, b, xs, ms, src, bb, rfl, hS, hR, hl, h0, hb, k⟩ := h
  refine ⟨_, (pss_cons (ps_set (i := 3) sc__law_labelled.nd rfl (by first | exact Or.inl rfl | exact Or.inr rfl) (pe_callTy (call_dictP rfl) rfl T.b_dict (by decide +kernel) (pa_cons (pe_lc (own := [("name", 2)]) (g := gName 2) (tt := tYes) rfl sc__law_labelled.nd (k_list (K := K) rfl (pv 1)) (blkOk_by (own := [("name", 2)]) (N := n__law_labelled) (sc := defScope s__law_labelled) (by decide +kernel)) (fun _ _ _ _ _ => (pg_name (i := 2) sc__law_labelled.nd rfl (by first | exact Or.inl rfl | exact Or.inr rfl))) (fun _ _ _ _ _ => pts_nil) (fun _ _ _ _ _ => (pe_tup (pa_cons (pv 2) (pa_cons (pe_tup (pa_cons pe_int (pa_cons pe_int (pa_cons (pe_tup pa_nil) pa_nil)))) pa_nil))))) pa_nil)))
      (pss_cons (ps_for PassesOwn.never rfl (pi_range1 rfl T.b_range (pa_cons (pe_op (u_add (K := K) rfl) (pe_callB (k_len (K := K) rfl) rfl T.b_len (by decide +kernel) (pa_cons (pv 0) pa_nil)) pe_int) pa_nil)) (pg_name (i := 4) sc__law_labelled.nd rfl (by first | exact Or.inl rfl | exact Or.inr rfl))
      (pss_one (ps_for PassesOwn.never rfl (k_seqA (K := K) rfl (pv 0)) (kg_tup 4 (K := K) rfl rfl (pgs_cons (pg_name (i := 2) sc__law_labelled.nd rfl (by first | exact Or.inl rfl | exact Or.inr rfl)) (pgs_cons (pg_name (i := 5) sc__law_labelled.nd rfl (by first | exact Or.inl rfl | exact Or.inr rfl)) (pgs_cons (pg_name (i := 6) sc__law_labelled.nd rfl (by first | exact Or.inl rfl | exact Or.inr rfl)) (pgs_cons (pg_name (i := 7) sc__law_labelled.nd rfl (by first | exact Or.inl rfl | exact Or.inr rfl)) pgs_nil)))))
      (pss_one (ps_if (pt_cmp (pc_din (hu_of hr) (pv 5) (pv 3)))
      (pss_cons (ps_set (i := 8) sc__law_labelled.nd rfl (by first | exact Or.inl rfl | exact Or.inr rfl) (pe_tup (pa_cons (pe_op (u_add (K := K) rfl) (pe_ix (u_ix (K := K) rfl) (pe_dget (hu_of hr) (pv 3) (pv 5) (fun _ _ => rfl)) pe_int (fun _ _ => rfl)) (pv 7)) (pa_cons (pe_op (u_add (K := K) rfl) (pe_ix (u_ix (K := K) rfl) (pe_dget (hu_of hr) (pv 3) (pv 5) (fun _ _ => rfl)) pe_int (fun _ _ => rfl)) pe_int) (pa_cons (pe_op (u_add (K := K) rfl) (pe_ix (u_ix (K := K) rfl) (pe_dget (hu_of hr) (pv 3) (pv 5) (fun _ _ => rfl)) pe_int (fun _ _ => rfl)) (pe_tup (pa_cons (pv 2) pa_nil))) pa_nil)))))
      (pss_one (ps_dput (hu_of hr) (pv 3) (pv 6) (pe_callB (cr_min2 rfl hr.units) rfl T.b_min (by decide +kernel) (pa_cons (pe_dget2 (hu_of hr) (pv 3) (pv 6) (pv 8) ⟨rfl, rfl, rfl, rfl⟩) (pa_cons (pv 8) pa_nil))) rfl)))
      pss_nil)))))
      (pss_one (ps_ret (pv 3))))), ?_⟩
  refine ⟨_, rfl, b, rfl, ⟨_, hb⟩, fun D hD => ?_⟩
  refine lc_list (K := K) (a := b) (xs := [.str src]) (fun i H' => Gr H H' ∧ ∃ ts : List Addr, H' D = some (.lst (ts.map V.ref)) ∧ ts.length = i ∧ ∀ t ∈ ts, ∃ la, SqT K H' t [.str src, .ref la] ∧ LabV K H' la Lab.zero) ⟨Gr.new hD, [], upd_same, rfl, fun _ h => by cases h⟩ ?_ ?_ ?_
  · rintro i H' _ ⟨g, _⟩
    exact g.seqL hb
  · rintro i x H1 hx ⟨g1, ts, hD1, hi, _⟩
    obtain ⟨rfl, rfl⟩ : i = 0 ∧ x = .str src := by
      cases i with
      | zero => cases hx; exact ⟨rfl, rfl⟩
      | succ i => simp at hx
    obtain rfl : ts = [] := List.length_eq_zero_iff.mp hi
    refine ⟨rfl, ?_⟩
    refine ⟨_, rfl, le_sz (Nat.zero_le _), fun e he => ?_⟩
    refine newH he fun H2 g2 s2 => ?_
    refine ⟨le_sz (show 3 ≤ 10000 by omega), fun la hla => ?_⟩
    refine newH hla fun H3 g3 s3 => ?_
    refine ⟨le_sz (show 2 ≤ 10000 by omega), fun t ht => ?_⟩
    refine newH ht fun H4 g4 s4 => ?_
    have hD4 := ((g2.trans g3).trans g4).lst hD1
    have kp := Kp.lst (K := K) (o := .lst ([] ++ [V.ref t])) hD4
    refine ⟨[], hD4, by rw [sizeLine_eq]; decide, (((g1.trans g2).trans g3).trans g4).upd' hD, [t], upd_same, rfl, fun t' ht' => ?_⟩
    rw [List.mem_singleton.mp ht']
    exact ⟨la, kp.s _ _ (SqT.of s4), e, kp.s _ _ (g4.seqT (SqT.of s3)), kp.s _ _ ((g3.trans g4).seqT (SqT.of s2))⟩
  rintro H1 ⟨g1, ts, hD1, hi, hts⟩
  obtain ⟨t, rfl⟩ : ∃ t, ts = [t] := by
    cases ts with
    | nil => cases hi
    | cons t r => cases r with
      | nil => exact ⟨t, rfl⟩
      | cons _ _ => simp at hi
  obtain ⟨la, sT, lV⟩ := hts t (by simp)
  refine ⟨D, [t], [((Sum.inr src : Key), .ref la)], rfl, SqL.of hD1, .cons sT .nil, fun d hd => ?_⟩
  refine newH hd fun H2 g2 s2 => ?_
  have s2 : H2 d = some (.dK [((Sum.inr src : Key), .ref la)]) := s2
  have hdf : H d = none := g1.free hd
  have G2 := g1.trans g2
  have hLen : LenV K (.ref a) H2 ms.length := by
    have q := hS.gr G2
    cases bb
    · exact .inl ⟨_, q, hR.1.symm⟩
    · exact .inr ⟨_, q, hR.1.symm⟩
  refine ⟨_, rfl, _, ms.length, rfl, hLen, a_ii ⟨((ms.length + 2 : Nat) : Int), rfl, by omega, by omega, ?_⟩⟩
  refine for_range (lo := 0) (n := ms.length + 2) (fun t σ H' => ∃ (o2 o4 o5 o6 o7 o8 : Option V) (kvs : List (Key × V)) (L : List (Str × Lab)), σ = [some (.ref a), some (.ref b), o2, some (.ref d), o4, o5, o6, o7, o8] ∧ Gr H H' ∧ H' d = some (.dK kvs) ∧ LbV K H' kvs L ∧ Bf ms src t (t * ms.length) L)
    ⟨_, _, _, _, _, _, _, _, rfl, G2, s2, .cons (lV.gr g2) .nil, by rw [Nat.zero_mul]; exact Bf.init⟩ ?_ ?_
  · rintro tt σ H3 htt ⟨o2, o4, o5, o6, o7, o8, kvs, L, rfl, g3, hd3, hL3, bf⟩
    refine ⟨_, rfl, a, rfl, ?_⟩
    refine for_A (hS.gr g3) (fun i σ H' => ∃ (o2 o5 o6 o7 o8 : Option V) (kvs : List (Key × V)) (L : List (Str × Lab)), σ = [some (.ref a), some (.ref b), o2, some (.ref d), some (.int (0 + (tt : Nat))), o5, o6, o7, o8] ∧ Gr H H' ∧ H' d = some (.dK kvs) ∧ LbV K H' kvs L ∧ Bf ms src tt (tt * ms.length + i) L ∧ Rel ms src tt i L)
      ⟨_, _, _, _, _, kvs, L, rfl, g3, hd3, hL3, bf, Rel.zero⟩ ?_ ?_ ?_
    · rintro i σ H' _ ⟨_, _, _, _, _, _, _, rfl, g, _⟩
      exact hS.gr g
    · rintro i x σ H4 hx ⟨o2, o5, o6, o7, o8, kvs, L, rfl, g4, hd4, hL4, bf, re⟩
      obtain ⟨m, tm, hm, rfl, st⟩ := hR.at_ hx
      have st' := g4.seqT st
      have hmm := List.mem_of_getElem? hm
      have il := (List.getElem?_eq_some_iff.mp hm).1
      have ll := bf.len
      refine ⟨tm, _, rfl, st', rfl, _, _, rfl, _, _, rfl, _, _, rfl, _, _, rfl, rfl, ?_⟩
      refine ⟨_, rfl, _, rfl, d, _, rfl, DGet.k (k := Sum.inr m.s) hd4, ?_⟩
      rw [hL4.isS]
      refine ⟨_, rfl, ite2 (fun hn => ?_) (fun hn => ?_)⟩
      · have hn : m.s ∈ L.map (·.1) := of_decide_eq_true hn
        obtain ⟨⟨f0, l0⟩, hp0, e0⟩ := List.mem_map.mp hn
        have e0 : f0 = m.s := e0
        subst e0
        have bs := bf.step hmm hp0
        have rs := Rel.step bf re hm hp0
        have k0 : l0.k ≤ tt * ms.length + i := bf.kb _ hp0
        have tk : tt * ms.length ≤ 61 * 60 := Nat.mul_le_mul (by omega) hl
        have lo : l0.k = l0.ns.length := (bf.wk _ hp0).ok
        obtain ⟨la0, e1, n0, s01, s02⟩ := hL4.at bf.nd hp0
        have st2 := st'
        dsimp only [tSeq]
        refine ⟨_, rfl, _, rfl, d, _, rfl, e1 ▸ DGet.k (k := Sum.inr m.s) hd4, x_t s01 rfl ⟨_, rfl, a_ii ?_⟩⟩
        refine ⟨_, rfl, _, rfl, d, _, rfl, e1 ▸ DGet.k (k := Sum.inr m.s) hd4, x_t s01 rfl (a_ii ?_)⟩
        refine ⟨_, rfl, _, rfl, d, _, rfl, e1 ▸ DGet.k (k := Sum.inr m.s) hd4, x_t s01 rfl ⟨_, rfl, le_sz (show 1 ≤ 10000 by omega), fun p1 hp1 => ?_⟩⟩
        refine newH hp1 fun H5 g5 s5 => ?_
        refine a_ttG (g5.seqT s02) (SqT.of s5) (le_sz (by rw [strV_len]; show _ + 1 ≤ _; omega)) fun n1 H6 g6 sn1 => ?_
        refine ⟨le_sz (show 3 ≤ 10000 by omega), fun la1 hla1 => ?_⟩
        refine newH hla1 fun H7 g7 s7 => ?_
        have G7 := (g5.trans g6).trans g7
        have lV1 : LabV K H7 la1 (l0.ext m) := ⟨n1, SqT.of s7, by show SqT K H7 n1 (strV (l0.ns ++ [m.n])); rw [strV_snoc]; exact g7.seqT sn1⟩
        have hd7 := G7.keep' hd4
        have hL7 := hL4.gr G7
        have fin : ∀ (la : Addr), LabV K H7 la (better L m.t (l0.ext m)) → ∃ (o2 o5 o6 o7 o8 : Option V) (kvs' : List (Key × V)) (L' : List (Str × Lab)), [some (V.ref a), some (.ref b), some (.str m.n), some (.ref d), some (.int (0 + (tt : Nat))), some (.str m.s), some (.str m.t), some (.int m.c), some (.ref la1)] = [some (V.ref a), some (.ref b), o2, some (.ref d), some (.int (0 + (tt : Nat))), o5, o6, o7, o8] ∧ Gr H (upd H7 d (.dK (putK kvs (Sum.inr m.t) (.ref la)))) ∧ (upd H7 d (.dK (putK kvs (Sum.inr m.t) (.ref la)))) d = some (.dK kvs') ∧ LbV K (upd H7 d (.dK (putK kvs (Sum.inr m.t) (.ref la)))) kvs' L' ∧ Bf ms src tt (tt * ms.length + (i + 1)) L' ∧ Rel ms src tt (i + 1) L' := fun la hla =>
          ⟨_, _, _, _, _, _, _, rfl, (g4.trans G7).upd' hdf, upd_same, ((hL7.put hla).kp (Kp.dct hd7)), bs, rs⟩
        refine ⟨_, rfl, d, rfl, ?_, _, rfl, _, rfl, _, DGet.k (k := Sum.inr m.t) hd7, _, rfl, ?_⟩
        · exact .inl ⟨_, .inl hd7⟩
        dsimp only [tNil]
        by_cases ht : m.t ∈ L.map (·.1)
        · obtain ⟨⟨f2, l2⟩, hp2, e2⟩ := List.mem_map.mp ht
          have e2 : f2 = m.t := e2
          subst e2
          obtain ⟨la2, e3, lV2⟩ := hL7.at bf.nd hp2
          rw [e3]
          refine ⟨.ref la2, .ref la1, labD l2, labD (l0.ext m), rfl, lV2.dp, lV1.dp, ?_, ?_, ?_⟩
          · exact labs_alike _ _
          · exact labs_depth _ _
          refine ⟨_, rfl, _, rfl, d, _, rfl, DPut.k (k := Sum.inr m.t) hd7 (by rw [hL7.len, sizeLine_eq]; omega), ?_⟩
          unfold better at fin
          rw [if_pos ht, labAt_of bf.nd hp2] at fin
          split
          · rename_i z
            rw [if_pos z] at fin
            exact fin la1 lV1
          · rename_i z
            rw [if_neg z] at fin
            exact fin la2 lV2
        · rw [hL7.no ht]
          refine ⟨.ref la1, .ref la1, labD (l0.ext m), labD (l0.ext m), rfl, lV1.dp, lV1.dp, ?_, ?_, ?_⟩
          · exact labs_alike _ _
          · exact labs_depth _ _
          rw [ite_self]
          refine ⟨_, rfl, _, rfl, d, _, rfl, DPut.k (k := Sum.inr m.t) hd7 (by rw [hL7.len, sizeLine_eq]; omega), ?_⟩
          unfold better at fin
          rw [if_neg ht] at fin
          exact fin la1 lV1
      · have hn : m.s ∉ L.map (·.1) := fun z => hn (decide_eq_true z)
        exact ⟨_, _, _, _, _, kvs, L, rfl, g4, hd4, hL4, ⟨bf.nd, bf.wk, bf.mi, fun p hp => Nat.le_succ_of_le (bf.kb p hp)⟩, Rel.skip bf re hm hn⟩
    · rintro σ H4 ⟨o2, o5, o6, o7, o8, kvs, L, rfl, g4, hd4, hL4, bf, re⟩
      rw [hR.1] at bf re
      exact ⟨_, _, _, _, _, _, kvs, L, rfl, g4, hd4, hL4, by rw [Nat.succ_mul]; exact bf.next re⟩
  · rintro σ H3 ⟨o2, o4, o5, o6, o7, o8, kvs, L, rfl, g3, hd3, hL3, bf⟩
    exact ⟨_, rfl, k d H3 kvs L g3 hdf hd3 hL3 (bf.fin h0 (by omega)) bf.len⟩
end
end Vf
end
section
set_option Elab.async false
set_option linter.all false
set_option maxRecDepth 100000
set_option maxHeartbeats 4000000
namespace Vf
open PySem PySem.Spec PyProof.Rows L2 GxR GenW RZ PySem.W
abbrev s__law_spread : Stmt := top 50
abbrev n__law_spread : List Str := ["makers", "starts", "found", "more", "maker", "ahead"]
abbrev p__law_spread : List Str := ["makers", "starts"]
theorem sc__law_spread : FnScope n__law_spread p__law_spread (defScope s__law_spread) := ⟨rfl, rfl, rfl, by decide +kernel, rfl, by decide +kernel, by decide +kernel⟩

theorem lc_A {K : PySem.W.Frag} {b : Bool} {a : Addr} {xs : List V} {g : TG} {tt : TT} {te : TE} {vs : List Nat} {σ : L2.St} {H1 : Hp} {Qd : Addr → Hp → Prop} (hq : SqA K b H1 a xs) (Pv : Addr → Nat → Hp → Prop) (h0 : ∀ D, H1 D = none → Pv D 0 (upd H1 D (.lst []))) (hl : ∀ D i H, Pv D i H → SqA K b H a xs)
    (hs : ∀ D, H1 D = none → ∀ i x H, xs[i]? = some x → Pv D i H → g x (wipe σ vs) H fun σ2 H2 => wipe σ2 vs = wipe σ vs ∧ tt σ2 H2 fun b H3 =>
      if b = true then te σ2 H3 fun y H4 => ∃ acc, H4 D = some (.lst acc) ∧ acc.length < sizeLine ∧ Pv D (i + 1) (upd H4 D (.lst (acc ++ [y]))) else Pv D (i + 1) H3) (hd : ∀ D, H1 D = none → ∀ H, Pv D xs.length H → Qd D H) :
    ((∃ ys, SqL K H1 a ys) ∧ ∀ D, H1 D = none → ∃ W : Nat → Nat → Hp → Prop, (∃ m, W 0 m (upd H1 D (.lst []))) ∧ ∀ i m H, W i m H →
      ((Itl K a).stop i H ∧ Qd D H) ∨ ((Itl K a).go i H ∧ ∃ Nx : Hp → Prop, (∀ H', Nx H' → ∃ m', m' < m ∧ W (i + 1) m' H') ∧ ∀ x H', (Itl K a).yld i H x H' → g x (wipe σ vs) H' fun σ2 H2 => wipe σ2 vs = wipe σ vs ∧ tt σ2 H2 fun b H3 =>
        if b = true then te σ2 H3 fun y H4 => ∃ acc, H4 D = some (.lst acc) ∧ acc.length < sizeLine ∧ Nx (upd H4 D (.lst (acc ++ [y]))) else Nx H3)) ∨
    ((∃ ys, SqT K H1 a ys) ∧ ∀ D, H1 D = none → ∃ W : Nat → Nat → Hp → Prop, (∃ m, W 0 m (upd H1 D (.lst []))) ∧ ∀ i m H, W i m H →
      ((Itt K a).stop i H ∧ Qd D H) ∨ ((Itt K a).go i H ∧ ∃ Nx : Hp → Prop, (∀ H', Nx H' → ∃ m', m' < m ∧ W (i + 1) m' H') ∧ ∀ x H', (Itt K a).yld i H x H' → g x (wipe σ vs) H' fun σ2 H2 => wipe σ2 vs = wipe σ vs ∧ tt σ2 H2 fun b H3 =>
        if b = true then te σ2 H3 fun y H4 => ∃ acc, H4 D = some (.lst acc) ∧ acc.length < sizeLine ∧ Nx (upd H4 D (.lst (acc ++ [y]))) else Nx H3)) := by
  cases b with
  | false => exact .inl ⟨⟨xs, hq⟩, fun D hD => lc_list (K := K) (a := a) (xs := xs) (Pv D) (h0 D hD) (fun i H _ p => hl D i H p) (hs D hD) (hd D hD)⟩
  | true => exact .inr ⟨⟨xs, hq⟩, fun D hD => lc_tup (K := K) (a := a) (xs := xs) (Pv D) (h0 D hD) (fun i H _ p => hl D i H p) (hs D hD) (hd D hD)⟩
def ahM (fs : List Str) (ms : List Mak) : List Str := (ms.filter fun m => decide (m.s ∈ fs) && !decide (m.t ∈ fs)).map Mak.t
def muF (n : Nat) (σ : L2.St) (H : Hp) : Nat := match σ with
  | [_, _, some (V.ref l), some (V.bl mo), _, _] => (match H l with
    | some (.lst ys) => 2 * (n - ys.length) + (if mo then 1 else 0)
    | _ => 0)
  | _ => 0
def spSpread (K : PySem.W.Frag) : Sp := fun vs H Q _ => ∃ (a b : Addr) (xs : List V) (ms : List Mak) (src : Str) (bb : Bool), vs = [.ref a, .ref b] ∧ SqA K bb H a xs ∧ RB K makV H xs ms ∧ ms.length ≤ 60 ∧ (∀ m ∈ ms, layS m.t = true) ∧ SqL K H b [.str src] ∧
  ∀ p cs H', Gr H H' → SqT K H' p (strV cs) → Clo ms src cs → Q (.ref p) H'
section
variable {P : Program} {w : World} {K : PySem.W.Frag} {mg : Str → Option Value} {base : Heap}
theorem ok_spread {fd : FuncData} (F : FnP K "_law_spread" s__law_spread fd) (T : TD K mg) : FnOk P w K mg base CX0 1 (He.fAd K ("_law_spread", none)) fd p__law_spread (spSpread K) := by
  refine okP F sc__law_spread (fun vs H Q E h => by obtain ⟨a, b, xs, ms, src, bb, rfl, _⟩ := h; rfl) (fun A outer s H vs Q E hr h => ?_)
  obtain ⟨a, b, xs, ms, src, bb, rfl, hS, hR, hl, hy, hb, k⟩ := h
  refine ⟨_, (pss_cons (ps_asg (pe_tup (pa_cons (pe_callTy (call_listU (K := K) rfl rfl) rfl T.b_list (by decide +kernel) (pa_cons (pv 1) pa_nil)) (pa_cons pe_bl pa_nil))) (kg_tup 2 (K := K) rfl rfl (pgs_cons (pg_name (i := 2) sc__law_spread.nd rfl (by first | exact Or.inl rfl | exact Or.inr rfl)) (pgs_cons (pg_name (i := 3) sc__law_spread.nd rfl (by first | exact Or.inl rfl | exact Or.inr rfl)) pgs_nil))))
      (pss_cons (ps_while PassesOwn.never (k_truth (K := K) rfl (pv 3) (by intro _; rfl))
      (pss_cons (ps_setLc (i := 5) (own := [("maker", 4)]) (g := gName 4) rfl sc__law_spread.nd rfl rfl (sw_true rfl rfl rfl (by decide +kernel)) (k_seqA (K := K) rfl (pv 0)) (blkOk_by (own := [("maker", 4)]) (N := n__law_spread) (sc := defScope s__law_spread) (by decide +kernel)) (fun _ _ _ _ _ => (pg_name (i := 4) sc__law_spread.nd rfl (by first | exact Or.inl rfl | exact Or.inr rfl))) (fun _ _ _ _ _ => (pts_one (PW.pt (pw_and (pt_cmpR (u_in (K := K) rfl) (pe_ix (u_ix (K := K) rfl) (pv 4) pe_int (fun _ _ => rfl)) (pv 2) (by first | exact nomark _ | rfl)) (pw_and1 (pt_cmpR (u_ni (K := K) rfl) (pe_ix (u_ix (K := K) rfl) (pv 4) pe_int (fun _ _ => rfl)) (pv 2) (by first | exact nomark _ | rfl))))))) (fun _ _ _ _ _ => (pe_ix (u_ix (K := K) rfl) (pv 4) pe_int (fun _ _ => rfl))))
      (pss_cons (ps_set (i := 3) sc__law_spread.nd rfl (by first | exact Or.inl rfl | exact Or.inr rfl) (pe_cmpR (u_ne (K := K) rfl hr.units) (pv 5) (pe_lst pa_nil) (nomark _)))
      (pss_one (ps_set (i := 2) sc__law_spread.nd rfl (by first | exact Or.inl rfl | exact Or.inr rfl) (pe_op (u_add (K := K) rfl) (pv 2) (pe_slice (u_sl (K := K) rfl) (pv 5) po_none (po_some pe_int))))))))
      (pss_one (ps_ret (k_tuple (K := K) rfl rfl T.b_tuple (pe_sortSet (K := K) rfl rfl T.b_sorted rfl T.b_set (pv 2))))))), ?_⟩
  refine ⟨_, rfl, lsU_q (.inl hb) fun l hl0 => ?_⟩
  refine newH hl0 fun H1 g1 s1 => ?_
  refine ⟨le_sz (show 2 ≤ 10000 by omega), fun q hq => ?_⟩
  refine newH hq fun H2 g2 s2 => ?_
  refine ⟨q, _, rfl, SqT.of s2, rfl, _, _, rfl, _, _, rfl, rfl, ?_⟩
  dsimp only [tSeq]
  refine while_by (fun σ H' => ∃ (l' : Addr) (mo : Bool) (o4 o5 : Option V) (fs : List Str), σ = [some (.ref a), some (.ref b), some (.ref l'), some (.bl mo), o4, o5] ∧ Gr H H' ∧ H' l' = some (.lst (strV fs)) ∧ Rea ms src fs [] ∧ (mo = false → ∀ f ∈ fs, ∀ m ∈ ms, m.s = f → m.t ∈ fs))
    (muF (ms.length + 1)) ⟨l, true, _, _, [src], rfl, g1.trans g2, g2.lst s1, ⟨by simp, by simp, fun f hf => by rw [List.mem_singleton.mp hf]; exact .nil, fun f hf => by cases hf⟩, fun z => by cases z⟩ ?_ ?_
  · rintro σ H3 ⟨l', mo, o4, o5, fs, rfl, g3, hl3, re, cl⟩
    have ln := re.len
    have tm : TruV K (.bl mo) H3 mo := rfl
    refine ⟨_, rfl, mo, tm, ?_⟩
    cases mo with
    | false =>
      refine iteF ?_
      have re' := re.done (cl rfl)
      refine ⟨_, rfl, l', fs, rfl, SqL.of hl3, by omega, fun ys p so nd mem hp => ?_⟩
      refine newH hp fun H4 g4 s4 => ?_
      refine ⟨.inl ⟨p, _, rfl, SqL.of s4, fun t ht => ?_⟩⟩
      refine newH ht fun H5 g5 s5 => ?_
      exact k t ys H5 ((g3.trans g4).trans g5) (SqT.of s5) ⟨so, nd, fun f => (mem f).trans (re' f)⟩
    | true =>
      refine iteT ?_
      have mu0 : muF (ms.length + 1) [some (.ref a), some (.ref b), some (.ref l'), some (.bl true), o4, o5] H3 = 2 * (ms.length + 1 - fs.length) + 1 := by
        unfold muF
        show (match H3 l' with | some (.lst ys) => 2 * (ms.length + 1 - ys.length) + (if true then 1 else 0) | _ => 0) = _
        rw [hl3]
        show 2 * (ms.length + 1 - (strV fs).length) + 1 = _
        rw [strV_len]
      rw [mu0]
      dsimp only [tSeq]
      refine ⟨_, rfl, a, rfl, lc_A (hS.gr g3) (fun D i H' => Gr H3 H' ∧ H' D = some (.lst (strV (ahM fs (ms.take i))))) (fun D hD => ⟨Gr.new hD, upd_same⟩) (fun D i H' p => hS.gr (g3.trans p.1)) ?_ ?_⟩
      · rintro D hD i x H4 hx ⟨g4, hD4⟩
        obtain ⟨m, t, hm, rfl, st⟩ := hR.at_ hx
        have st' := (g3.trans g4).seqT st
        have hl4 := g4.lst hl3
        have skip : (decide (m.s ∈ fs) && !decide (m.t ∈ fs)) = false → ahM fs (ms.take (i + 1)) = ahM fs (ms.take i) := fun h => by
          unfold ahM
          rw [take_snoc hm, List.filter_append, List.filter_cons, h]
          simp
        refine ⟨rfl, ?_⟩
        refine ⟨_, rfl, x_t st' rfl ⟨_, rfl, in_seq (.inl (SqL.of hl4)) rfl (strV_flat fs) ⟨_, rfl, ?_⟩⟩⟩
        rw [inV_strV]
        cases h1 : decide (m.s ∈ fs) with
        | false => exact iteF (iteF ⟨g4, by rw [skip (by rw [h1]; rfl)]; exact hD4⟩)
        | true =>
          refine iteT ⟨_, rfl, x_t st' rfl ⟨_, rfl, ni_seq (.inl (SqL.of hl4)) rfl (strV_flat fs) ⟨_, rfl, ?_⟩⟩⟩
          rw [inV_strV]
          cases h2 : decide (m.t ∈ fs) with
          | true => exact iteF ⟨g4, by rw [skip (by rw [h1, h2]; rfl)]; exact hD4⟩
          | false =>
            refine iteT ⟨_, rfl, x_t st' rfl ⟨_, hD4, ?_, g4.upd' hD, ?_⟩⟩
            · rw [strV_len]
              unfold ahM
              have := List.length_filter_le (fun m : Mak => decide (m.s ∈ fs) && !decide (m.t ∈ fs)) (ms.take i)
              rw [List.length_take] at this
              rw [List.length_map, sizeLine_eq]
              omega
            · have e : ahM fs (ms.take (i + 1)) = ahM fs (ms.take i) ++ [m.t] := by
                unfold ahM
                rw [take_snoc hm, List.filter_append, List.filter_cons, h1, h2]
                simp
              rw [upd_same, e, strV_snoc]
      · rintro D hD H4 ⟨g4, hD4⟩
        rw [hR.1, List.take_length] at hD4
        have hyA : ∀ n ∈ ahM fs ms, layS n = true := fun n hn => by
          obtain ⟨m, hm, rfl⟩ := List.mem_map.mp hn
          exact hy m (List.mem_filter.mp hm).1
        dsimp only [gName, tSeq]
        refine ⟨_, rfl, le_sz (Nat.zero_le _), fun e he => ?_⟩
        refine newH he fun H5 g5 s5 => ?_
        have hD5 := g5.lst hD4
        have hl5 := (g4.trans g5).lst hl3
        refine n_data (.lst (SqL.of hD5) (dp_strA _)) (.lst (SqL.of s5) .nil) (strs_shaped hyA) (by decide) ?_
        have ev : PyData.eqv (.list ((ahM fs ms).map PyData.str)) (.list []) = (ahM fs ms).isEmpty := by
          cases ahM fs ms <;> rfl
        rw [ev]
        refine ⟨_, rfl, _, rfl, _, rfl, sl_l (SqL.of hD5) fun p hp => ?_⟩
        refine newH hp fun H6 g6 s6 => ?_
        have ec : cutV (strV (ahM fs ms)) none (some 1) = strV ((ahM fs ms).take 1) := by
          cases ahM fs ms with
          | nil => rfl
          | cons t r =>
            unfold cutV
            have e2 : HT.sIx (strV (t :: r)).length (strV (t :: r)).length (some ((1 : Nat) : Int)) = min 1 (strV (t :: r)).length := HT.sIx_nat _ _ _
            have e3 : HT.sIx (strV (t :: r)).length 0 none = 0 := rfl
            have e2 : HT.sIx (strV (t :: r)).length (strV (t :: r)).length (some 1) = 1 := by
              rw [strV_len] at e2 ⊢
              exact e2.trans (by rw [List.length_cons]; omega)
            rw [e2, e3]
            rfl
        rw [ec] at s6
        have l1 : ((ahM fs ms).take 1).length ≤ 1 := List.length_take_le _ _
        refine a_ll (g6.lst hl5) s6 (le_sz (by rw [strV_len, strV_len]; omega)) fun l2 hl2 => ?_
        refine newH hl2 fun H7 g7 s7 => ?_
        have G7 := (((g3.trans g4).trans g5).trans g6).trans g7
        have mu : ∀ (mo : Bool) (ys : List Str) (x4 x5 : Option V), H7 l2 = some (.lst (strV ys)) → muF (ms.length + 1) [some (.ref a), some (.ref b), some (.ref l2), some (.bl mo), x4, x5] H7 = 2 * (ms.length + 1 - ys.length) + (if mo then 1 else 0) := fun mo ys x4 x5 h => by
          unfold muF
          show (match H7 l2 with | some (.lst ys) => 2 * (ms.length + 1 - ys.length) + (if mo then 1 else 0) | _ => 0) = _
          rw [h]
          show 2 * (ms.length + 1 - (strV ys).length) + _ = _
          rw [strV_len]
        have s7 : H7 l2 = some (.lst (strV (fs ++ (ahM fs ms).take 1))) := by
          rw [s7]
          unfold strV
          rw [List.map_append]
        have key : Rea ms src (fs ++ (ahM fs ms).take 1) [] ∧ ((!(ahM fs ms).isEmpty) = false → ∀ f ∈ fs ++ (ahM fs ms).take 1, ∀ m ∈ ms, m.s = f → m.t ∈ fs ++ (ahM fs ms).take 1) ∧ 2 * (ms.length + 1 - (fs ++ (ahM fs ms).take 1).length) + (if (!(ahM fs ms).isEmpty) = true then 1 else 0) < 2 * (ms.length + 1 - fs.length) + 1 := by
          cases hA : ahM fs ms with
          | nil =>
            have e0 : fs ++ ([] : List Str).take 1 = fs := by simp
            rw [e0]
            refine ⟨re, fun _ f hf m hm e => ?_, by simp⟩
            by_cases z : m.t ∈ fs
            · exact z
            · have : m.t ∈ ahM fs ms := List.mem_map.mpr ⟨m, List.mem_filter.mpr ⟨hm, by rw [decide_eq_true (by rw [e]; exact hf), decide_eq_false z]; rfl⟩, rfl⟩
              rw [hA] at this
              cases this
          | cons t r =>
            have ht : t ∈ ahM fs ms := by rw [hA]; exact List.mem_cons_self
            obtain ⟨m, hm, rfl⟩ := List.mem_map.mp ht
            obtain ⟨hm1, hm2⟩ := List.mem_filter.mp hm
            rw [Bool.and_eq_true] at hm2
            have h1 : m.s ∈ fs := of_decide_eq_true hm2.1
            have h2 : m.t ∉ fs := by simpa using hm2.2
            have e0 : fs ++ (m.t :: r).take 1 = fs ++ [m.t] := by simp
            rw [e0]
            have nr : Rea ms src (fs ++ [m.t]) [] := by
              refine ⟨List.nodup_append.mpr ⟨re.nd, by simp, fun x hx y hy => by rw [List.mem_singleton.mp hy]; exact fun z : x = m.t => h2 (by rw [← z]; exact hx)⟩, List.mem_append_left _ re.st, fun f hf => ?_, fun f hf => by cases hf⟩
              rcases List.mem_append.mp hf with z | z
              · exact re.rc f z
              · rw [List.mem_singleton.mp z]
                exact Rch.snoc (re.rc _ h1) hm1
            refine ⟨nr, fun (z : true = false) => (by cases z), ?_⟩
            have q := nr.len
            rw [List.length_append] at q ⊢
            have q : fs.length + 1 ≤ ms.length + 1 := q
            show 2 * (ms.length + 1 - (fs.length + 1)) + 1 < _
            omega
        refine ⟨⟨l2, !(ahM fs ms).isEmpty, _, _, _, rfl, G7, s7, key.1, key.2.1⟩, ?_⟩
        refine Nat.lt_of_le_of_lt (Nat.le_of_eq (mu (!(ahM fs ms).isEmpty) _ _ _ s7)) ?_
        exact key.2.2
  · rintro σ H' Q Q' hm ⟨v, e, kk, h1, h2⟩
    exact ⟨v, e, kk, h1, hm _ _ h2⟩
end
end Vf
end
section
set_option Elab.async false
set_option linter.all false
set_option maxRecDepth 100000
set_option maxHeartbeats 4000000
namespace Vf
open PySem PySem.Spec PyProof.Rows L2 GxR GenW RZ PySem.W
abbrev s__law_answer_due : Stmt := top 52
abbrev n__law_answer_due : List Str := ["forms", "makers", "source", "features", "target", "everywhere", "kept", "cuts", "feature", "closed", "labels"]
abbrev p__law_answer_due : List Str := ["forms", "makers", "source", "features", "target"]
theorem sc__law_answer_due : FnScope n__law_answer_due p__law_answer_due (defScope s__law_answer_due) := ⟨rfl, rfl, rfl, by decide +kernel, rfl, by decide +kernel, by decide +kernel⟩

theorem rch_ok {F : List Fo} {ms : List Mak} {fs : List Str} {src t : Str} (r : Rch (fitM F ms fs) src t) : t = src ∨ okFor F fs t = true := by
  cases r with
  | nil => exact .inl rfl
  | snoc _ hm =>
    have q := (List.mem_filter.mp hm).2
    rw [Bool.and_eq_true] at q
    exact .inr q.2
theorem LbV.its {K : PySem.W.Frag} {H : Hp} {kvs : List (Key × V)} {L : List (Str × Lab)} (h : LbV K H kvs L) : ∃ ks : List It, kvs = ks.map (fun q => ((Sum.inr q.1 : Key), q.2.1)) ∧ ks.map (·.1) = L.map (·.1) ∧ ∀ q ∈ ks, ∃ f a l, q = (f, .ref a, labD l) ∧ LabV K H a l ∧ (f, l) ∈ L := by
  induction h with
  | nil => exact ⟨[], rfl, rfl, fun q hq => by cases hq⟩
  | @cons f a l kvs L h1 _ ih =>
    obtain ⟨ks, e1, e2, h3⟩ := ih
    refine ⟨(f, .ref a, labD l) :: ks, by rw [List.map_cons, e1], by rw [List.map_cons, List.map_cons, e2], fun q hq => ?_⟩
    rcases List.mem_cons.mp hq with rfl | hq
    · exact ⟨f, a, l, rfl, h1, List.mem_cons_self⟩
    · obtain ⟨f', a', l', x1, x2, x3⟩ := h3 q hq
      exact ⟨f', a', l', x1, x2, List.mem_cons_of_mem _ x3⟩
theorem rwv_of {K : PySem.W.Frag} {H : Hp} {L : List (Str × Lab)} : ∀ {us : List (Addr × It)}, (∀ u ∈ us, ∃ f a l, u.2 = (f, .ref a, labD l) ∧ LabV K H a l ∧ labAt L f = l ∧ SqT K H u.1 [.str f, .ref a]) → RwV K H (us.map fun u => .ref u.1) (rowsL L (us.map (·.2.1)))
  | [], _ => .nil
  | u :: us, h => by
    obtain ⟨f, a, l, e1, h1, h2, h3⟩ := h u List.mem_cons_self
    obtain ⟨t, it⟩ := u
    have e1 : it = (f, .ref a, labD l) := e1
    subst e1
    subst h2
    exact .cons h3 h1 (rwv_of fun x hx => h x (List.mem_cons_of_mem _ hx))
theorem it_lt {x y : It} (al : alike x.2.2 y.2.2 = true) (h : dataLt (itD y) (itD x) = false) : ltCps y.1.cps.toList x.1.cps.toList = false := by
  unfold itD at h
  rw [dataLt_tuple, dataLt_cons rfl] at h
  have e : PyData.eqv (.str y.1) (.str x.1) = decide (y.1 = x.1) := by
    show (y.1 == x.1) = _
    rfl
  rw [e] at h
  rw [ltCps_eq]
  by_cases z : y.1 = x.1
  · rw [z]
    exact decide_eq_false (List.lt_irrefl _)
  · rw [if_neg (by simp [z])] at h
    have e2 : dataLt (.str y.1) (.str x.1) = decide (y.1.cps.toList < x.1.cps.toList) := dataLt_str _ _
    rw [← e2]; exact h
def spDue (K : PySem.W.Frag) : Sp := fun vs H Q _ => ∃ (d a b : Addr) (kvs : List (Key × V)) (F : List Fo) (xs : List V) (ms : List Mak) (src tgt : Str) (fs : List Str), vs = [.ref d, .ref a, .str src, .ref b, .str tgt] ∧ H d = some (.dK kvs) ∧ KB K Fo.name foV H kvs F ∧ (F.map Fo.name).Nodup ∧ SqT K H a xs ∧ RB K makV H xs ms ∧ ms.length ≤ 60 ∧ (∀ m ∈ ms, 0 ≤ m.c) ∧ (∀ m ∈ ms, m.s ∈ F.map Fo.name ∧ m.t ∈ F.map Fo.name) ∧ (∀ m ∈ ms, layS m.t = true) ∧ SqT K H b (strV fs) ∧ fs.length ≤ 100 ∧ (∀ x ∈ fs, layS x = true) ∧ src ∈ F.map Fo.name ∧ tgt ∈ F.map Fo.name ∧ (∀ f ∈ F, f.name = src → hasAll (carF f) fs = true) ∧
  ∀ p H', Gr H H' → Dd K H' (.ref p) (ansB F ms src fs tgt) → (∃ cs, Clo ms src cs) → (tgt ∈ clo ms src → ∃ R, Rows (fitM F ms (ctF F ms src tgt fs).1) src R) → Q (.ref p) H'
section
variable {P : Program} {w : World} {K : PySem.W.Frag} {mg : Str → Option Value} {base : Heap}
theorem ok_due {fd : FuncData} (F : FnP K "_law_answer_due" s__law_answer_due fd) (T : TD K mg) (D__law_spread : Df P w K mg base "_law_spread" 1 p__law_spread (spSpread K)) (D__law_fit : Df P w K mg base "_law_fit" 2 p__law_fit (spFit K)) (D__law_labelled : Df P w K mg base "_law_labelled" 1 p__law_labelled (spLabelled K)) (D__law_carried : Df P w K mg base "_law_carried" 1 p__law_carried (spCarried K)) (D__law_within : Df P w K mg base "_law_within" 1 p__law_within (spWithin K)) : FnOk P w K mg base CX0 3 (He.fAd K ("_law_answer_due", none)) fd p__law_answer_due (spDue K) := by
  refine okP F sc__law_answer_due (fun vs H Q E h => by obtain ⟨d, a, b, kvs, F, xs, ms, src, tgt, fs, rfl, _⟩ := h; rfl) (fun A outer s H vs Q E hr h => ?_)
  obtain ⟨d, a, b, kvs, F, xs, ms, src, tgt, fs, rfl, hd, hK, nd, hS, hR, hl, h0, hin, hy, hb, hfs, hly, hsrc, htgt, hsf, k⟩ := h
  refine ⟨_, (pss_cons (ps_set (i := 5) sc__law_answer_due.nd rfl (by first | exact Or.inl rfl | exact Or.inr rfl) (pe_fn D__law_spread hr (by decide) rfl (pa_cons (pv 1) (pa_cons (pe_lst (pa_cons (pv 2) pa_nil)) pa_nil))))
      (pss_cons (ps_if (pt_cmpR (u_ni (K := K) rfl) (pv 4) (pv 5) (by first | exact nomark _ | rfl))
      (pss_one (ps_ret (pe_tup (pa_cons pe_str (pa_cons (pv 5) pa_nil)))))
      pss_nil)
      (pss_cons (ps_par (i := 6) (j := 7) (by rfl) sc__law_answer_due.nd rfl rfl (by decide) rfl rfl (pa_cons (pe_tup pa_nil) (pa_cons (pe_lst pa_nil) pa_nil)) (by rfl))
      (pss_cons (ps_for PassesOwn.never rfl (k_tup (K := K) rfl (pv 3)) (pg_name (i := 8) sc__law_answer_due.nd rfl (by first | exact Or.inl rfl | exact Or.inr rfl))
      (pss_cons (ps_set (i := 9) sc__law_answer_due.nd rfl (by first | exact Or.inl rfl | exact Or.inr rfl) (pe_fn D__law_spread hr (by decide) rfl (pa_cons (pe_fn D__law_fit hr (by decide) rfl (pa_cons (pv 0) (pa_cons (pv 1) (pa_cons (pe_op (u_add (K := K) rfl) (pv 6) (pe_tup (pa_cons (pv 8) pa_nil))) pa_nil)))) (pa_cons (pe_lst (pa_cons (pv 2) pa_nil)) pa_nil))))
      (pss_one (ps_if (PW.pt (pw_and (pt_cmpR (u_in (K := K) rfl) (pv 4) (pv 9) (by first | exact nomark _ | rfl)) (pw_and1 (pt_val (pe_fn D__law_within hr (by decide) rfl (pa_cons (pe_tup (pa_cons (pv 8) pa_nil)) (pa_cons (pe_fn D__law_carried hr (by decide) rfl (pa_cons (pe_dget (hu_of hr) (pv 0) (pv 4) (fun _ _ => rfl)) pa_nil)) pa_nil)))))))
      (pss_one (ps_set (i := 6) sc__law_answer_due.nd rfl (by first | exact Or.inl rfl | exact Or.inr rfl) (pe_op (u_add (K := K) rfl) (pv 6) (pe_tup (pa_cons (pv 8) pa_nil)))))
      (pss_one (ps_expr (k_bm (K := K) rfl PySem.F.plainAttrs_list PySem.F.slot_list_append PySem.F.type_list_append mt_append (pv 7) (pa_cons (pe_tup (pa_cons (pv 8) (pa_cons (pv 9) pa_nil))) pa_nil))))))))
      (pss_cons (ps_set (i := 10) sc__law_answer_due.nd rfl (by first | exact Or.inl rfl | exact Or.inr rfl) (pe_fn D__law_labelled hr (by decide) rfl (pa_cons (pe_fn D__law_fit hr (by decide) rfl (pa_cons (pv 0) (pa_cons (pv 1) (pa_cons (pv 6) pa_nil)))) (pa_cons (pe_lst (pa_cons (pv 2) pa_nil)) pa_nil))))
      (pss_one (ps_ret (pe_tup (pa_cons pe_str (pa_cons (pv 6) (pa_cons (pe_ix (u_ix (K := K) rfl) (pe_dget (hu_of hr) (pv 10) (pv 4) (fun _ _ => rfl)) pe_int (fun _ _ => rfl)) (pa_cons (k_tuple (K := K) rfl rfl T.b_tuple (pv 7)) (pa_cons (k_tuple (K := K) rfl rfl T.b_tuple (pe_sortItems (K := K) rfl rfl hr.units rfl T.b_sorted (pv 10))) pa_nil))))))))))))), ?_⟩
  refine ⟨_, rfl, _, rfl, le_sz (show 1 ≤ 10000 by omega), fun p0 hp0 => ?_⟩
  refine newH hp0 fun H0 g0 s0 => ?_
  refine ⟨a, p0, xs, ms, src, true, rfl, g0.seqT hS, hR.gr g0, hl, hy, SqL.of s0, fun p cs H1 g1 sp hc => ?_⟩
  have ec := hc.eq
  refine ⟨_, rfl, _, rfl, ni_seq (.inr sp) rfl (strV_flat cs) ⟨_, rfl, ?_⟩⟩
  rw [inV_strV]
  refine ite2 (fun hn => ?_) (fun hn => ?_)
  · refine ⟨_, rfl, le_sz (show 2 ≤ 10000 by omega), fun q hq => ?_⟩
    refine newH hq fun H2 g2 s2 => ?_
    have hn : tgt ∉ cs := by simpa using hn
    refine k q H2 ((g0.trans g1).trans g2) ?_ ⟨cs, hc⟩ (fun z => absurd (by rw [ec] at z; exact z) hn)
    unfold ansB
    rw [ec, if_neg hn]
    exact .tup (SqT.of s2) (.cons (.str _) (.cons (dd_stT (g2.seqT sp)) .nil))
  have hn : tgt ∈ cs := by simpa using hn
  have hcl : tgt ∈ clo (fitM F ms []) src := by rw [fitM_nil hin, ec]; exact hn
  obtain ⟨ft, hft, eft⟩ := List.mem_map.mp htgt
  refine ⟨le_sz (Nat.zero_le _), fun k0 hk0 => ?_⟩
  refine newH hk0 fun H2 g2 s2 => ?_
  refine ⟨le_sz (Nat.zero_le _), fun W hW => ?_⟩
  have hWf : H W = none := ((g0.trans g1).trans g2).free hW
  refine newH hW fun H3 g3 s3 => ?_
  have G3 := ((g0.trans g1).trans g2).trans g3
  refine ⟨_, _, rfl, ?_⟩
  refine ⟨_, rfl, b, rfl, ⟨_, G3.seqT hb⟩, ?_⟩
  refine for_tup (K := K) (a := b) (xs := strV fs) (fun i σ H' => ∃ (o8 o9 o10 : Option V) (kq : Addr) (ys : List V), σ = [some (.ref d), some (.ref a), some (.str src), some (.ref b), some (.str tgt), some (.ref p), some (.ref kq), some (.ref W), o8, o9, o10] ∧ Gr H H' ∧ SqT K H' kq (strV (ctF F ms src tgt (fs.take i)).1) ∧ H' W = some (.lst ys) ∧ CtV K H' ys (ctF F ms src tgt (fs.take i)).2 ∧ (ctF F ms src tgt (fs.take i)).1.length ≤ i ∧ (∀ x ∈ (ctF F ms src tgt (fs.take i)).1, x ∈ fs) ∧ (ctF F ms src tgt (fs.take i)).2.length ≤ i ∧ tgt ∈ clo (fitM F ms (ctF F ms src tgt (fs.take i)).1) src)
    ⟨none, none, none, k0, [], rfl, G3, g3.seqT (SqT.of s2), s3, .nil, Nat.le_refl _, fun x hx => (by cases hx), Nat.le_refl _, hcl⟩ ?_ ?_ ?_
  · rintro i σ H' _ ⟨o8, o9, o10, kq, ys, rfl, g, _⟩
    exact g.seqT hb
  · rintro i x σ H4 hx ⟨o8, o9, o10, kq, ys, rfl, g4, sk, hW4, hC, lk, kin, lc, ht⟩
    have il : i < fs.length := by
      have := (List.getElem?_eq_some_iff.mp hx).1
      rwa [strV_len] at this
    obtain ⟨f, hf, rfl⟩ : ∃ f, fs[i]? = some f ∧ x = .str f := by
      refine ⟨fs[i], List.getElem?_eq_getElem il, ?_⟩
      unfold strV at hx
      rw [List.getElem?_map, List.getElem?_eq_getElem il] at hx
      exact (Option.some.inj hx).symm
    have hff := List.mem_of_getElem? hf
    rw [take_snoc hf, ctF_snoc]
    generalize ctF F ms src tgt (fs.take i) = pp at *
    obtain ⟨kept, cuts⟩ := pp
    have lk : kept.length ≤ i := lk
    have lc : cuts.length ≤ i := lc
    have kin : ∀ x ∈ kept, x ∈ fs := kin
    have ht : tgt ∈ clo (fitM F ms kept) src := ht
    have sk : SqT K H4 kq (strV kept) := sk
    have hC : CtV K H4 ys cuts := hC
    have hff2 : ∀ x ∈ kept ++ [f], x ∈ fs := fun x hx => (List.mem_append.mp hx).elim (kin x) fun z => by rw [List.mem_singleton.mp z]; exact hff
    dsimp only [gName, tSeq]
    refine ⟨_, rfl, _, rfl, _, rfl, _, rfl, le_sz (show 1 ≤ 10000 by omega), fun f1 hf1 => ?_⟩
    refine newH hf1 fun H5 g5 s5 => ?_
    refine a_ttG (g5.seqT sk) (SqT.of s5) (le_sz (by rw [strV_len]; show _ + 1 ≤ _; omega)) fun q H6 g6 sq6 => ?_
    have sq6 : SqT K H6 q (strV (kept ++ [f])) := by rw [strV_snoc]; exact sq6
    have G6 := (g4.trans g5).trans g6
    refine ⟨d, a, q, kvs, F, xs, ms, kept ++ [f], rfl, G6.keep' hd, hK.gr G6, nd, G6.seqT hS, hR.gr G6, hl, hin, sq6, by rw [List.length_append]; show _ + 1 ≤ _; omega, fun x hx => hly x (hff2 x hx), fun l ys' H7 g7 hl7 hR7 => ?_⟩
    refine ⟨_, rfl, le_sz (show 1 ≤ 10000 by omega), fun p1 hp1 => ?_⟩
    refine newH hp1 fun H8 g8 s8 => ?_
    have fl := fitM_len (F := F) (ms := ms) (fs := kept ++ [f])
    refine ⟨l, p1, ys', fitM F ms (kept ++ [f]), src, false, rfl, SqL.of (g8.lst hl7), hR7.gr g8, by omega, fun m hm => hy m (fitM_sub m hm), SqL.of s8, fun p2 cs2 H9 g9 sp2 hc2 => ?_⟩
    have ec2 := hc2.eq
    have G49 := (((g5.trans g6).trans g7).trans g8).trans g9
    have G9 := g4.trans G49
    have sk9 := G49.seqT sk
    have hW9 := G49.lst hW4
    have hC9 := hC.kp (Kp.gr G49)
    refine ⟨_, rfl, _, rfl, in_seq (.inr sp2) rfl (strV_flat cs2) ⟨_, rfl, ?_⟩⟩
    rw [inV_strV]
    unfold ctS
    rw [ec2]
    cases hn2 : decide (tgt ∈ cs2) with
    | false =>
      have hn : tgt ∉ cs2 := of_decide_eq_false hn2
      rw [if_neg hn]
      refine iteF (iteF ?_)
      refine ⟨_, rfl, .inl ⟨rfl, _, SqL.of hW9⟩, ?_⟩
      refine ⟨_, rfl, _, rfl, le_sz (show 2 ≤ 10000 by omega), fun t ht' => ?_⟩
      refine newH ht' fun H10 g10 s10 => ?_
      have hW10 := g10.lst hW9
      refine ⟨W, _, _, rfl, rfl, hW10, by rw [hC.len, sizeLine_eq]; show cuts.length < _; omega, ?_⟩
      have kp10 : Kp K H10 (upd H10 W (.lst (ys ++ [.ref t]))) := Kp.lst hW10
      refine ⟨_, _, _, kq, _, rfl, (G9.trans g10).upd' hWf, kp10.s _ _ (g10.seqT sk9), upd_same, ?_, Nat.le_succ_of_le lk, kin, ?_, ht⟩
      · exact ((hC9.kp (Kp.gr g10)).kp kp10).snoc (kp10.s _ _ (SqT.of s10)) (kp10.s _ _ (g10.seqT sp2))
      · show (cuts ++ [_]).length ≤ i + 1
        rw [List.length_append]
        exact Nat.succ_le_succ lc
    | true =>
      have hn : tgt ∈ cs2 := of_decide_eq_true hn2
      rw [if_pos hn]
      have hcar : hasAll (carF ft) [f] = true := by
        have all : hasAll (carF ft) (kept ++ [f]) = true := by
          rcases rch_ok ((hc2.mem tgt).mp hn) with z | z
          · have z2 := hsf ft hft (eft.trans z)
            unfold hasAll at z2 ⊢
            rw [List.all_eq_true] at z2 ⊢
            exact fun x hx => z2 x (hff2 x hx)
          · rw [← eft, okFor_at nd hft] at z
            exact z
        unfold hasAll at all ⊢
        rw [List.all_eq_true] at all ⊢
        exact fun x hx => all x (List.mem_append_right _ hx)
      refine iteT ⟨_, rfl, le_sz (show 1 ≤ 10000 by omega), fun f2 hf2 => ?_⟩
      refine newH hf2 fun H10 g10 s10 => ?_
      have G10 := G9.trans g10
      obtain ⟨tt, d1, sq1⟩ := (hK.gr G10).get nd hft
      rw [eft] at d1
      refine ⟨_, rfl, _, rfl, d, _, rfl, d1 ▸ DGet.k (k := Sum.inr tgt) (G10.keep' hd), tt, ft, rfl, sq1, fun pc H11 g11 spc => ?_⟩
      refine ⟨f2, pc, [f], carF ft, rfl, SqT.of (g11.tup s10), spc, by simp, fun x hx => by rw [List.mem_singleton.mp hx]; exact hly f hff, fun H12 g12 => ⟨_, rfl, ?_⟩⟩
      rw [hcar]
      refine iteT ?_
      have G12 := (g10.trans g11).trans g12
      refine ⟨_, rfl, _, rfl, le_sz (show 1 ≤ 10000 by omega), fun f3 hf3 => ?_⟩
      refine newH hf3 fun H13 g13 s13 => ?_
      refine a_ttG ((G12.trans g13).seqT sk9) (SqT.of s13) (le_sz (by rw [strV_len]; show _ + 1 ≤ _; omega)) fun q2 H14 g14 sq14 => ?_
      have G14 := (G12.trans g13).trans g14
      refine ⟨_, _, _, q2, ys, rfl, G9.trans G14, ?_, G14.lst hW9, hC9.kp (Kp.gr G14), ?_, ?_, Nat.le_succ_of_le lc, ?_⟩
      · show SqT K H14 q2 (strV (kept ++ [f]))
        rw [strV_snoc]
        exact sq14
      · show (kept ++ [f]).length ≤ i + 1
        rw [List.length_append]
        exact Nat.succ_le_succ lk
      · exact hff2
      · show tgt ∈ clo (fitM F ms (kept ++ [f])) src
        rw [ec2]; exact hn
  · rintro σ H4 ⟨o8, o9, o10, kq, ys, rfl, g4, sk, hW4, hC, lk, kin, lc, ht⟩
    rw [strV_len, List.take_length] at sk hC lk kin lc ht
    have ea : ansB F ms src fs tgt = .tuple [.str "chain", strD (ctF F ms src tgt fs).1, strD (nsAt (rws (fitM F ms (ctF F ms src tgt fs).1) src) tgt), .tuple ((ctF F ms src tgt fs).2.map cutD), .tuple ((rws (fitM F ms (ctF F ms src tgt fs).1) src).map rowD)] := by
      unfold ansB
      rw [if_pos (by rw [ec]; exact hn)]
    have k := fun p H' g dd (hr : ∃ R, Rows (fitM F ms (ctF F ms src tgt fs).1) src R) => k p H' g dd ⟨cs, hc⟩ (fun _ => hr)
    rw [ea] at k
    clear ea
    generalize ctF F ms src tgt fs = pp at *
    obtain ⟨kept, cuts⟩ := pp
    have lk : kept.length ≤ fs.length := lk
    have lc : cuts.length ≤ fs.length := lc
    have kin : ∀ x ∈ kept, x ∈ fs := kin
    have ht : tgt ∈ clo (fitM F ms kept) src := ht
    have sk : SqT K H4 kq (strV kept) := sk
    have hC : CtV K H4 ys cuts := hC
    have k : ∀ (p : Addr) (H' : Hp), Gr H H' → Dd K H' (V.ref p) (.tuple [.str "chain", strD kept, strD (nsAt (rws (fitM F ms kept) src) tgt), .tuple (cuts.map cutD), .tuple ((rws (fitM F ms kept) src).map rowD)]) → (∃ R, Rows (fitM F ms kept) src R) → Q (V.ref p) H' := k
    dsimp only [gName, tSeq]
    refine ⟨_, rfl, _, rfl, _, rfl, ?_⟩
    refine ⟨d, a, kq, kvs, F, xs, ms, kept, rfl, g4.keep' hd, hK.gr g4, nd, g4.seqT hS, hR.gr g4, hl, hin, sk, by omega, fun x hx => hly x (kin x hx), fun l ys' H6 g6 hl6 hR6 => ?_⟩
    refine ⟨_, rfl, le_sz (show 1 ≤ 10000 by omega), fun p1 hp1 => ?_⟩
    refine newH hp1 fun H7 g7 s7 => ?_
    have fl := fitM_len (F := F) (ms := ms) (fs := kept)
    refine ⟨l, p1, ys', fitM F ms kept, src, false, rfl, SqL.of (g7.lst hl6), hR6.gr g7, by omega, fun m hm => h0 m (fitM_sub m hm), SqL.of s7, fun D H8 kvs2 L g8 frD hD8 hL8 mi lnL => ?_⟩
    have G8 := ((g4.trans g6).trans g7).trans g8
    have sk8 := ((g6.trans g7).trans g8).seqT sk
    have hW8 := ((g6.trans g7).trans g8).lst hW4
    have hC8 := hC.kp (Kp.gr ((g6.trans g7).trans g8))
    have hpt : (tgt, labAt L tgt) ∈ L := by
      obtain ⟨l, w⟩ : ∃ l, Wk (fitM F ms kept) src l tgt := by
        have he : ∃ cs, Clo (fitM F ms kept) src cs := by
          by_cases z : ∃ cs, Clo (fitM F ms kept) src cs
          · exact z
          · unfold clo at ht
            rw [dif_neg z] at ht
            cases ht
        obtain ⟨cs', hcs⟩ := he
        rw [hcs.eq] at ht
        exact ((hcs.mem tgt).mp ht).wk
      obtain ⟨l', h1, _⟩ := mi.mi l tgt w
      rw [labAt_of mi.nd h1]
      exact h1
    obtain ⟨ks, ek, ef, hks⟩ := hL8.its
    obtain ⟨la, e1, n, lV1, lV2⟩ := hL8.at mi.nd hpt
    refine ⟨_, rfl, _, rfl, _, rfl, D, _, rfl, e1 ▸ DGet.k (k := Sum.inr tgt) hD8, x_t lV1 rfl ⟨_, rfl, ⟨.inl ⟨W, _, rfl, SqL.of hW8, fun t3 ht3 => ?_⟩⟩⟩⟩
    refine newH ht3 fun H9 g9 s9 => ?_
    have lks : ks.length ≤ 61 := by
      have := congrArg List.length ef
      rw [List.length_map, List.length_map] at this
      omega
    have alk : ∀ q ∈ ks, ∀ q' ∈ ks, alike q.2.2 q'.2.2 = true := fun q hq q' hq' => by
      obtain ⟨f, a, l, rfl, _⟩ := hks q hq
      obtain ⟨f', a', l', rfl, _⟩ := hks q' hq'
      exact alike_lab l l'
    refine ⟨_, rfl, D, ks, rfl, by rw [g9.keep' hD8, ek], by omega, fun q hq => ?_, alk, fun us p2 H10 pm sr g10 htu hp2 => ?_⟩
    · obtain ⟨f, a, l, rfl, lV, _⟩ := hks q hq
      refine ⟨fun H' g' => ((lV.gr g9).gr g').dp, Nat.le_trans (lab_depth l) (by decide), by simp [labD, strD, noLst, noLstA, strs_nol], by simp [labD, strD, PyData.plain, PyData.plainAll, strs_plain]⟩
    · have so : sortedS (us.map (·.2.1)) = true := by
        refine sortedS_of_pairwise _ ?_
        rw [List.pairwise_map]
        refine List.Pairwise.imp_of_mem (fun {x y} hx hy h => ?_) sr
        have mx : x.2 ∈ ks := pm.mem_iff.mp (List.mem_map.mpr ⟨x, hx, rfl⟩)
        have my : y.2 ∈ ks := pm.mem_iff.mp (List.mem_map.mpr ⟨y, hy, rfl⟩)
        exact it_lt (alk _ mx _ my) h
      have pn : (us.map (·.2.1)).Perm (L.map (·.1)) := by
        have := pm.map (·.1)
        rw [ef, List.map_map] at this
        exact this
      have rw1 := rowsL_of mi pn so
      rw [rw1.eq, nsAt_of rw1.mi.nd ((rowsL_mem mi.nd pn _).mpr hpt)] at k
      have rv : RwV K H10 (us.map fun u => .ref u.1) (rowsL L (us.map (·.2.1))) := rwv_of fun u hu => by
        have mu : u.2 ∈ ks := pm.mem_iff.mp (List.mem_map.mpr ⟨u, hu, rfl⟩)
        obtain ⟨f, a, l, eu, lV, hm⟩ := hks u.2 mu
        refine ⟨f, a, l, eu, (lV.gr g9).gr g10, labAt_of mi.nd hm, ?_⟩
        have q := htu u hu
        rw [eu] at q
        exact SqT.of q
      refine ⟨.inl ⟨p2, _, rfl, SqL.of hp2, fun t4 ht4 => ?_⟩⟩
      refine newH ht4 fun H11 g11 s11 => ?_
      refine ⟨le_sz (show 5 ≤ 10000 by omega), fun q hq => ?_⟩
      refine newH hq fun H12 g12 s12 => ?_
      have G12 := ((g9.trans g10).trans g11).trans g12
      refine k q H12 (G8.trans G12) (.tup (SqT.of s12) (.cons (.str _) (.cons (dd_stT (G12.seqT sk8)) (.cons (dd_stT (G12.seqT lV2)) (.cons (.tup (((g10.trans g11).trans g12).seqT (SqT.of s9)) ?_) (.cons (.tup (g12.seqT (SqT.of s11)) ?_) .nil)))))) ⟨_, rw1⟩
      · exact (hC8.kp (Kp.gr G12)).dd
      · exact (rv.kp (Kp.gr (g11.trans g12))).dd
end
end Vf
end
section
set_option Elab.async false
set_option linter.all false
set_option maxRecDepth 100000
set_option maxHeartbeats 4000000
namespace Vf
open PySem PySem.Spec PyProof.Rows L2 GxR GenW RZ PySem.W
/-! ### small data, to be shown -/
structure Smd (k n : Nat) (d : PyData) : Prop where
  c : PyData.canLay0 d = true
  p : PyData.depth d ≤ k
  w : PyData.weight d ≤ n
  i : PyData.intsShort 13 d = true
  s : PyData.showable d = true
  h : PyData.hasDict d = false
structure SmA (k n : Nat) (ds : List PyData) : Prop where
  c : PyData.canLayAll0 ds = true
  p : PyData.depthAll ds ≤ k
  w : PyData.weightAll ds ≤ n
  i : PyData.intsShortAll 13 ds = true
  s : PyData.showableAll ds = true
  h : PyData.hasDictAll ds = false
theorem SmA.nil {k : Nat} : SmA k 0 [] := ⟨rfl, Nat.zero_le _, Nat.le_refl _, rfl, rfl, rfl⟩
theorem SmA.cons {k n m : Nat} {d : PyData} {ds : List PyData} (h : Smd k n d) (t : SmA k m ds) : SmA k (n + 1 + m) (d :: ds) := by
  refine ⟨?_, ?_, ?_, ?_, ?_, ?_⟩
  · show (PyData.canLay0 d && PyData.canLayAll0 ds) = true
    rw [h.c, t.c]; rfl
  · show max (PyData.depth d) (PyData.depthAll ds) ≤ k
    exact Nat.max_le.mpr ⟨h.p, t.p⟩
  · show PyData.weight d + 1 + PyData.weightAll ds ≤ _
    have := h.w
    have := t.w
    omega
  · show (PyData.intsShort 13 d && PyData.intsShortAll 13 ds) = true
    rw [h.i, t.i]; rfl
  · show (PyData.showable d && PyData.showableAll ds) = true
    rw [h.s, t.s]; rfl
  · show (PyData.hasDict d || PyData.hasDictAll ds) = false
    rw [h.h, t.h]; rfl
theorem Smd.tup {k n : Nat} {ds : List PyData} (t : SmA k n ds) : Smd (k + 1) n (.tuple ds) := ⟨t.c, Nat.succ_le_succ t.p, t.w, t.i, t.s, t.h⟩
theorem Smd.mono {k n k' n' : Nat} {d : PyData} (h : Smd k n d) (hk : k ≤ k') (hn : n ≤ n') : Smd k' n' d := ⟨h.c, Nat.le_trans h.p hk, Nat.le_trans h.w hn, h.i, h.s, h.h⟩
theorem SmA.mono {k n k' n' : Nat} {ds : List PyData} (h : SmA k n ds) (hk : k ≤ k') (hn : n ≤ n') : SmA k' n' ds := ⟨h.c, Nat.le_trans h.p hk, Nat.le_trans h.w hn, h.i, h.s, h.h⟩
theorem SmA.of {k n : Nat} : ∀ {ds : List PyData}, (∀ d ∈ ds, Smd k n d) → SmA k (ds.length * (n + 1)) ds
  | [], _ => (SmA.nil).mono (Nat.le_refl _) (Nat.zero_le _)
  | d :: ds, h => by
    have q := SmA.cons (h d List.mem_cons_self) (SmA.of fun x hx => h x (List.mem_cons_of_mem _ hx))
    refine q.mono (Nat.le_refl _) ?_
    rw [List.length_cons, Nat.succ_mul]
    omega
theorem Smd.four {k n : Nat} {d : PyData} (h : Smd k n d) (hk : k ≤ 50) (hn : n ≤ 1000000) : d.showable = true ∧ (d.hasDict = true → noLst d = true) ∧ d.depth < 60 ∧ d.shown.length ≤ sizeLine := by
  have hl : PyData.layable0 d = true := by
    unfold PyData.layable0
    rw [h.c, decide_eq_true (Nat.le_trans h.p (by omega)), decide_eq_true (Nat.le_trans h.w (by omega))]
    rfl
  refine ⟨h.s, fun z => ?_, Nat.lt_of_le_of_lt h.p (by omega), Nat.le_trans (shown_le13 hl h.i) (by rw [sizeLine_eq]; omega)⟩
  rw [h.h] at z
  cases z
theorem Smd.str {k n : Nat} {x : Str} (h : layS x = true) (hn : x.length ≤ n) : Smd k n (.str x) := ⟨h, Nat.zero_le _, hn, rfl, rfl, rfl⟩
theorem Smd.strs {k n m : Nat} {ns : List Str} (h : ∀ x ∈ ns, layS x = true ∧ x.length ≤ n) (hm : ns.length ≤ m) : Smd (k + 1) (m * (n + 1)) (strD ns) := by
  refine Smd.tup ?_
  have q := SmA.of (k := k) (n := n) (ds := ns.map PyData.str) fun d hd => by
    obtain ⟨x, hx, rfl⟩ := List.mem_map.mp hd
    exact Smd.str (h x hx).1 (h x hx).2
  refine q.mono (Nat.le_refl _) ?_
  rw [List.length_map]
  exact Nat.mul_le_mul_right _ hm
theorem log2_small {n : Nat} (h : n < 10 ^ 12) : n.log2 < 40 := by
  by_cases z : n = 0
  · subst z; decide
  · exact (Nat.log2_lt z).mpr (Nat.lt_of_lt_of_le h (by decide))
theorem Smd.int {k : Nat} {i : Int} (h : i.natAbs < 10 ^ 12) : Smd k 41 (.int i) := by
  have q := log2_small h
  refine ⟨by simp [PyData.canLay0], Nat.zero_le _, ?_, decide_eq_true (PyData.shown_int_le h), by simp only [PyData.showable]; exact decide_eq_true (by omega), rfl⟩
  show (if i == 0 then 0 else i.natAbs.log2 + 1) ≤ 41
  split
  · omega
  · omega
/-- what the names of forms and makers, and the labels, keep to -/
structure LabS (l : Lab) : Prop where
  c : l.c.natAbs < 10 ^ 12
  k : l.k ≤ 1000000
  n : l.ns.length ≤ 100
  s : ∀ x ∈ l.ns, layS x = true ∧ x.length ≤ 12
theorem LabS.smd {l : Lab} (h : LabS l) : Smd 2 1400 (labD l) := by
  have q := SmA.cons (k := 1) (Smd.int h.c) (SmA.cons (Smd.int (i := (l.k : Nat)) (by have := h.k; show l.k < _; omega)) (SmA.cons (Smd.strs h.s h.n) SmA.nil))
  exact (Smd.tup q).mono (Nat.le_refl _) (by decide)
theorem ans_smd {kept ns : List Str} {cuts : List (Str × List Str)} {R : List (Str × Lab)} (h1 : ∀ x ∈ kept, layS x = true ∧ x.length ≤ 12) (h2 : kept.length ≤ 100) (h3 : ∀ x ∈ ns, layS x = true ∧ x.length ≤ 12) (h4 : ns.length ≤ 100)
    (h5 : ∀ c ∈ cuts, (layS c.1 = true ∧ c.1.length ≤ 12) ∧ c.2.length ≤ 100 ∧ ∀ x ∈ c.2, layS x = true ∧ x.length ≤ 12) (h6 : cuts.length ≤ 10) (h7 : ∀ r ∈ R, (layS r.1 = true ∧ r.1.length ≤ 12) ∧ LabS r.2) (h8 : R.length ≤ 100) :
    Smd 10 1000000 (.tuple [.str "chain", strD kept, strD ns, .tuple (cuts.map cutD), .tuple (R.map rowD)]) := by
  have c1 : SmA 2 (cuts.length * (1400 + 1)) (cuts.map cutD) := by
    have q := SmA.of (k := 2) (n := 1400) (ds := cuts.map cutD) fun d hd => by
      obtain ⟨c, hc, rfl⟩ := List.mem_map.mp hd
      obtain ⟨a1, a2, a3⟩ := h5 c hc
      exact (Smd.tup (SmA.cons (k := 1) (Smd.str a1.1 a1.2) (SmA.cons (Smd.strs a3 a2) SmA.nil))).mono (Nat.le_refl _) (by decide)
    rwa [List.length_map] at q
  have c2 : SmA 3 (R.length * (1500 + 1)) (R.map rowD) := by
    have q := SmA.of (k := 3) (n := 1500) (ds := R.map rowD) fun d hd => by
      obtain ⟨r, hr, rfl⟩ := List.mem_map.mp hd
      obtain ⟨a1, a2⟩ := h7 r hr
      exact (Smd.tup (SmA.cons (k := 2) (Smd.str a1.1 a1.2) (SmA.cons a2.smd SmA.nil))).mono (Nat.le_refl _) (by decide)
    rwa [List.length_map] at q
  have q := SmA.cons (k := 4) (Smd.str (n := 12) (x := "chain") (by decide +kernel) (by decide +kernel)) (SmA.cons ((Smd.strs (k := 0) h1 h2).mono (k' := 4) (by decide) (Nat.le_refl _)) (SmA.cons ((Smd.strs (k := 0) h3 h4).mono (k' := 4) (by decide) (Nat.le_refl _)) (SmA.cons ((Smd.tup c1).mono (k' := 4) (by decide) (Nat.le_refl _)) (SmA.cons ((Smd.tup c2).mono (k' := 4) (by decide) (Nat.le_refl _)) SmA.nil))))
  refine (Smd.tup q).mono (by decide) ?_
  omega
end Vf
end
section
set_option Elab.async false
set_option linter.all false
set_option maxRecDepth 100000
set_option maxHeartbeats 4000000
namespace Vf
open PySem PySem.Spec PyProof.Rows L2 GxR GenW RZ PySem.W
abbrev Nm (x : Str) : Prop := layS x = true ∧ x.length ≤ 12
/-- makers as the law draws them -/
structure MkS (ms : List Mak) : Prop where
  l : ms.length ≤ 60
  n : ∀ m ∈ ms, Nm m.n ∧ Nm m.t
  c : ∀ m ∈ ms, 0 ≤ m.c ∧ m.c ≤ 1000
theorem MkS.sub {ms ms' : List Mak} (h : MkS ms) (hs : ∀ m ∈ ms', m ∈ ms) (hl : ms'.length ≤ ms.length) : MkS ms' := ⟨Nat.le_trans hl h.l, fun m hm => h.n m (hs m hm), fun m hm => h.c m (hs m hm)⟩
theorem Wk.nm {ms : List Mak} {src f : Str} {l : Lab} (h : MkS ms) (hs : Nm src) (w : Wk ms src l f) : Nm f := by
  cases w with
  | nil => exact hs
  | snoc _ hm _ => exact (h.n _ hm).2
theorem Wk.cost {ms : List Mak} {src f : Str} {l : Lab} (h : MkS ms) (w : Wk ms src l f) : 0 ≤ l.c ∧ l.c ≤ 1000 * (l.k : Int) ∧ ∀ x ∈ l.ns, Nm x := by
  induction w with
  | nil => exact ⟨Int.le_refl _, Int.le_refl _, fun x hx => by cases hx⟩
  | @snoc l f m _ hm _ ih =>
    obtain ⟨a1, a2, a3⟩ := ih
    obtain ⟨b1, b2⟩ := h.c m hm
    refine ⟨?_, ?_, fun x hx => ?_⟩
    · show 0 ≤ l.c + m.c
      omega
    · show l.c + m.c ≤ 1000 * ((l.k + 1 : Nat) : Int)
      omega
    · rcases List.mem_append.mp hx with z | z
      · exact a3 x z
      · rw [List.mem_singleton.mp z]
        exact (h.n m hm).1
theorem Min.short_k {ms : List Mak} {src f : Str} {l : Lab} {R : List (Str × Lab)} (h : MkS ms) (mi : Min ms src R) (hp : (f, l) ∈ R) : l.k ≤ ms.length := by
  have w : Wk ms src l f := mi.wk _ hp
  obtain ⟨p, hpth, e⟩ := wk_pth w
  obtain ⟨q, h1, h2, h3⟩ := short_pth (fun m hm => (h.c m hm).1) _ p rfl hpth
  have wq := pth_wk h1
  obtain ⟨l', h4, h5⟩ := mi.mi _ f wq
  have := nd_at mi.nd hp h4
  subst this
  have e : l = labP Lab.zero p := e
  rw [← e] at h3
  have := Lab.tot w.ok wq.ok h5 h3
  rw [this, labP_k]
  show 0 + q.length ≤ _
  omega
theorem Min.labS {ms : List Mak} {src : Str} {R : List (Str × Lab)} (h : MkS ms) (hs : Nm src) (mi : Min ms src R) : (∀ r ∈ R, Nm r.1 ∧ LabS r.2) ∧ R.length ≤ 100 := by
  refine ⟨fun r hr => ?_, ?_⟩
  · obtain ⟨f, l⟩ := r
    have w := mi.wk _ hr
    obtain ⟨a1, a2, a3⟩ := Wk.cost h w
    have kk := mi.short_k h hr
    have hl := h.l
    have ok : l.k = l.ns.length := w.ok
    refine ⟨Wk.nm h hs w, ⟨?_, by show l.k ≤ _; omega, by show l.ns.length ≤ _; omega, a3⟩⟩
    show l.c.natAbs < 10 ^ 12
    have a1 : 0 ≤ l.c := a1
    have a2 : l.c ≤ 1000 * (l.k : Int) := a2
    have : (10 : Nat) ^ 12 = 1000000000000 := by decide
    omega
  · have z := nodup_len (m := src :: ms.map Mak.t) mi.nd fun f hf => by
      obtain ⟨p, hp, rfl⟩ := List.mem_map.mp hf
      exact (mi.wk p hp).in
    rw [List.length_map, List.length_cons, List.length_map] at z
    have := h.l
    omega
theorem rws_S {ms : List Mak} {src : Str} (h : MkS ms) (hs : Nm src) : (∀ r ∈ rws ms src, Nm r.1 ∧ LabS r.2) ∧ (rws ms src).length ≤ 100 := by
  unfold rws
  split
  · rename_i z
    exact (z.choose_spec.mi).labS h hs
  · exact ⟨fun r hr => by (cases hr), Nat.zero_le _⟩
theorem clo_S {ms : List Mak} {src : Str} (h : MkS ms) (hs : Nm src) : (∀ x ∈ clo ms src, Nm x) ∧ (clo ms src).length ≤ 100 := by
  unfold clo
  split
  · rename_i z
    have q := z.choose_spec
    refine ⟨fun x hx => ?_, ?_⟩
    · obtain ⟨l, w⟩ := ((q.mem x).mp hx).wk
      exact Wk.nm h hs w
    · have z := nodup_len (m := src :: ms.map Mak.t) q.nd fun f hf => ((q.mem f).mp hf).in
      rw [List.length_cons, List.length_map] at z
      have := h.l
      omega
  · exact ⟨fun r hr => by (cases hr), Nat.zero_le _⟩
theorem ctF_S {F : List Fo} {ms : List Mak} {src tgt : Str} {fs : List Str} (h : MkS ms) (hs : Nm src) (hf : ∀ x ∈ fs, Nm x) : ∀ n, n ≤ fs.length →
    (∀ x ∈ (ctF F ms src tgt (fs.take n)).1, Nm x) ∧ (ctF F ms src tgt (fs.take n)).1.length ≤ n ∧ (∀ c ∈ (ctF F ms src tgt (fs.take n)).2, Nm c.1 ∧ c.2.length ≤ 100 ∧ ∀ x ∈ c.2, Nm x) ∧ (ctF F ms src tgt (fs.take n)).2.length ≤ n
  | 0, _ => ⟨fun x hx => by (cases hx), Nat.le_refl _, fun x hx => by (cases hx), Nat.le_refl _⟩
  | n + 1, hn => by
    obtain ⟨a1, a2, a3, a4⟩ := ctF_S (F := F) (tgt := tgt) h hs hf n (by omega)
    have e : fs[n]? = some (fs[n]'(by omega)) := List.getElem?_eq_getElem (by omega)
    rw [take_snoc e, ctF_snoc]
    have hx := hf _ (List.getElem_mem (show n < fs.length by omega))
    generalize fs[n]'(by omega) = f at *
    generalize ctF F ms src tgt (fs.take n) = pp at *
    unfold ctS
    have cs := clo_S (src := src) (h.sub (ms' := fitM F ms (pp.1 ++ [f])) fitM_sub fitM_len) hs
    split
    · refine ⟨fun x hx' => ?_, ?_, a3, Nat.le_succ_of_le a4⟩
      · rcases List.mem_append.mp hx' with z | z
        · exact a1 x z
        · rw [List.mem_singleton.mp z]; exact hx
      · rw [List.length_append]; exact Nat.succ_le_succ a2
    · refine ⟨a1, Nat.le_succ_of_le a2, fun c hc => ?_, ?_⟩
      · rcases List.mem_append.mp hc with z | z
        · exact a3 c z
        · rw [List.mem_singleton.mp z]; exact ⟨hx, cs.2, cs.1⟩
      · rw [List.length_append]; exact Nat.succ_le_succ a4
theorem ansB_four {F : List Fo} {ms : List Mak} {src tgt : Str} {fs : List Str} (h : MkS ms) (hs : Nm src) (hf : ∀ x ∈ fs, Nm x) (hl : fs.length ≤ 10) : (ansB F ms src fs tgt).showable = true ∧ ((ansB F ms src fs tgt).hasDict = true → noLst (ansB F ms src fs tgt) = true) ∧ (ansB F ms src fs tgt).depth < 60 ∧ (ansB F ms src fs tgt).shown.length ≤ sizeLine := by
  obtain ⟨a1, a2, a3, a4⟩ := ctF_S (F := F) (tgt := tgt) h hs hf fs.length (Nat.le_refl _)
  rw [List.take_length] at a1 a2 a3 a4
  unfold ansB
  split
  · have r := rws_S (src := src) (h.sub (ms' := fitM F ms (ctF F ms src tgt fs).1) fitM_sub fitM_len) hs
    have ns : (∀ x ∈ nsAt (rws (fitM F ms (ctF F ms src tgt fs).1) src) tgt, Nm x) ∧ (nsAt (rws (fitM F ms (ctF F ms src tgt fs).1) src) tgt).length ≤ 100 := by
      unfold nsAt
      split
      · rename_i r0 e
        have q := (r.1 _ (List.mem_of_find?_eq_some e)).2
        exact ⟨q.s, q.n⟩
      · exact ⟨fun x hx => by (cases hx), Nat.zero_le _⟩
    exact (ans_smd a1 (by omega) ns.1 ns.2 a3 (by omega) r.1 r.2).four (by decide) (by decide)
  · have c := clo_S (src := src) h hs
    exact ((Smd.tup (SmA.cons (k := 1) (Smd.str (n := 12) (x := "none") (by decide +kernel) (by decide +kernel)) (SmA.cons (Smd.strs c.1 c.2) SmA.nil))).mono (k' := 50) (n' := 1000000) (by decide) (by decide)).four (by decide) (by decide)
end Vf
end
section
set_option Elab.async false
set_option linter.all false
set_option maxRecDepth 100000
set_option maxHeartbeats 4000000
namespace Vf
open PySem PySem.Spec PyProof.Rows L2 GxR GenW RZ PySem.W
/-! ### a chain of makers: one walk to each name -/
structure Chn (names : List Str) (ms : List Mak) : Prop where
  nd : names.Nodup
  m : ∀ x ∈ ms, ∃ i : Nat, names[i]? = some x.s ∧ names[i + 1]? = some x.t
  a : ∀ i : Nat, i + 1 < names.length → ∃ x ∈ ms, names[i]? = some x.s ∧ names[i + 1]? = some x.t
theorem Chn.congr {names : List Str} {ms ms' : List Mak} (h : Chn names ms) (e : ∀ x, x ∈ ms' ↔ x ∈ ms) : Chn names ms' := ⟨h.nd, fun x hx => h.m x ((e x).mp hx), fun i hi => by
  obtain ⟨x, hx, q⟩ := h.a i hi
  exact ⟨x, (e x).mpr hx, q⟩⟩
theorem Chn.k {names : List Str} {ms : List Mak} (h : Chn names ms) {src f : Str} {l : Lab} (h0 : names[0]? = some src) (w : Wk ms src l f) : names[l.k]? = some f := by
  induction w with
  | nil => exact h0
  | @snoc l f m _ hm e ih =>
    obtain ⟨i, h1, h2⟩ := h.m m hm
    rw [e] at h1
    have := nodup_at h.nd ih h1
    subst this
    exact h2
theorem Chn.rch {names : List Str} {ms : List Mak} (h : Chn names ms) {src : Str} (h0 : names[0]? = some src) : ∀ (i : Nat) (f : Str), names[i]? = some f → Rch ms src f
  | 0, f, e => by
    rw [h0] at e
    cases e
    exact .nil
  | i + 1, f, e => by
    have hi : i + 1 < names.length := (List.getElem?_eq_some_iff.mp e).1
    obtain ⟨x, hx, e1, e2⟩ := h.a i hi
    rw [e] at e2
    cases e2
    exact Rch.snoc (Chn.rch h h0 i _ e1) hx
theorem Chn.due {names : List Str} {ms : List Mak} (h : Chn names ms) {src tgt : Str} {F : List Fo} (h0 : names[0]? = some src) {n : Nat} (hl : names.length = n + 1) (ht : names[n]? = some tgt) (hin : ∀ m ∈ ms, m.s ∈ F.map Fo.name ∧ m.t ∈ F.map Fo.name) (hc : ∃ cs, Clo ms src cs) (hr : tgt ∈ clo ms src → ∃ R, Rows (fitM F ms (ctF F ms src tgt []).1) src R) :
    ∃ ns C R, ansB F ms src [] tgt = .tuple [.str "chain", strD [], strD ns, .tuple C, .tuple R] ∧ ns.length = n := by
  obtain ⟨cs, hcs⟩ := hc
  have hm : tgt ∈ clo ms src := by
    rw [hcs.eq]
    exact (hcs.mem tgt).mpr (h.rch h0 n tgt ht)
  obtain ⟨R, hR⟩ := hr hm
  have e0 : fitM F ms (ctF F ms src tgt []).1 = ms := fitM_nil hin
  rw [e0] at hR
  refine ⟨nsAt (rws ms src) tgt, [], (rws ms src).map rowD, ?_, ?_⟩
  · unfold ansB
    rw [if_pos hm, e0]
    rfl
  · obtain ⟨l, w⟩ := (h.rch h0 n tgt ht).wk
    obtain ⟨l', h1, _⟩ := hR.mi.mi l tgt w
    rw [hR.eq, nsAt_of hR.mi.nd h1]
    have w' : Wk ms src l' tgt := hR.mi.wk _ h1
    have ok : l'.k = l'.ns.length := w'.ok
    have q := h.k h0 w'
    have := nodup_at h.nd q ht
    omega
end Vf
end
section
set_option Elab.async false
set_option linter.all false
set_option maxRecDepth 100000
set_option maxHeartbeats 4000000
namespace Vf
open PySem PySem.Spec PyProof.Rows L2 GxR GenW RZ PySem.W
/-! ### the forms' dict and the makers, to be shown -/
theorem fdV_of {K : PySem.W.Frag} {H : Hp} : ∀ {F : List Fo} {kvs : List (Key × V)}, KB K Fo.name foV H kvs F → FdV K H kvs (F.map fun f => (f.name, f.strs))
  | [], kvs, h => by
    have : kvs = [] := List.length_eq_zero_iff.mp h.1
    subst this
    exact .nil
  | f :: F, kvs, h => by
    cases kvs with
    | nil => exact absurd h.1 (by simp)
    | cons kv kvs =>
      obtain ⟨t, e, sq⟩ := h.2 0 f rfl
      have e : kv = ((Sum.inr f.name : Key), .ref t) := by simpa using e
      subst e
      refine .cons sq (fdV_of ⟨by have := h.1; simpa using this, fun j a ha => ?_⟩)
      obtain ⟨t', e', sq'⟩ := h.2 (j + 1) a (by simpa using ha)
      exact ⟨t', by simpa using e', sq'⟩
def makD (m : Mak) : PyData := .tuple [.str m.n, .str m.s, .str m.t, .int m.c]
theorem makD_dd {K : PySem.W.Frag} {H : Hp} {t : Addr} {m : Mak} (h : SqT K H t (makV m)) : Dd K H (.ref t) (makD m) := .tup h (.cons (.str _) (.cons (.str _) (.cons (.str _) (.cons (.int _) .nil))))
theorem maks_dd {K : PySem.W.Frag} {H : Hp} : ∀ {ms : List Mak} {xs : List V}, RB K makV H xs ms → DdAll K H xs (ms.map makD)
  | [], xs, h => by
    have : xs = [] := List.length_eq_zero_iff.mp h.1
    subst this
    exact .nil
  | m :: ms, xs, h => by
    cases xs with
    | nil => exact absurd h.1 (by simp)
    | cons x xs =>
      obtain ⟨t, e, sq⟩ := h.2 0 m rfl
      have e : x = .ref t := by simpa using e
      subst e
      refine .cons (makD_dd sq) (maks_dd ⟨by have := h.1; simpa using this, fun j a ha => ?_⟩)
      obtain ⟨t', e', sq'⟩ := h.2 (j + 1) a (by simpa using ha)
      exact ⟨t', by simpa using e', sq'⟩
end Vf
end
section
set_option Elab.async false
set_option linter.all false
set_option maxRecDepth 100000
set_option maxHeartbeats 4000000
namespace Vf
open PySem PySem.Spec PyProof.Rows L2 GxR GenW RZ PySem.W
theorem fd_parts {n : Nat} : ∀ {L : List (Str × List Str)}, (∀ p ∈ L, layS p.1 = true ∧ p.1.length ≤ 12 ∧ Smd 1 n (strD p.2)) →
    PyData.leavesShortKv 13 (L.map fun p => ((.str p.1 : PyData), strD p.2)) = true ∧ PyData.weightKv (L.map fun p => ((.str p.1 : PyData), strD p.2)) ≤ L.length * (n + 14) ∧ PyData.depthKv (L.map fun p => ((.str p.1 : PyData), strD p.2)) ≤ 1 ∧ PyData.showableKv (L.map fun p => ((.str p.1 : PyData), strD p.2)) = true
  | [], _ => ⟨rfl, Nat.zero_le _, Nat.zero_le _, rfl⟩
  | p :: L, h => by
    obtain ⟨b1, b2, b3, b4⟩ := fd_parts (L := L) fun q hq => h q (List.mem_cons_of_mem _ hq)
    obtain ⟨a1, a2, a3⟩ := h p List.mem_cons_self
    have s1 : Smd 1 12 (.str p.1) := Smd.str a1 a2
    refine ⟨?_, ?_, ?_, ?_⟩
    · show (PyData.leavesShort 13 (.str p.1) && PyData.leavesShort 13 (strD p.2) && PyData.leavesShortKv 13 _) = true
      rw [PyData.leavesShort_of_canLay0 13 _ s1.c s1.i, PyData.leavesShort_of_canLay0 13 _ a3.c a3.i, b1]; rfl
    · show PyData.weight (.str p.1) + PyData.weight (strD p.2) + 2 + PyData.weightKv _ ≤ (L.length + 1) * (n + 14)
      have w1 := s1.w
      have w2 := a3.w
      rw [Nat.succ_mul]
      omega
    · show max (max (PyData.depth (.str p.1)) (PyData.depth (strD p.2))) (PyData.depthKv _) ≤ 1
      exact Nat.max_le.mpr ⟨Nat.max_le.mpr ⟨s1.p, a3.p⟩, b3⟩
    · show (PyData.showable (.str p.1) && PyData.showable (strD p.2) && PyData.showableKv _) = true
      rw [s1.s, a3.s, b4]; rfl
theorem pair_four {n k m : Nat} {L : List (Str × List Str)} {e : PyData} (h : ∀ p ∈ L, layS p.1 = true ∧ p.1.length ≤ 12 ∧ Smd 1 n (strD p.2)) (he : Smd k m e) (hk : k ≤ 50) (hn : L.length * (n + 14) + m ≤ 1000000) :
    (PyData.tuple [fdD L, e]).showable = true ∧ (PyData.tuple [fdD L, e]).depth < 60 ∧ (PyData.tuple [fdD L, e]).shown.length ≤ sizeLine := by
  obtain ⟨b1, b2, b3, b4⟩ := fd_parts h
  refine ⟨?_, ?_, ?_⟩
  · show (PyData.showableKv _ && (PyData.showable e && true)) = true
    rw [he.s]
    show (PyData.showableKv (L.map fun p => ((.str p.1 : PyData), strD p.2)) && _) = true
    rw [b4]; rfl
  · show max (PyData.depthKv (L.map fun p => ((.str p.1 : PyData), strD p.2)) + 1) (max (PyData.depth e) 0) + 1 < 60
    have := he.p
    omega
  · have ls : PyData.leavesShort 13 (PyData.tuple [fdD L, e]) = true := by
      show (PyData.leavesShortKv 13 (L.map fun p => ((.str p.1 : PyData), strD p.2)) && (PyData.leavesShort 13 e && true)) = true
      rw [b1, PyData.leavesShort_of_canLay0 13 _ he.c he.i]; rfl
    have q := PyData.shown_le 13 (by decide) _ ls
    have w : PyData.weight (PyData.tuple [fdD L, e]) = PyData.weightKv (L.map fun p => ((.str p.1 : PyData), strD p.2)) + 1 + (PyData.weight e + 1 + 0) := rfl
    have := he.w
    rw [sizeLine_eq]
    omega
end Vf
end
section
set_option Elab.async false
set_option linter.all false
set_option maxRecDepth 100000
set_option maxHeartbeats 4000000
namespace Vf
open PySem PySem.Spec PyProof.Rows L2 GxR GenW RZ PySem.W
/-- the law's makers keep to the bounds -/
theorem mkS_of {F : List Fo} {ms : List Mak} (hF : ∀ f ∈ F, FoOk f) (h : ∀ m ∈ ms, OkMk (F.map Fo.name) m) (hl : ms.length ≤ 60) : MkS ms := by
  have nm : ∀ n ∈ F.map Fo.name, Nm n := fun n hn => by
    obtain ⟨f, hf, rfl⟩ := List.mem_map.mp hn
    obtain ⟨a, b⟩ := (hF f hf).nl
    exact ⟨a, by omega⟩
  have cs : ∀ c ∈ costs, 0 ≤ c ∧ c ≤ 1000 := by decide
  exact ⟨hl, fun m hm => ⟨⟨aS_lay (h m hm).n.2, (h m hm).n.1⟩, nm _ (h m hm).t⟩, fun m hm => cs _ (h m hm).c⟩
theorem fo_nm {f : Fo} (h : FoOk f) : ∀ x ∈ f.strs, Nm x := fun x hx => by
  have e : f.strs = f.name :: f.os.map sg := rfl
  rw [e] at hx
  rcases List.mem_cons.mp hx with rfl | hx
  · obtain ⟨a, b⟩ := h.nl
    exact ⟨a, by omega⟩
  · obtain ⟨o, ho, rfl⟩ := List.mem_map.mp hx
    cases o with
    | none => exact ⟨by decide +kernel, by decide +kernel⟩
    | some c =>
      have hc : c ∈ f.sgs := List.mem_filterMap.mpr ⟨some c, ho, rfl⟩
      have c1 := (h.ok c hc).2.1
      refine ⟨aS_lay (aS_of fun d hd => ?_), by show 1 ≤ 12; decide⟩
      have hd : d ∈ [c] := hd
      rw [List.mem_singleton.mp hd]
      omega
theorem fo_smd {f : Fo} (h : FoOk f) : Smd 1 130 (strD f.strs) := (Smd.strs (k := 0) (m := 10) (fo_nm h) (by show 9 ≤ 10; decide)).mono (Nat.le_refl _) (by decide)
theorem mak_smd {ns : List Str} {m : Mak} (hn : ∀ n ∈ ns, Nm n) (h : OkMk ns m) : Smd 1 100 (makD m) := by
  have cs : ∀ c ∈ costs, c.natAbs < 10 ^ 12 := by decide
  have q := SmA.cons (k := 0) (Smd.str (n := 12) (aS_lay h.n.2) h.n.1) (SmA.cons (Smd.str (hn _ h.s).1 (hn _ h.s).2) (SmA.cons (Smd.str (hn _ h.t).1 (hn _ h.t).2) (SmA.cons (Smd.int (cs _ h.c)) SmA.nil)))
  exact (Smd.tup q).mono (Nat.le_refl _) (by decide)
theorem both_four {Fs : List Fo} {ms : List Mak} (hF : ∀ f ∈ Fs, FoOk f) (h : ∀ m ∈ ms, OkMk (Fs.map Fo.name) m) (l1 : Fs.length ≤ 100) (l2 : ms.length ≤ 100) :
    (PyData.tuple [fdD (Fs.map fun f => (f.name, f.strs)), .tuple (ms.map makD)]).showable = true ∧ (PyData.tuple [fdD (Fs.map fun f => (f.name, f.strs)), .tuple (ms.map makD)]).depth < 60 ∧ (PyData.tuple [fdD (Fs.map fun f => (f.name, f.strs)), .tuple (ms.map makD)]).shown.length ≤ sizeLine := by
  have nm : ∀ n ∈ Fs.map Fo.name, Nm n := fun n hn => by
    obtain ⟨f, hf, rfl⟩ := List.mem_map.mp hn
    obtain ⟨a, b⟩ := (hF f hf).nl
    exact ⟨a, by omega⟩
  have q := SmA.of (k := 1) (n := 100) (ds := ms.map makD) fun d hd => by
    obtain ⟨m, hm, rfl⟩ := List.mem_map.mp hd
    exact mak_smd nm (h m hm)
  rw [List.length_map] at q
  refine pair_four (n := 130) (fun p hp => ?_) (Smd.tup q) (by decide) ?_
  · obtain ⟨f, hf, rfl⟩ := List.mem_map.mp hp
    exact ⟨(nm _ (List.mem_map.mpr ⟨f, hf, rfl⟩)).1, (nm _ (List.mem_map.mpr ⟨f, hf, rfl⟩)).2, fo_smd (hF f hf)⟩
  · rw [List.length_map]
    omega
theorem five_nm : ∀ x ∈ five, Nm x := by
  have : (five.all fun x => layS x && decide (x.length ≤ 12)) = true := by decide +kernel
  intro x hx
  have q := List.all_eq_true.mp this x hx
  rw [Bool.and_eq_true] at q
  exact ⟨q.1, of_decide_eq_true q.2⟩
end Vf
end
section
set_option Elab.async false
set_option linter.all false
set_option maxRecDepth 100000
set_option maxHeartbeats 4000000
namespace Vf
open PySem PySem.Spec PyProof.Rows L2 GxR GenW RZ PySem.W
abbrev s__law_long_right : Stmt := top 53
abbrev n__law_long_right : List Str := ["urn", "many", "place", "names", "name", "forms", "makers", "left", "ends", "some", "due"]
abbrev p__law_long_right : List Str := ["urn"]
theorem sc__law_long_right : FnScope n__law_long_right p__law_long_right (defScope s__law_long_right) := ⟨rfl, rfl, rfl, by decide +kernel, rfl, by decide +kernel, by decide +kernel⟩

abbrev s_law : Stmt := top 54
abbrev n_law : List Str := ["script", "urn", "turn", "forms", "makers", "before", "again", "source", "target", "carried_by", "share", "one", "features", "due"]
abbrev p_law : List Str := ["script"]
theorem sc_law : FnScope n_law p_law (defScope s_law) := ⟨rfl, rfl, rfl, by decide +kernel, rfl, by decide +kernel, by decide +kernel⟩

theorem FsAt.gru {K : PySem.W.Frag} {H H' : Hp} {u c d : Addr} {kvs : List (Key × V)} {F : List Fo} (h : FsAt K H d kvs F) (g : GrU u H H') (hu : Urn c H u) : FsAt K H' d kvs F :=
  ⟨g.notu hu h.e (fun _ z => by cases z) (fun _ z => by cases z), h.k.mono fun _ _ q => g.seqT hu q, h.n, h.o⟩
theorem carF_len (f : Fo) : (carF f).length ≤ 5 := by
  unfold carF
  refine Nat.le_trans (List.length_filterMap_le _ _) ?_
  rw [List.length_zip]
  exact Nat.le_trans (Nat.min_le_left _ _) (by decide)
theorem carF_five (f : Fo) : ∀ x ∈ carF f, x ∈ five := fun x hx => by
  obtain ⟨p, hp, e⟩ := List.mem_filterMap.mp hx
  have q := (List.of_mem_zip hp).1
  unfold carP at e
  split at e
  · cases e; exact q
  · cases e
theorem rb_rev {K : PySem.W.Frag} {H : Hp} {xs : List V} {ms : List Mak} (h : RB K makV H xs ms) : RB K makV H xs.reverse ms.reverse := by
  refine ⟨by rw [List.length_reverse, List.length_reverse]; exact h.1, fun j a ha => ?_⟩
  have hj : j < ms.length := by
    have := (List.getElem?_eq_some_iff.mp ha).1
    rwa [List.length_reverse] at this
  rw [List.getElem?_reverse hj] at ha
  obtain ⟨t, e, st⟩ := h.2 _ a ha
  refine ⟨t, ?_, st⟩
  rw [List.getElem?_reverse (by rw [h.1]; exact hj), h.1]
  exact e
def spLong (K : PySem.W.Frag) : Sp := fun vs H Q _ => ∃ (u c : Addr), vs = [.ref u] ∧ Urn c H u ∧ TabG H (tb K "contains") ∧ ∀ H', GrU u H H' → Urn c H' u → Q (.bl true) H'
def spLaw (K : PySem.W.Frag) : Sp := fun vs H Q _ => ∃ (a : Addr) (ns : List Int), vs = [.ref a] ∧ SqL K H a (ns.map V.int) ∧ ns.length ≤ 63 ∧ TabG H (tb K "contains") ∧ ∀ H', Q (.bl true) H'
section
variable {P : Program} {w : World} {K : PySem.W.Frag} {mg : Str → Option Value} {base : Heap}
theorem ok_law {fd : FuncData} (F : FnP K "law" s_law fd) (T : TD K mg) (D__law_urn_of : Df P w K mg base "_law_urn_of" 1 p__law_urn_of (spUrnOf K)) (D__law_upto : Df P w K mg base "_law_upto" 2 p__law_upto spUpto) (D__law_choice : Df P w K mg base "_law_choice" 3 p__law_choice (spChoice K))
    (D__law_equal : DfG P w K mg base "_law_equal" 1 p__law_equal (spEqual K)) (D__law_long_right : DfG P w K mg base "_law_long_right" 5 p__law_long_right (spLong K)) (D__law_some_forms : Df P w K mg base "_law_some_forms" 4 p__law_some_forms (spSForms K)) (D__law_some_makers : Df P w K mg base "_law_some_makers" 4 p__law_some_makers (spSMk K))
    (D__law_carried : Df P w K mg base "_law_carried" 1 p__law_carried (spCarried K)) (D__law_answer_due : Df P w K mg base "_law_answer_due" 3 p__law_answer_due (spDue K)) (D_best : Df P w K mg base "best" 4 p_best (spBest K)) : FnG P w K mg base CX0 7 (He.fAd K ("law", none)) fd p_law (spLaw K) := by
  refine okQ F sc_law (fun vs H Q E h => by obtain ⟨a, ns, rfl, _⟩ := h; rfl) (fun A outer s H vs Q E hgu hr h => ?_)
  obtain ⟨a, ns, rfl, hS, hl, htb, k⟩ := h
  refine ⟨_, (pss_cons (ps_set (i := 1) sc_law.nd rfl (by first | exact Or.inl rfl | exact Or.inr rfl) (pe_fn D__law_urn_of hr (by decide) rfl (pa_cons (pv 0) pa_nil)))
      (pss_cons (ps_if (pt_not (pt_val (pe_fnG hgu D__law_long_right hr (by decide) rfl (pa_cons (pv 1) pa_nil))))
      (pss_one (ps_ret pe_bl))
      pss_nil)
      (pss_cons (ps_for PassesOwn.never rfl (pi_range1 rfl T.b_range (pa_cons pe_int pa_nil)) (pg_name (i := 2) sc_law.nd rfl (by first | exact Or.inl rfl | exact Or.inr rfl))
      (pss_cons (ps_set (i := 3) sc_law.nd rfl (by first | exact Or.inl rfl | exact Or.inr rfl) (pe_fn D__law_some_forms hr (by decide) rfl (pa_cons (pv 1) (pa_cons (pe_fn D__law_choice hr (by decide) rfl (pa_cons (pv 1) (pa_cons (pe_lst (pa_cons pe_int (pa_cons pe_int (pa_cons pe_int (pa_cons (pe_op (u_add (K := K) rfl) pe_int (pe_fn D__law_upto hr (by decide) rfl (pa_cons (pv 1) (pa_cons pe_int pa_nil)))) pa_nil))))) pa_nil))) pa_nil))))
      (pss_cons (ps_set (i := 4) sc_law.nd rfl (by first | exact Or.inl rfl | exact Or.inr rfl) (pe_fn D__law_some_makers hr (by decide) rfl (pa_cons (pv 1) (pa_cons (pv 3) (pa_cons (pe_fn D__law_choice hr (by decide) rfl (pa_cons (pv 1) (pa_cons (pe_lst (pa_cons pe_int (pa_cons pe_int (pa_cons pe_int pa_nil)))) pa_nil))) pa_nil)))))
      (pss_cons (ps_set (i := 5) sc_law.nd rfl (by first | exact Or.inl rfl | exact Or.inr rfl) (pe_callB (call_reprF hgu hr.units) rfl T.b_repr (by decide +kernel) (pa_cons (pe_tup (pa_cons (pv 3) (pa_cons (pv 4) pa_nil))) pa_nil)))
      (pss_cons (ps_for PassesOwn.never rfl (pi_range1 rfl T.b_range (pa_cons pe_int pa_nil)) (pg_name (i := 6) sc_law.nd rfl (by first | exact Or.inl rfl | exact Or.inr rfl))
      (pss_cons (ps_par (i := 7) (j := 8) (by rfl) sc_law.nd rfl rfl (by decide) rfl rfl (pa_cons (pe_fn D__law_choice hr (by decide) rfl (pa_cons (pv 1) (pa_cons (pe_callTy (call_list_dK rfl) rfl T.b_list (by decide +kernel) (pa_cons (pv 3) pa_nil)) pa_nil))) (pa_cons (pe_fn D__law_choice hr (by decide) rfl (pa_cons (pv 1) (pa_cons (pe_callTy (call_list_dK rfl) rfl T.b_list (by decide +kernel) (pa_cons (pv 3) pa_nil)) pa_nil))) pa_nil)) (by rfl))
      (pss_cons (ps_set (i := 9) sc_law.nd rfl (by first | exact Or.inl rfl | exact Or.inr rfl) (pe_fn D__law_carried hr (by decide) rfl (pa_cons (pe_dget (hu_of hr) (pv 3) (pv 7) (fun _ _ => rfl)) pa_nil)))
      (pss_cons (ps_set (i := 10) sc_law.nd rfl (by first | exact Or.inl rfl | exact Or.inr rfl) (pe_fn D__law_choice hr (by decide) rfl (pa_cons (pv 1) (pa_cons (pe_lst (pa_cons pe_int (pa_cons pe_int pa_nil))) pa_nil))))
      (pss_cons (ps_set (i := 12) sc_law.nd rfl (by first | exact Or.inl rfl | exact Or.inr rfl) (k_tuple (K := K) rfl rfl T.b_tuple (pe_lc (own := [("one", 11)]) (g := gName 11) rfl sc_law.nd (k_tup (K := K) rfl (pv 9)) (blkOk_by (own := [("one", 11)]) (N := n_law) (sc := defScope s_law) (by decide +kernel)) (fun _ _ _ _ _ => (pg_name (i := 11) sc_law.nd rfl (by first | exact Or.inl rfl | exact Or.inr rfl))) (fun _ _ _ _ _ => (pts_one (pt_cmpR (u_eqW (K := K) rfl hr.units) (pe_fn D__law_upto hr (by decide) rfl (pa_cons (pv 1) (pa_cons (pv 10) pa_nil))) pe_int (nomark _)))) (fun _ _ _ _ _ => (pv 11)))))
      (pss_cons (ps_set (i := 13) sc_law.nd rfl (by first | exact Or.inl rfl | exact Or.inr rfl) (pe_fn D__law_answer_due hr (by decide) rfl (pa_cons (pv 3) (pa_cons (pv 4) (pa_cons (pv 7) (pa_cons (pv 12) (pa_cons (pv 8) pa_nil)))))))
      (pss_cons (ps_if (pt_not (pt_val (pe_fnG hgu D__law_equal hr (by decide) rfl (pa_cons (pe_fn D_best hr (by decide) rfl (pa_cons (pv 3) (pa_cons (pv 4) (pa_cons (pv 7) (pa_cons (pv 12) (pa_cons (pv 8) pa_nil)))))) (pa_cons (pv 13) pa_nil)))))
      (pss_one (ps_ret pe_bl))
      pss_nil)
      (pss_one (ps_if (pt_not (pt_val (pe_fnG hgu D__law_equal hr (by decide) rfl (pa_cons (pe_fn D_best hr (by decide) rfl (pa_cons (pv 3) (pa_cons (pe_revT (K := K) rfl (pv 4)) (pa_cons (pv 7) (pa_cons (pv 12) (pa_cons (pv 8) pa_nil)))))) (pa_cons (pv 13) pa_nil)))))
      (pss_one (ps_ret pe_bl))
      pss_nil)))))))))
      (pss_one (ps_if (pt_cmpR (u_neW (K := K) rfl hr.units) (pe_callB (call_reprF hgu hr.units) rfl T.b_repr (by decide +kernel) (pa_cons (pe_tup (pa_cons (pv 3) (pa_cons (pv 4) pa_nil))) pa_nil)) (pv 5) (nomark _))
      (pss_one (ps_ret pe_bl))
      pss_nil)))))))
      (pss_one (ps_ret pe_bl))))), ?_⟩
  refine ⟨_, rfl, a, ns, rfl, hS, hl, fun u c H1 hu0 hc0 g1 hu1 => ?_⟩
  refine ⟨_, rfl, u, c, rfl, hu1, g1.tabG htb, fun H2 g2 hu2 => ⟨_, rfl, iteF ?_⟩⟩
  have tb2 := g2.tabG hu1 (g1.tabG htb)
  refine ⟨10, rfl, by decide, by decide, ?_⟩
  refine for_range (lo := 0) (n := 10) (fun i σ H' => ∃ o2 o3 o4 o5 o6 o7 o8 o9 o10 o12 o13, σ = [some (.ref a), some (.ref u), o2, o3, o4, o5, o6, o7, o8, o9, o10, none, o12, o13] ∧ Urn c H' u ∧ TabG H' (tb K "contains"))
    ⟨none, none, none, none, none, none, none, none, none, none, none, rfl, hu2, tb2⟩ ?_ ?_
  · rintro i σ H2 hi ⟨o2, o3, o4, o5, o6, o7, o8, o9, o10, o12, o13, rfl, hu2, tb2⟩
    -- forms
    refine ⟨_, rfl, _, rfl, _, rfl, u, c, 7, rfl, hu2, by decide, by decide, fun r H3 hr0 hr7 g3 hu3 => a_ii ?_⟩
    refine ⟨le_sz (show 4 ≤ 10000 by omega), fun q1 e1 => ?_⟩
    have nq1 := hu3.ou e1
    refine newH e1 fun H4 g4 s4 => ?_
    have hu4 := hu3.gr g4
    refine ⟨u, c, q1, _, rfl, hu4, nq1, .inl (SqL.of s4), by simp, by show 4 < 1073741824; decide, fun z H5 hz g5 hu5 => ?_⟩
    obtain ⟨n0, n1, n2, rfl⟩ : ∃ n : Int, 0 ≤ n ∧ n ≤ 15 ∧ z = .int n := by
      simp only [List.mem_cons, List.not_mem_nil, or_false] at hz
      rcases hz with rfl | rfl | rfl | rfl
      · exact ⟨_, by decide, by decide, rfl⟩
      · exact ⟨_, by decide, by decide, rfl⟩
      · exact ⟨_, by decide, by decide, rfl⟩
      · exact ⟨_, by omega, by omega, rfl⟩
    refine ⟨u, c, n0, rfl, hu5, n1, n2, fun d kvs Fs H6 hF6 g6 hu6 => ?_⟩
    have tb6 := g6.tabG hu5 (g5.tabG hu4 (g4.tabG (g3.tabG hu2 tb2)))
    -- makers
    refine ⟨_, rfl, _, rfl, _, rfl, le_sz (show 3 ≤ 10000 by omega), fun q2 e2 => ?_⟩
    have nq2 := hu6.ou e2
    refine newH e2 fun H7 g7 s7 => ?_
    have hu7 := hu6.gr g7
    refine ⟨u, c, q2, _, rfl, hu7, nq2, .inl (SqL.of s7), by simp, by show 3 < 1073741824; decide, fun z H8 hz g8 hu8 => ?_⟩
    obtain ⟨N0, nN, rfl⟩ : ∃ n : Nat, n ≤ 40 ∧ z = .int (n : Nat) := by
      simp only [List.mem_cons, List.not_mem_nil, or_false] at hz
      rcases hz with rfl | rfl | rfl
      · exact ⟨14, by decide, rfl⟩
      · exact ⟨14, by decide, rfl⟩
      · exact ⟨40, by decide, rfl⟩
    have hF8 := (hF6.gr g7).gru g8 hu7
    refine ⟨u, c, d, kvs, Fs, N0, rfl, hu8, hF8, nN, fun p xs ms H9 g9 hu9 sx9 rb9 ndm okm lN => ?_⟩
    have hF9 := hF8.gru g9 hu8
    have tb9 := g9.tabG hu8 (g8.tabG hu7 (g7.tabG tb6))
    have fl16 := hF9.l
    have mS := mkS_of hF9.o okm (by omega)
    have four := both_four hF9.o okm (by omega) (by omega)
    have hin : ∀ m ∈ ms, m.s ∈ Fs.map Fo.name ∧ m.t ∈ Fs.map Fo.name := fun m hm => ⟨(okm m hm).s, (okm m hm).t⟩
    have h0 : ∀ m ∈ ms, 0 ≤ m.c := fun m hm => (mS.c m hm).1
    have hly : ∀ m ∈ ms, layS m.t = true := fun m hm => (mS.n m hm).2.1
    have noL : noLst (.tuple (ms.map makD)) = true := by
      have : ∀ l : List Mak, noLstA (l.map makD) = true := fun l => by
        induction l with
        | nil => rfl
        | cons m l ih => simp [noLstA, makD, noLst, ih]
      exact this ms
    refine ⟨_, rfl, _, rfl, le_sz (show 2 ≤ 10000 by omega), fun t3 e3 => ?_⟩
    refine newH e3 fun Ha ga sa => ?_
    have hFa := hF9.gr ga
    have sxa := ga.seqT sx9
    have rba := rb9.gr ga
    have hua := hu9.gr ga
    have tba := ga.tabG tb9
    refine ⟨t3, d, .ref p, kvs, _, _, rfl, SqT.of sa, hFa.e, fdV_of hFa.k, .tup sxa (maks_dd rba), noL, four.1, four.2.1, four.2.2, ?_⟩
    have ek : (kvs.map fun kv => kV kv.1) = strV (Fs.map Fo.name) := by
      have q2 := congrArg (List.map kV) hFa.k.keys
      rw [List.map_map, List.map_map, List.map_map] at q2
      unfold strV
      rw [List.map_map]
      exact q2
    have nsne : strV (Fs.map Fo.name) ≠ [] := by
      unfold strV
      intro z
      exact hFa.ne (List.map_eq_nil_iff.mp (List.map_eq_nil_iff.mp z))
    have nsl : (strV (Fs.map Fo.name)).length < 1073741824 := by unfold strV; rw [List.length_map, List.length_map]; omega
    refine ⟨6, rfl, by decide, by decide, ?_⟩
    refine for_range (lo := 0) (n := 6) (fun j σ H' => ∃ o6 o7 o8 o9 o10 o12 o13, σ = [some (.ref a), some (.ref u), some (.int (0 + (i : Nat))), some (.ref d), some (.ref p), some (.str (PyData.tuple [fdD (Fs.map fun f => (f.name, f.strs)), .tuple (ms.map makD)]).shown), o6, o7, o8, o9, o10, none, o12, o13] ∧ Urn c H' u ∧ FsAt K H' d kvs Fs ∧ SqT K H' p xs ∧ RB K makV H' xs ms ∧ TabG H' (tb K "contains"))
      ⟨_, _, _, _, _, _, _, rfl, hua, hFa, sxa, rba, tba⟩ ?_ ?_
    · rintro j σ Hb hj ⟨o6, o7, o8, o9, o10, o12, o13, rfl, hub, hFb, sxb, rbb, tbb⟩
      -- where from, where to
      refine ⟨_, rfl, _, rfl, d, kvs, rfl, hFb.e, fun L eL => ?_⟩
      have nL := hub.ou eL
      refine newH eL fun Hc gc sc => ?_
      rw [ek] at sc
      have huc := hub.gr gc
      refine ⟨u, c, L, _, rfl, huc, nL, .inl (SqL.of sc), nsne, nsl, fun y Hd hy gd hud => ?_⟩
      obtain ⟨x0, hx0, rfl⟩ := List.mem_map.mp hy
      obtain ⟨f0, if0, rfl⟩ := List.mem_map.mp hx0
      have hFd := (hFb.gr gc).gru gd huc
      refine ⟨_, rfl, _, rfl, d, kvs, rfl, hFd.e, fun L2 eL2 => ?_⟩
      have nL2 := hud.ou eL2
      refine newH eL2 fun He ge se => ?_
      rw [ek] at se
      have hue := hud.gr ge
      refine ⟨u, c, L2, _, rfl, hue, nL2, .inl (SqL.of se), nsne, nsl, fun y Hf hy gf huf => ?_⟩
      obtain ⟨x1, hx1, rfl⟩ := List.mem_map.mp hy
      obtain ⟨f1, if1, rfl⟩ := List.mem_map.mp hx1
      have hFf := (hFd.gr ge).gru gf hue
      have sxf := gf.seqT hue (ge.seqT (gd.seqT huc (gc.seqT sxb)))
      have rbf : RB K makV Hf xs ms := rbb.mono fun _ _ q => gf.seqT hue (ge.seqT (gd.seqT huc (gc.seqT q)))
      have tbf := gf.tabG hue (ge.tabG (gd.tabG huc (gc.tabG tbb)))
      refine ⟨_, _, rfl, ?_⟩
      obtain ⟨t0, d0, st0⟩ := hFf.k.get hFf.nd if0
      refine ⟨_, rfl, _, rfl, d, _, rfl, d0 ▸ DGet.k (k := Sum.inr f0.name) hFf.e, t0, f0, rfl, st0, fun pc Hg gg sg => ?_⟩
      have hug := huf.gr gg
      -- share
      refine ⟨_, rfl, le_sz (show 2 ≤ 10000 by omega), fun q4 e4 => ?_⟩
      have nq4 := hug.ou e4
      refine newH e4 fun Hh gh sh => ?_
      have huh := hug.gr gh
      refine ⟨u, c, q4, _, rfl, huh, nq4, .inl (SqL.of sh), by simp, by show 2 < 1073741824; decide, fun z Hi hz gi hui => ?_⟩
      obtain ⟨sh0, s1, s2, rfl⟩ : ∃ n : Int, 0 < n ∧ n ≤ 2 ∧ z = .int n := by
        simp only [List.mem_cons, List.not_mem_nil, or_false] at hz
        rcases hz with rfl | rfl
        · exact ⟨_, by decide, by decide, rfl⟩
        · exact ⟨_, by decide, by decide, rfl⟩
      have spi := gi.seqT huh (gh.seqT sg)
      have hFi := ((hFf.gr gg).gr gh).gru gi huh
      have sxi := gi.seqT huh (gh.seqT (gg.seqT sxf))
      have rbi : RB K makV Hi xs ms := rbf.mono fun _ _ q => gi.seqT huh (gh.seqT (gg.seqT q))
      have tbi := gi.tabG huh (gh.tabG (gg.tabG tbf))
      -- features
      refine ⟨_, rfl, pc, rfl, ⟨_, spi⟩, fun D hD => ?_⟩
      have nD := hui.ou hD
      refine lc_tup (K := K) (a := pc) (xs := strV (carF f0)) (fun i H' => GrU u Hi H' ∧ Urn c H' u ∧ ∃ ys : List Str, H' D = some (.lst (strV ys)) ∧ (∀ x ∈ ys, x ∈ carF f0) ∧ ys.length ≤ i) ⟨(Gr.new hD).u, hui.gr (Gr.new hD), [], upd_same, fun x hx => (by cases hx), Nat.le_refl _⟩ ?_ ?_ ?_
      · rintro i H' _ ⟨g, _⟩
        exact g.seqT hui spi
      · rintro i2 x H' hx ⟨g, hu', ys, hD', hys, ly⟩
        have il : i2 < (carF f0).length := by
          have := (List.getElem?_eq_some_iff.mp hx).1
          rwa [strV_len] at this
        obtain ⟨f, hf, rfl⟩ : ∃ f, (carF f0)[i2]? = some f ∧ x = .str f := by
          refine ⟨(carF f0)[i2], List.getElem?_eq_getElem il, ?_⟩
          unfold strV at hx
          rw [List.getElem?_map, List.getElem?_eq_getElem il] at hx
          exact (Option.some.inj hx).symm
        have l5 := carF_len f0
        refine ⟨rfl, ?_⟩
        refine ⟨_, rfl, _, rfl, u, c, sh0, rfl, hu', s1, by omega, fun r H3 hr0 hr7 g3 hu3 => ?_⟩
        refine we_flat rfl ⟨_, rfl, ?_⟩
        have hD3 := g3.keep nD hD' (fun _ z => by cases z)
        cases z : decide (V.int r = V.int 0) with
        | false => exact iteF ⟨g.trans g3, hu3, ys, hD3, hys, Nat.le_succ_of_le ly⟩
        | true =>
          refine iteT ⟨_, rfl, _, hD3, by rw [strV_len, sizeLine_eq]; omega, ?_, hu3.updD nD (hui.oc hD), ys ++ [f], by rw [upd_same, strV_snoc], fun x hx => ?_, by rw [List.length_append]; exact Nat.succ_le_succ ly⟩
          · exact fun b o hb e => by
              have nb : b ≠ D := ne_of_none e hD
              rw [upd_ne nb]
              exact (g.trans g3) b o hb e
          · rcases List.mem_append.mp hx with z | z
            · exact hys x z
            · rw [List.mem_singleton.mp z]
              exact List.mem_of_getElem? hf
      rintro Hj ⟨gj, huj, ys, hDj, hys, ly⟩
      rw [strV_len] at ly
      have l5 := carF_len f0
      have nmy : ∀ x ∈ ys, Nm x := fun x hx => five_nm x (carF_five f0 x (hys x hx))
      refine ⟨.inl ⟨D, _, rfl, SqL.of hDj, fun q5 e5 => ?_⟩⟩
      refine newH e5 fun Hk gk sk => ?_
      have huk := huj.gr gk
      have hFk := (hFi.gru gj hui).gr gk
      have sxk := gk.seqT (gj.seqT hui sxi)
      have rbk : RB K makV Hk xs ms := rbi.mono fun _ _ q => gk.seqT (gj.seqT hui q)
      have tbk := gk.tabG (gj.tabG hui tbi)
      have in0 : f0.name ∈ Fs.map Fo.name := List.mem_map.mpr ⟨f0, if0, rfl⟩
      have in1 : f1.name ∈ Fs.map Fo.name := List.mem_map.mpr ⟨f1, if1, rfl⟩
      have hsf : ∀ f ∈ Fs, f.name = f0.name → hasAll (carF f) ys = true := fun f hf e => by
        have q1 := okFor_at hFk.nd hf ys
        have q2 := okFor_at hFk.nd if0 ys
        rw [e, q2] at q1
        rw [← q1]
        unfold hasAll
        exact List.all_eq_true.mpr fun x hx => decide_eq_true (hys x hx)
      refine ⟨_, rfl, _, rfl, _, rfl, _, rfl, _, rfl, d, p, q5, kvs, Fs, xs, ms, f0.name, f1.name, ys, rfl, hFk.e, hFk.k, hFk.nd, sxk, rbk, by omega, h0, hin, hly, SqT.of sk, by omega, fun x hx => (nmy x hx).1, in0, in1, hsf, fun pd Hl gl dd _ _ => ?_⟩
      have a4 := ansB_four (F := Fs) (tgt := f1.name) mS (by obtain ⟨x1, x2⟩ := (hFk.o f0 if0).nl; exact ⟨x1, by omega⟩ : Nm f0.name) nmy (by omega : ys.length ≤ 10)
      have hFl := hFk.gr gl
      have skl : SqT K Hl q5 (strV ys) := gl.seqT (SqT.of sk)
      refine ⟨_, rfl, _, rfl, _, rfl, _, rfl, _, rfl, d, p, q5, kvs, Fs, xs, ms, f0.name, f1.name, ys, rfl, hFl.e, hFl.k, hFl.nd, by omega, gl.seqT sxk, rbk.gr gl, by omega, h0, hin, skl, by omega, gl.tabG tbk, fun pb Hm gm db => ?_⟩
      have ddm := gm.dd _ _ dd
      refine ⟨_, rfl, .ref pb, .ref pd, _, _, rfl, db, ddm, a4, a4, ⟨_, rfl, ?_⟩⟩
      rw [decide_eq_true rfl]
      have G := gl.trans gm
      have hFm := hFk.gr G
      refine iteF ⟨_, rfl, _, rfl, p, xs, rfl, G.seqT sxk, fun pr epr => ?_⟩
      refine newH epr fun Hn gn sn => ?_
      have hFn := hFm.gr gn
      have G2 := G.trans gn
      refine ⟨_, rfl, _, rfl, _, rfl, d, pr, q5, kvs, Fs, xs.reverse, ms.reverse, f0.name, f1.name, ys, rfl, hFn.e, hFn.k, hFn.nd, by omega, SqT.of sn, rb_rev (rbk.gr G2), by rw [List.length_reverse]; omega, fun m hm => h0 m (List.mem_reverse.mp hm), fun m hm => hin m (List.mem_reverse.mp hm), G2.seqT (SqT.of sk), by omega, G2.tabG tbk, fun pb2 Ho go db2 => ?_⟩
      rw [ansB_congr (ms' := ms) fun m => List.mem_reverse] at db2
      refine ⟨_, rfl, .ref pb2, .ref pd, _, _, rfl, db2, (gn.trans go).dd _ _ ddm, a4, a4, ⟨_, rfl, ?_⟩⟩
      rw [decide_eq_true rfl]
      have G3 := G2.trans go
      exact iteF ⟨_, _, _, _, _, _, _, rfl, huk.gr G3, hFk.gr G3, G3.seqT sxk, rbk.gr G3, G3.tabG tbk⟩
    · rintro σ Hb ⟨o6, o7, o8, o9, o10, o12, o13, rfl, hub, hFb, sxb, rbb, tbb⟩
      refine ⟨_, rfl, _, rfl, le_sz (show 2 ≤ 10000 by omega), fun t4 e4 => ?_⟩
      refine newH e4 fun Hc gc sc => ?_
      have hFc := hFb.gr gc
      refine ⟨t4, d, .ref p, kvs, _, _, rfl, SqT.of sc, hFc.e, fdV_of hFc.k, .tup (gc.seqT sxb) (maks_dd (rbb.gr gc)), noL, four.1, four.2.1, four.2.2, ?_⟩
      refine ⟨_, rfl, wn_flat rfl ⟨_, rfl, ?_⟩⟩
      rw [decide_eq_true rfl]
      exact ⟨_, _, _, _, _, _, _, _, _, _, _, rfl, hub.gr gc, gc.tabG tbb⟩
  · rintro σ H' ⟨o2, o3, o4, o5, o6, o7, o8, o9, o10, o12, o13, rfl, hu', tb'⟩
    exact k H'
end
end Vf
end
section
set_option Elab.async false
set_option linter.all false
set_option maxRecDepth 100000
set_option maxHeartbeats 4000000
namespace Vf
open PySem PySem.Spec PyProof.Rows L2 GxR GenW RZ PySem.W
/-! ### the long chain: names, forms, makers -/
def nmF (i : Nat) : Str := "f" ++ (toString ((i : Nat) : Int) : Str)
def nmM (i : Nat) : Str := "m" ++ (toString ((i : Nat) : Int) : Str)
def NM : List Str := ("plain" : Str) :: (List.range 19).map nmF
theorem NM_nd : NM.Nodup := by decide +kernel
theorem NM_ok : ∀ x ∈ NM, Nm x := by decide +kernel
theorem nmM_ok : ∀ i : Fin 19, Nm (nmM i.val) := by decide +kernel
theorem nmF_len : ∀ i : Fin 19, (nmF i.val).length ≤ 12 ∧ (toString ((i.val : Nat) : Int) : Str).length ≤ 3 := by decide +kernel
theorem NM_len : NM.length = 20 := by decide +kernel
def nmsN (n : Nat) : List Str := NM.take (n + 1)
theorem nms_len {n : Nat} (h : n ≤ 19) : (nmsN n).length = n + 1 := by
  unfold nmsN
  rw [List.length_take, NM_len]
  omega
def nmA (i : Nat) : Str := NM.getD i ""
theorem nms_at {n i : Nat} (h : n ≤ 19) (hi : i ≤ n) : (nmsN n)[i]? = some (nmA i) := by
  unfold nmsN nmA
  rw [List.getElem?_take, if_pos (by omega), List.getD_eq_getElem?_getD, List.getElem?_eq_getElem (by rw [NM_len]; omega)]
  rfl
theorem nms_succ {n i : Nat} (h : n ≤ 19) (hi : i < n) : nmA (i + 1) = nmF i := by
  unfold nmA NM
  rw [List.getD_eq_getElem?_getD, List.getElem?_cons_succ, List.getElem?_map, List.getElem?_range (by omega)]
  rfl
theorem nms_nd (n : Nat) : (nmsN n).Nodup := NM_nd.sublist (List.take_sublist _ _)
theorem nms_ok {n : Nat} : ∀ x ∈ nmsN n, Nm x := fun x hx => NM_ok x (List.mem_of_mem_take hx)
def foN (x : Str) : Fo := ⟨x, none, none, none, none, none, none, none, none⟩
theorem foN_name (l : List Str) : (l.map foN).map Fo.name = l := by
  rw [List.map_map]
  exact (List.map_congr_left fun _ _ => rfl).trans (List.map_id l)
def mkI (p : Nat × Int) : Mak := ⟨nmM p.1, nmA p.1, nmA (p.1 + 1), p.2⟩
theorem chn_of {n : Nat} (hn : n ≤ 19) {js : List (Nat × Int)} (pm : (js.map (·.1)).Perm (List.range n)) : Chn (nmsN n) (js.map mkI) := by
  refine ⟨nms_nd n, fun x hx => ?_, fun i hi => ?_⟩
  · obtain ⟨p, hp, rfl⟩ := List.mem_map.mp hx
    have : p.1 < n := List.mem_range.mp (pm.mem_iff.mp (List.mem_map.mpr ⟨p, hp, rfl⟩))
    exact ⟨p.1, nms_at hn (by omega), nms_at hn this⟩
  · rw [nms_len hn] at hi
    obtain ⟨p, hp, e⟩ := List.mem_map.mp (pm.mem_iff.mpr (List.mem_range.mpr (show i < n by omega)))
    exact ⟨mkI p, List.mem_map.mpr ⟨p, hp, rfl⟩, by rw [nms_at hn (by omega)]; show _ = some (nmA p.1); rw [e], by rw [nms_at hn (by omega)]; show _ = some (nmA (p.1 + 1)); rw [e]⟩
theorem mkS_I {n : Nat} (hn : n ≤ 19) {js : List (Nat × Int)} (pm : (js.map (·.1)).Perm (List.range n)) (hc : ∀ p ∈ js, 0 ≤ p.2 ∧ p.2 ≤ 1000) : MkS (js.map mkI) := by
  have lt : ∀ p ∈ js, p.1 < n := fun p hp => List.mem_range.mp (pm.mem_iff.mp (List.mem_map.mpr ⟨p, hp, rfl⟩))
  refine ⟨?_, fun m hm => ?_, fun m hm => ?_⟩
  · have := pm.length_eq
    rw [List.length_map, List.length_range] at this
    rw [List.length_map, this]
    omega
  · obtain ⟨p, hp, rfl⟩ := List.mem_map.mp hm
    have := lt p hp
    exact ⟨nmM_ok ⟨p.1, by omega⟩, nms_ok _ (List.mem_of_getElem? (nms_at (i := p.1 + 1) hn this))⟩
  · obtain ⟨p, hp, rfl⟩ := List.mem_map.mp hm
    exact hc p hp
theorem mkI_in {n : Nat} (hn : n ≤ 19) {js : List (Nat × Int)} (pm : (js.map (·.1)).Perm (List.range n)) : ∀ m ∈ js.map mkI, m.s ∈ nmsN n ∧ m.t ∈ nmsN n := fun m hm => by
  obtain ⟨p, hp, rfl⟩ := List.mem_map.mp hm
  have : p.1 < n := List.mem_range.mp (pm.mem_iff.mp (List.mem_map.mpr ⟨p, hp, rfl⟩))
  exact ⟨List.mem_of_getElem? (nms_at (i := p.1) hn (by omega)), List.mem_of_getElem? (nms_at (i := p.1 + 1) hn this)⟩
/-! ### makers in tuples of a heap -/
def mkOf (H : Hp) (t : Addr) : Mak := match H t with
  | some (.tup [.str n, .str s, .str t, .int c]) => ⟨n, s, t, c⟩
  | _ => ⟨"", "", "", 0⟩
def TM (H : Hp) (ts : List Addr) : Prop := ∀ t ∈ ts, ∃ m, H t = some (.tup (makV m))
theorem mkOf_at {H : Hp} {t : Addr} {m : Mak} (h : H t = some (.tup (makV m))) : mkOf H t = m := by
  unfold mkOf
  rw [h]
  rfl
theorem TM.at_ {H : Hp} {ts : List Addr} (h : TM H ts) {t : Addr} (ht : t ∈ ts) : H t = some (.tup (makV (mkOf H t))) := by
  obtain ⟨m, e⟩ := h t ht
  rw [mkOf_at e]; exact e
theorem TM.rb {K : PySem.W.Frag} {H : Hp} {ts : List Addr} (h : TM H ts) : RB K makV H (ts.map V.ref) (ts.map (mkOf H)) := by
  refine ⟨by rw [List.length_map, List.length_map], fun j m e => ?_⟩
  rw [List.getElem?_map] at e
  obtain ⟨t, ht, rfl⟩ := Option.map_eq_some_iff.mp e
  exact ⟨t, by rw [List.getElem?_map, ht]; rfl, SqT.of (h.at_ (List.mem_of_getElem? ht))⟩
theorem TM.keep {H H' : Hp} {ts : List Addr} (h : TM H ts) (k : ∀ t ∈ ts, ∀ xs, H t = some (.tup xs) → H' t = some (.tup xs)) : TM H' ts ∧ ts.map (mkOf H') = ts.map (mkOf H) := by
  refine ⟨fun t ht => ⟨_, k t ht _ (h.at_ ht)⟩, List.map_congr_left fun t ht => ?_⟩
  exact mkOf_at (k t ht _ (h.at_ ht))
theorem mak_alike (a b : Mak) : alike (makD a) (makD b) = true := by
  simp [makD, alike, alikeAll]
theorem makD_dp {K : PySem.W.Frag} {H : Hp} {t : Addr} {m : Mak} (h : SqT K H t (makV m)) : Dp K H (.ref t) (makD m) := .tup h (.cons (.str _) (.cons (.str _) (.cons (.str _) (.cons (.int _) .nil))))
theorem mergeK_kb {K : PySem.W.Frag} {H : Hp} {α : Type} {key : α → Str} {val : α → List V} : ∀ {more : List (Key × V)} {kvs : List (Key × V)} {F G : List α}, KB K key val H kvs F → KB K key val H more G → ((F ++ G).map key).Nodup → mergeK kvs more = kvs ++ more
  | [], kvs, F, G, h, h2, nd => (List.append_nil _).symm
  | (k, v) :: more, kvs, F, G, h, h2, nd => by
    cases G with
    | nil => have := h2.1; simp at this
    | cons g G =>
      obtain ⟨t, e, st⟩ := h2.2 0 g rfl
      have e : ((k, v) : Key × V) = (Sum.inr (key g), .ref t) := by simpa using e
      cases e
      have h3 : KB K key val H more G := ⟨by have := h2.1; simpa using this, fun j a ha => h2.2 (j + 1) a ha⟩
      have hn : valV kvs (Sum.inr (key g) : Key) = none := h.none fun a ha z => by
        rw [List.map_append, List.nodup_append] at nd
        exact nd.2.2 _ (List.mem_map.mpr ⟨a, ha, rfl⟩) _ (List.mem_map.mpr ⟨g, List.mem_cons_self, rfl⟩) z
      show mergeK (putK kvs (Sum.inr (key g)) (.ref t)) more = _
      rw [putK_new hn, mergeK_kb (h.snoc st) h3 (by rw [List.append_assoc]; exact nd), List.append_assoc]
      rfl
theorem ddA_get {K : PySem.W.Frag} {H : Hp} : ∀ {xs : List V} {ds : List PyData}, DdAll K H xs ds → ∀ {i : Nat} {d : PyData}, ds[i]? = some d → ∃ v, xs[i]? = some v ∧ Dd K H v d
  | _, _, .nil, i, d, h => by simp at h
  | _, _, .cons h1 h2, 0, d, h => by cases h; exact ⟨_, rfl, h1⟩
  | _, _, .cons h1 h2, i + 1, d, h => by simpa using ddA_get h2 (by simpa using h)
theorem ddA_ln {K : PySem.W.Frag} {H : Hp} : ∀ {xs : List V} {ds : List PyData}, DdAll K H xs ds → xs.length = ds.length
  | _, _, .nil => rfl
  | _, _, .cons h1 h2 => congrArg (· + 1) (ddA_ln h2)
theorem dd_get {K : PySem.W.Frag} {H : Hp} {v : V} {ds : List PyData} (h : Dd K H v (.tuple ds)) : ∃ p xs, v = .ref p ∧ SqT K H p xs ∧ xs.length = ds.length ∧ ∀ (i : Nat) (d : PyData), ds[i]? = some d → ∃ v, xs[i]? = some v ∧ Dd K H v d := by
  cases h with
  | @tup p xs _ h1 h2 => exact ⟨p, xs, rfl, h1, ddA_ln h2, fun i d e => ddA_get h2 e⟩
theorem nms_cons {n : Nat} (h : n ≤ 19) : nmsN n = ("plain" : Str) :: (List.range n).map nmF := by
  unfold nmsN NM
  rw [List.take_succ_cons, ← List.map_take, List.take_range, Nat.min_eq_left h]
theorem nms_last {n : Nat} (h : n ≤ 19) (h0 : 0 < n) : nmsN n = (nmsN n).take n ++ [nmA n] := by
  rw [← take_snoc (nms_at h (Nat.le_refl n)), ← nms_len h, List.take_length]
theorem kb_cons {K : PySem.W.Frag} {H : Hp} {α : Type} {key : α → Str} {val : α → List V} {a : α} {t : Addr} {kvs : List (Key × V)} {F : List α} (ht : SqT K H t (val a)) (h : KB K key val H kvs F) : KB K key val H ((Sum.inr (key a), .ref t) :: kvs) (a :: F) := by
  refine ⟨congrArg (· + 1) h.1, fun j b e => ?_⟩
  cases j with
  | zero => cases e; exact ⟨t, rfl, ht⟩
  | succ j => exact h.2 j b e
theorem GrN.tabG {P : Addr} {H H' : Hp} (g : GrN H H') (h : TabG H P) : TabG H' P := by
  obtain ⟨ps, h1, t1⟩ := h
  rcases g P _ (fun _ z => by cases z) h1 with q | ⟨qs, more, e, q, t⟩
  · exact ⟨ps, q, t1⟩
  · cases e
    exact ⟨_, q, t t1⟩
theorem ix_last {α : Type} {xs : List α} {y : α} : ixN (xs ++ [y]).length (-1) = some xs.length := by
  unfold ixN
  rw [if_neg (by omega), if_pos (by rw [List.length_append]; show -(((xs.length + 1 : Nat)) : Int) ≤ -1; omega), List.length_append]
  show some ((-1 : Int) + ((xs.length + 1 : Nat) : Int)).toNat = some xs.length
  congr 1
  omega
theorem at_last {α : Type} {xs : List α} {y : α} : atI (xs ++ [y]) (-1) = some y := by
  unfold atI
  rw [ix_last]
  simp
theorem cut1 (x : V) (xs : List V) : cutV (x :: xs) (some 1) none = xs := by
  unfold cutV
  have e1 : HT.sIx (x :: xs).length 0 (some 1) = 1 := by
    simp [HT.sIx]
  have e2 : HT.sIx (x :: xs).length (x :: xs).length none = xs.length + 1 := by
    simp [HT.sIx]
  rw [e1, e2]
  simp
theorem str_log {i : Nat} (h : i < 19) : ((i : Nat) : Int).natAbs.log2 < 1920 := by
  have h5 : ∀ n : Fin 19, n.val.log2 < 1920 := by decide
  exact h5 ⟨i, h⟩
end Vf
end
section
set_option Elab.async false
set_option linter.all false
set_option maxRecDepth 100000
set_option maxHeartbeats 4000000
namespace Vf
open PySem PySem.Spec PyProof.Rows L2 GxR GenW RZ PySem.W
theorem atN {α : Type} {xs : List α} {j : Nat} {v : α} (h : xs[j]? = some v) : atI xs (j : Int) = some v := by
  unfold atI
  rw [ixN_nat (List.getElem?_eq_some_iff.mp h).1]
  exact h
def muL (L : Addr) (H : Hp) : Nat := match H L with
  | some (.lst ys) => ys.length
  | _ => 0
theorem muL_eq {L : Addr} {H : Hp} {ys : List V} (h : H L = some (.lst ys)) : muL L H = ys.length := by
  unfold muL
  rw [h]
theorem mo_neW {K : PySem.W.Frag} : MoR (rNeW K) := fun x y H Q Q' h q => by
  rcases q.h with q | ⟨⟨d, z, h1, h2, q⟩⟩ | ⟨⟨a, b, xs, h1, h2, h3, h4, q⟩⟩
  · exact ⟨.inl (mo_ne x y H _ _ h q)⟩
  · exact ⟨.inr (.inl ⟨d, z, h1, h2, h _ _ q⟩)⟩
  · exact ⟨.inr (.inr ⟨a, b, xs, h1, h2, h3, h4, h _ _ q⟩)⟩
theorem mo_lstT {t : TA} (ht : MoA t) : MoE (tLst t) := fun σ H Q Q' h q => ht σ H _ _ (fun xs H1 ⟨z, f⟩ => ⟨z, fun p hp => h _ _ (f p hp)⟩) q
theorem erase_perm {α β : Type} {js : List α} {f : α → β} {is : List β} {k : Nat} {y : β} {a : α} (e : f a = y) (h : is[k]? = some y) {l : List β} (p : (js.map f ++ is).Perm l) : ((js ++ [a]).map f ++ is.eraseIdx k).Perm l := by
  refine List.Perm.trans ?_ p
  rw [List.map_append, List.map_singleton, e, List.append_assoc]
  refine List.Perm.append_left _ ?_
  obtain ⟨hk, ek⟩ := List.getElem?_eq_some_iff.mp h
  rw [List.eraseIdx_eq_take_drop_succ]
  have : is = is.take k ++ y :: is.drop (k + 1) := by
    rw [← ek, List.getElem_cons_drop, List.take_append_drop]
  conv => rhs; rw [this]
  exact (List.perm_middle (l₁ := is.take k)).symm
section
variable {P : Program} {w : World} {K : PySem.W.Frag} {mg : Str → Option Value} {base : Heap}
theorem ok_long_right {fd : FuncData} (F : FnP K "_law_long_right" s__law_long_right fd) (T : TD K mg) (D__law_upto : Df P w K mg base "_law_upto" 2 p__law_upto spUpto) (D__law_choice : Df P w K mg base "_law_choice" 3 p__law_choice (spChoice K))
    (D__law_equal : DfG P w K mg base "_law_equal" 1 p__law_equal (spEqual K)) (D__law_answer_due : Df P w K mg base "_law_answer_due" 3 p__law_answer_due (spDue K)) (D_best : Df P w K mg base "best" 4 p_best (spBest K)) : FnG P w K mg base CX0 5 (He.fAd K ("_law_long_right", none)) fd p__law_long_right (spLong K) := by
  refine okQ F sc__law_long_right (fun vs H Q E h => by obtain ⟨u, c, rfl, _⟩ := h; rfl) (fun A outer s H vs Q E hgu hr h => ?_)
  obtain ⟨u, c, rfl, hu, htb, k⟩ := h
  obtain ⟨aP, m_PLAIN, sP⟩ := T.c_PLAIN
  refine ⟨_, (pss_cons (ps_set (i := 1) sc__law_long_right.nd rfl (by first | exact Or.inl rfl | exact Or.inr rfl) (pe_op (u_add (K := K) rfl) pe_int (pe_fn D__law_upto hr (by decide) rfl (pa_cons (pv 0) (pa_cons pe_int pa_nil)))))
      (pss_cons (ps_set (i := 3) sc__law_long_right.nd rfl (by first | exact Or.inl rfl | exact Or.inr rfl) (pe_op (u_add (K := K) rfl) (pe_lst (pa_cons pe_str pa_nil)) (pe_lc (own := [("place", 2)]) (g := gName 2) (tt := tYes) rfl sc__law_long_right.nd (pi_range1 rfl T.b_range (pa_cons (pv 1) pa_nil)) (blkOk_by (own := [("place", 2)]) (N := n__law_long_right) (sc := defScope s__law_long_right) (by decide +kernel)) (fun _ _ _ _ _ => (pg_name (i := 2) sc__law_long_right.nd rfl (by first | exact Or.inl rfl | exact Or.inr rfl))) (fun _ _ _ _ _ => pts_nil) (fun _ _ _ _ _ => (pe_op (u_add (K := K) rfl) pe_str (pe_callTy call_strU rfl T.b_str (by decide +kernel) (pa_cons (pv 2) pa_nil)))))))
      (pss_cons (ps_set (i := 5) sc__law_long_right.nd rfl (by first | exact Or.inl rfl | exact Or.inr rfl) (pe_callTy (call_dictP rfl) rfl T.b_dict (by decide +kernel) (pa_cons (pe_op (u_add (K := K) rfl) (pe_lst (pa_cons (pe_tup (pa_cons pe_str (pa_cons (pe_ref rfl m_PLAIN) pa_nil))) pa_nil)) (pe_lc (own := [("name", 4)]) (g := gName 4) (tt := tYes) rfl sc__law_long_right.nd (k_list (K := K) rfl (pe_slice (u_sl (K := K) rfl) (pv 3) (po_some pe_int) po_none)) (blkOk_by (own := [("name", 4)]) (N := n__law_long_right) (sc := defScope s__law_long_right) (by decide +kernel)) (fun _ _ _ _ _ => (pg_name (i := 4) sc__law_long_right.nd rfl (by first | exact Or.inl rfl | exact Or.inr rfl))) (fun _ _ _ _ _ => pts_nil) (fun _ _ _ _ _ => (pe_tup (pa_cons (pv 4) (pa_cons (pe_op (u_add (K := K) rfl) (pe_tup (pa_cons (pv 4) pa_nil)) (pe_slice (u_sl (K := K) rfl) (pe_ref rfl m_PLAIN) (po_some pe_int) po_none)) pa_nil)))))) pa_nil)))
      (pss_cons (ps_par (i := 6) (j := 7) (by rfl) sc__law_long_right.nd rfl rfl (by decide) rfl rfl (pa_cons (pe_lst pa_nil) (pa_cons (pe_enZip (K := K) rfl rfl rfl T.b_list rfl T.b_enumerate rfl T.b_zip (pa_cons (pv 3) (pa_cons (pe_slice (u_sl (K := K) rfl) (pv 3) (po_some pe_int) po_none) pa_nil))) pa_nil)) (by rfl))
      (pss_cons (ps_while PassesOwn.never (pt_cmpR (u_neW (K := K) rfl hr.units) (pv 7) (pe_lst pa_nil) (nomark _))
      (pss_cons (ps_asg (k_bm (K := K) rfl PySem.F.plainAttrs_list PySem.F.slot_list_pop PySem.F.type_list_pop mt_popAt (pv 7) (pa_cons (pe_fn D__law_choice hr (by decide) rfl (pa_cons (pv 0) (pa_cons (pe_lst (pa_cons pe_int (pa_cons (pe_op u_sub (pe_callB (k_len (K := K) rfl) rfl T.b_len (by decide +kernel) (pa_cons (pv 7) pa_nil)) pe_int) (pa_cons (pe_fn D__law_upto hr (by decide) rfl (pa_cons (pv 0) (pa_cons (pe_callB (k_len (K := K) rfl) rfl T.b_len (by decide +kernel) (pa_cons (pv 7) pa_nil)) pa_nil))) pa_nil)))) pa_nil))) pa_nil)) (kg_tup 2 (K := K) rfl rfl (pgs_cons (pg_name (i := 2) sc__law_long_right.nd rfl (by first | exact Or.inl rfl | exact Or.inr rfl)) (pgs_cons (pg_name (i := 8) sc__law_long_right.nd rfl (by first | exact Or.inl rfl | exact Or.inr rfl)) pgs_nil))))
      (pss_one (ps_expr (k_bm (K := K) rfl PySem.F.plainAttrs_list PySem.F.slot_list_append PySem.F.type_list_append mt_append (pv 6) (pa_cons (pe_tup (pa_cons (pe_op (u_add (K := K) rfl) pe_str (pe_callTy call_strU rfl T.b_str (by decide +kernel) (pa_cons (pv 2) pa_nil))) (pa_cons (pe_ix (u_ix (K := K) rfl) (pv 8) pe_int (fun _ _ => rfl)) (pa_cons (pe_ix (u_ix (K := K) rfl) (pv 8) pe_int (fun _ _ => rfl)) (pa_cons (pe_fn D__law_choice hr (by decide) rfl (pa_cons (pv 0) (pa_cons (pe_lst (pa_cons pe_int (pa_cons pe_int (pa_cons pe_int pa_nil)))) pa_nil))) pa_nil))))) pa_nil))))))
      (pss_cons (ps_for PassesOwn.never rfl (k_tup (K := K) rfl (pe_tup (pa_cons (k_tuple (K := K) rfl rfl T.b_tuple (pv 6)) (pa_cons (k_tuple (K := K) rfl rfl T.b_tuple (pe_callB (cr_sortD rfl hr.units) rfl T.b_sorted (by decide +kernel) (pa_cons (pv 6) pa_nil))) (pa_cons (pe_revT (K := K) rfl (k_tuple (K := K) rfl rfl T.b_tuple (pe_callB (cr_sortD rfl hr.units) rfl T.b_sorted (by decide +kernel) (pa_cons (pv 6) pa_nil)))) pa_nil))))) (pg_name (i := 9) sc__law_long_right.nd rfl (by first | exact Or.inl rfl | exact Or.inr rfl))
      (pss_cons (ps_set (i := 10) sc__law_long_right.nd rfl (by first | exact Or.inl rfl | exact Or.inr rfl) (pe_fn D__law_answer_due hr (by decide) rfl (pa_cons (pv 5) (pa_cons (pv 9) (pa_cons pe_str (pa_cons (pe_tup pa_nil) (pa_cons (pe_ix (u_ix (K := K) rfl) (pv 3) (pe_un un_neg pe_int) (fun _ _ => rfl)) pa_nil)))))))
      (pss_one (ps_if (PW.pt (pw_or (pt_not (pt_val (pe_fnG hgu D__law_equal hr (by decide) rfl (pa_cons (pe_fn D_best hr (by decide) rfl (pa_cons (pv 5) (pa_cons (pv 9) (pa_cons pe_str (pa_cons (pe_tup pa_nil) (pa_cons (pe_ix (u_ix (K := K) rfl) (pv 3) (pe_un un_neg pe_int) (fun _ _ => rfl)) pa_nil)))))) (pa_cons (pv 10) pa_nil))))) (pw_or1 (pt_cmpR (u_neW (K := K) rfl hr.units) (pe_callB (k_len (K := K) rfl) rfl T.b_len (by decide +kernel) (pa_cons (pe_ix (u_ix (K := K) rfl) (pv 10) pe_int (fun _ _ => rfl)) pa_nil)) (pv 1) (nomark _)))))
      (pss_one (ps_ret pe_bl))
      pss_nil))))
      (pss_one (ps_ret pe_bl)))))))), ?_⟩
  -- many
  refine ⟨_, rfl, u, c, 18, rfl, hu, by decide, by decide, fun r H1 hr0 hr1 g1 hu1 => a_ii ?_⟩
  obtain ⟨n, hn2, hn, en⟩ : ∃ n : Nat, 2 ≤ n ∧ n ≤ 19 ∧ 2 + r = (n : Int) := ⟨(2 + r).toNat, by omega, by omega, by omega⟩
  rw [en]
  have tb1 := g1.tabG hu htb
  -- names
  refine ⟨le_sz (show 1 ≤ 10000 by omega), fun q1 e1 => ?_⟩
  refine newH e1 fun H2 g2 s2 => ?_
  have hu2 := hu1.gr g2
  refine ⟨_, rfl, (n : Int), rfl, by omega, by omega, fun D hD => ?_⟩
  refine lc_range (lo := 0) (n := n) (fun i H' => Gr H2 H' ∧ H' D = some (.lst (strV ((List.range i).map nmF)))) ⟨Gr.new hD, upd_same⟩ ?_ ?_
  · rintro i H' hi ⟨g, hL⟩
    refine ⟨rfl, ?_⟩
    have fl := nmF_len ⟨i, by omega⟩
    refine ⟨_, rfl, .inl ⟨_, rfl, by rw [Int.zero_add]; exact str_log (by omega), ?_⟩⟩
    rw [Int.zero_add]
    refine a_ss (le_sz (by have := fl.2; show 1 + _ ≤ _; dsimp only at this; omega)) ?_
    refine ⟨_, hL, by rw [strV_len, List.length_map, List.length_range, sizeLine_eq]; omega, g.upd' hD, ?_⟩
    rw [upd_same, List.range_succ, List.map_append, List.map_singleton, strV_snoc]
    rfl
  rintro H3 ⟨g3, hD3⟩
  have l3 : (strV ((List.range n).map nmF)).length = n := by rw [strV_len, List.length_map, List.length_range]
  refine a_ll (g3.lst s2) hD3 (le_sz (by rw [l3]; show 1 + n ≤ _; omega)) fun N hN => ?_
  refine newH hN fun H4 g4 s4 => ?_
  have s4 : H4 N = some (.lst (strV (nmsN n))) := by rw [s4, nms_cons hn]; rfl
  have hu4 := (hu2.gr g3).gr g4
  have nN := (hu2.gr g3).ou hN
  have g04 : GrU u H H4 := ((g1.trans g2.u).trans g3.u).trans g4.u
  have tb4 : TabG H4 (tb K "contains") := g4.tabG (g3.tabG (g2.tabG tb1))
  clear g4 g3 g2 hN hD3 s2 hu2 e1 hD tb1 hu1 g1 hr0 hr1 en l3 htb
  -- forms
  refine ⟨le_sz (show 2 ≤ 10000 by omega), fun p0 e0 => ?_⟩
  refine newH e0 fun H5 g5 s5 => ?_
  refine ⟨le_sz (show 1 ≤ 10000 by omega), fun q2 e2 => ?_⟩
  refine newH e2 fun H6 g6 s6 => ?_
  refine ⟨_, rfl, _, rfl, sl_l (SqL.of (g6.lst (g5.lst s4))) fun S hS => ?_⟩
  refine newH hS fun H7 g7 s7 => ?_
  have s7 : H7 S = some (.lst (strV ((List.range n).map nmF))) := by
    rw [s7, nms_cons hn]
    exact congrArg (fun z => some (HO.lst z)) (cut1 _ _)
  refine ⟨S, rfl, ⟨_, SqL.of s7⟩, fun D hD => ?_⟩
  refine lc_list (K := K) (a := S) (xs := strV ((List.range n).map nmF)) (fun i H' => ∃ (ps : List Addr) (kvs : List (Key × V)), Gr H7 H' ∧ H' D = some (.lst (ps.map V.ref)) ∧ Paired (fun p kv => SqT K H' p [kV kv.1, kv.2]) ps kvs ∧ KB K Fo.name foV H' kvs ((List.range i).map fun j => foN (nmF j)) ∧ ps.length = i)
    ⟨[], [], Gr.new hD, upd_same, .nil, KB.nil, rfl⟩ ?_ ?_ ?_
  · rintro i H' _ ⟨ps, kvs, g, _⟩
    exact g.seqL (SqL.of s7)
  · rintro i x H' hx ⟨ps, kvs, g, hL, hP, hK, hl⟩
    obtain ⟨nm, hnm, rfl⟩ := strV_get hx
    have hi : i < n := by
      have := (List.getElem?_eq_some_iff.mp hnm).1
      rwa [List.length_map, List.length_range] at this
    obtain rfl : nmF i = nm := by
      rw [List.getElem?_map, List.getElem?_range hi] at hnm
      exact Option.some.inj hnm
    refine ⟨rfl, ?_⟩
    refine ⟨_, rfl, _, rfl, le_sz (show 1 ≤ 10000 by omega), fun t1 e1 => ?_⟩
    refine newH e1 fun H8 g8 s8 => ?_
    refine ⟨_, rfl, sl_t (sP _) (fun z => absurd z.1 (by decide)) (fun _ t2 e2 => ?_)⟩
    refine newH e2 fun H9 g9 s9 => ?_
    rw [show cutV (strV ["plain", "", "", "", "", "", "", "", ""]) (some 1) none = strV ["", "", "", "", "", "", "", ""] from cut1 _ _] at s9
    refine a_ttG (g9.seqT (SqT.of s8)) (SqT.of s9) (le_sz (show 1 + 8 ≤ 10000 by omega)) fun t3 Ha ga st3 => ?_
    refine ⟨le_sz (show 2 ≤ 10000 by omega), fun t4 e4 => ?_⟩
    refine newH e4 fun Hb gb sb => ?_
    have G := ((g8.trans g9).trans ga).trans gb
    have hLb := G.lst hL
    have kp : ∀ t ys, SqT K Hb t ys → SqT K (upd Hb D (.lst (ps.map V.ref ++ [.ref t4]))) t ys := fun t ys q => upd_seqT hLb t ys q
    refine ⟨_, hLb, by rw [List.length_map, hl, sizeLine_eq]; omega, ps ++ [t4], kvs ++ [(Sum.inr (nmF i), .ref t3)], (g.trans G).upd' hD, by rw [upd_same, List.map_append]; rfl, ?_, ?_, by rw [List.length_append, hl]; rfl⟩
    · exact (hP.mono fun p kv q => kp _ _ (G.seqT q)).snoc (kp _ _ (SqT.of sb))
    · rw [List.range_succ, List.map_append, List.map_singleton]
      exact ((hK.gr G).mono kp).snoc (a := foN (nmF i)) (kp _ _ (gb.seqT st3))
  rintro H8 ⟨ps, kvs, g8, hD8, hP, hK, hl⟩
  rw [strV_len, List.length_map, List.length_range] at hK hl
  refine a_ll (g8.lst (g7.lst s6)) hD8 (le_sz (by rw [List.length_map, hl]; show 1 + n ≤ _; omega)) fun R hR => ?_
  refine newH hR fun H9 g9 s9 => ?_
  have G59 : Gr H5 H9 := ((g6.trans g7).trans g8).trans g9
  have kb9 : KB K Fo.name foV H9 ((Sum.inr (Fo.name (foN "plain")), .ref aP) :: kvs) ((nmsN n).map foN) := by
    rw [nms_cons hn, List.map_cons, List.map_map]
    exact kb_cons (a := foN "plain") (sP _) (hK.gr g9)
  have pr9 : Paired (fun p (kv : Key × V) => SqT K H9 p [kV kv.1, kv.2]) (p0 :: ps) ((Sum.inr (Fo.name (foN "plain")), .ref aP) :: kvs) := .cons (G59.seqT (SqT.of s5)) (hP.mono fun _ _ q => g9.seqT q)
  refine ⟨R, p0 :: ps, _, rfl, SqL.of s9, pr9, fun d hd => ?_⟩
  rw [mergeK_kb (F := []) KB.nil kb9 (by rw [List.nil_append, foN_name]; exact nms_nd n), List.nil_append]
  refine newH hd fun Ha ga sa => ?_
  have kba := kb9.gr ga
  have G4a : Gr H4 Ha := (g5.trans G59).trans ga
  generalize (((Sum.inr (Fo.name (foN "plain")), .ref aP) :: kvs : List (Key × V))) = kvF at sa kba
  have sNa := G4a.lst s4
  have hua := hu4.gr G4a
  have tba := G4a.tabG tb4
  have g0a := g04.trans G4a.u
  clear pr9 kb9 G59 hd s9 g9 hR hK hP hD8 g8 hl s7 g7 hS s6 g6 e2 s5 g5 e0 ga G4a g04 tb4
  -- makers, left
  refine ⟨Nat.zero_le _, fun M hM => ?_⟩
  have nMN : N ≠ M := ne_of_none sNa hM
  have nMu := hua.ou hM
  have nMc := hua.oc hM
  have hM0 : H M = none := g0a.free nMu hM
  refine newH hM fun Hb gb sb => ?_
  refine ⟨_, rfl, _, rfl, _, rfl, sl_l (SqL.of (gb.lst sNa)) fun S2 hS2 => ?_⟩
  refine newH hS2 fun Hc gc sc => ?_
  have sc : Hc S2 = some (.lst (strV ((List.range n).map nmF))) := by
    rw [sc, nms_cons hn]
    exact congrArg (fun z => some (HO.lst z)) (cut1 _ _)
  have huc := (hua.gr gb).gr gc
  refine ⟨N, S2, _, _, rfl, SqL.of (gc.lst (gb.lst sNa)), SqL.of sc, by rw [strV_len, nms_len hn]; omega, fun qs L Hd gd hql hq hLn hLd => ?_⟩
  have nLN : N ≠ L := ne_of_none (gc.lst (gb.lst sNa)) hLn
  have nLM : M ≠ L := ne_of_none (gc.lst sb) hLn
  have nLu := huc.ou hLn
  have nLc := huc.oc hLn
  have gad := (gb.trans gc).trans gd
  have hL0 : H L = none := g0a.free nLu ((gb.trans gc).free hLn)
  have hql : qs.length = n := by
    rw [hql, strV_len, strV_len, nms_len hn, List.length_map, List.length_range]
    omega
  have hqa : ∀ i, i < n → Hd (qs.getD i (0, 0)).1 = some (.tup [.str (nmA i), .str (nmA (i + 1))]) ∧ Hd (qs.getD i (0, 0)).2 = some (.tup [.int (i : Nat), .ref (qs.getD i (0, 0)).1]) := fun i hi => by
    have e : qs[i]? = some (qs.getD i (0, 0)) := by rw [List.getD_eq_getElem?_getD, List.getElem?_eq_getElem (by omega)]; rfl
    obtain ⟨x, y, hx, hy, h1, h2⟩ := hq i _ e
    obtain ⟨x', hx', rfl⟩ := strV_get hx
    obtain ⟨y', hy', rfl⟩ := strV_get hy
    rw [nms_at hn (by omega)] at hx'
    rw [List.getElem?_map, List.getElem?_range hi] at hy'
    obtain rfl := Option.some.inj hx'
    obtain rfl := Option.some.inj hy'
    rw [nms_succ hn hi]
    exact ⟨h1, h2⟩
  have hLd : Hd L = some (.lst ((List.range n).map fun i => .ref (qs.getD i (0, 0)).2)) := by
    rw [hLd]
    congr 2
    refine List.ext_getElem? fun i => ?_
    rw [List.getElem?_map, List.getElem?_map]
    by_cases hi : i < n
    · rw [List.getElem?_range hi, List.getElem?_eq_getElem (by omega)]
      have e : qs.getD i (0, 0) = qs[i]'(by omega) := by rw [List.getD_eq_getElem?_getD, List.getElem?_eq_getElem (by omega)]; rfl
      show some (V.ref _) = some (V.ref (qs.getD i (0, 0)).2)
      rw [e]
    · rw [List.getElem?_eq_none (by omega), List.getElem?_eq_none (by rw [List.length_range]; omega)]
      rfl
  obtain ⟨qa, hqa, hLd⟩ : ∃ qa : Nat → Addr × Addr, (∀ i, i < n → Hd (qa i).1 = some (.tup [.str (nmA i), .str (nmA (i + 1))]) ∧ Hd (qa i).2 = some (.tup [.int (i : Nat), .ref (qa i).1])) ∧ Hd L = some (.lst ((List.range n).map fun i => .ref (qa i).2)) := ⟨fun i => qs.getD i (0, 0), hqa, hLd⟩
  refine ⟨_, _, rfl, ?_⟩
  have hud := huc.gr gd
  have sNd := gd.lst (gc.lst (gb.lst sNa))
  have sMd := gd.lst (gc.lst sb)
  have kbd := kba.gr gad
  have hdd := gad.keep sa (fun _ z => by cases z)
  have tbd := gad.tabG tba
  have g0d := g0a.trans gad.u
  dsimp only [gName, tSeq]
  refine while_by (fun σ H' => ∃ (o2 o8 : Option V) (is : List Nat) (js : List (Nat × Int)) (ts : List Addr), σ = [some (.ref u), some (.int (n : Nat)), o2, some (.ref N), none, some (.ref d), some (.ref M), some (.ref L), o8, none, none] ∧ GrN Hd H' ∧ GrU u H H' ∧ Urn c H' u ∧ H' N = some (.lst (strV (nmsN n))) ∧ H' L = some (.lst (is.map fun i => .ref (qa i).2)) ∧ H' M = some (.lst (ts.map V.ref)) ∧ TM H' ts ∧ ts.map (mkOf H') = js.map mkI ∧ (js.map (·.1) ++ is).Perm (List.range n) ∧ ∀ p ∈ js, 0 ≤ p.2 ∧ p.2 ≤ 1000)
    (fun _ H' => muL L H') ⟨none, none, List.range n, [], [], rfl, GrN.refl _, g0d, hud, sNd, hLd, sMd, fun _ h => (by cases h), rfl, by simp, fun _ h => (by cases h)⟩ ?_ ?_
  rotate_left
  · exact mo_test (mo_op mo_neW (mo_var 7) (mo_lstT mo_nil))
  rintro σ H' ⟨o2, o8, is, js, ts, rfl, gN, g0, hu', sN, sL, sM, tm, em, pm, hc⟩
  have ilt : ∀ i ∈ is, i < n := fun i hi => List.mem_range.mp (pm.mem_iff.mp (List.mem_append_right _ hi))
  have ll := pm.length_eq
  rw [List.length_append, List.length_map, List.length_range] at ll
  have lt : ts.length = js.length := by
    have := congrArg List.length em
    rwa [List.length_map, List.length_map] at this
  refine ⟨_, rfl, le_sz (Nat.zero_le _), fun e0 he0 => ?_⟩
  refine newH he0 fun H1 g1 s1 => ?_
  refine wn_nil (SqL.of (g1.lst sL)) (SqL.of s1) ⟨_, rfl, ?_⟩
  have hu1 := hu'.gr g1
  have gN1 := gN.trans g1.n
  have g01 := g0.trans g1.u
  have sN1 := g1.lst sN
  have sL1 := g1.lst sL
  have sM1 := g1.lst sM
  obtain ⟨tm1, em1⟩ := tm.keep (H' := H1) fun t _ xs e => g1.keep e (fun _ z => by cases z)
  rw [em] at em1
  have hmu : muL L H' = is.length := by rw [muL_eq sL, List.length_map]
  cases is with
  | nil =>
    rw [show (!decide ((List.map (fun i => V.ref (qa i).2) ([] : List Nat)) = [])) = false from rfl]
    refine iteF ?_
    rw [List.append_nil] at pm
    have chn := chn_of hn pm
    have mS := mkS_I hn pm hc
    have mI := mkI_in hn pm
    have hd1 : H1 d = some (.dK kvF) := gN1.keep hdd (fun _ z => by cases z) (fun _ z => by cases z)
    have kb1 : KB K Fo.name foV H1 kvF ((nmsN n).map foN) := kbd.mono fun _ _ q => gN1.seqT q
    have tbq := gN1.tabG tbd
    have l60 : ts.length ≤ 60 := by have := mS.l; rw [← em1, List.length_map] at this; exact this
    have sd : ∀ H', Gr H1 H' → ∀ x ∈ ts, Dp K H' (.ref x) (makD (mkOf H1 x)) ∧ (makD (mkOf H1 x)).depth ≤ 50 ∧ ∃ y r, makD (mkOf H1 x) = .tuple (y :: r) := fun H' g x hx =>
      ⟨makD_dp (g.seqT (SqT.of (tm1.at_ hx))), by simp [makD, PyData.depth, PyData.depthAll], ⟨_, _, rfl⟩⟩
    clear mI sL1 hmu ilt em tm s1 he0 sL sM sN gN g0 hu' hLd hqa
    refine ⟨_, rfl, ⟨.inl ⟨M, _, rfl, SqL.of sM1, fun t1 ht1 => ?_⟩⟩⟩
    refine newH ht1 fun H2 g2 s2 => ?_
    refine ⟨_, rfl, M, ts, fun t => makD (mkOf H1 t), rfl, SqL.of (g2.lst sM1), by omega, sd _ g2, fun x _ y _ => mak_alike _ _, fun us q5 pmu _ hq5 => ?_⟩
    refine newH hq5 fun H3 g3 s3 => ?_
    refine ⟨.inl ⟨q5, _, rfl, SqL.of s3, fun t2 ht2 => ?_⟩⟩
    refine newH ht2 fun H4 g4 s4 => ?_
    have G4 := (g2.trans g3).trans g4
    refine ⟨_, rfl, M, ts, fun t => makD (mkOf H1 t), rfl, SqL.of (G4.lst sM1), by omega, sd _ G4, fun x _ y _ => mak_alike _ _, fun us2 q6 pmu2 _ hq6 => ?_⟩
    refine newH hq6 fun H5 g5 s5 => ?_
    refine ⟨.inl ⟨q6, _, rfl, SqL.of s5, fun t4 ht4 => ?_⟩⟩
    refine newH ht4 fun H6 g6 s6 => ?_
    refine ⟨t4, _, rfl, SqT.of s6, fun t3 ht3 => ?_⟩
    refine newH ht3 fun H7 g7 s7 => ?_
    refine ⟨le_sz (show 3 ≤ 10000 by omega), fun tp htp => ?_⟩
    refine newH htp fun H8 g8 s8 => ?_
    have G48 := ((g5.trans g6).trans g7).trans g8
    have G8 := G4.trans G48
    have three : ∀ x ∈ [V.ref t1, .ref t2, .ref t3], ∃ (t : Addr) (ts' : List Addr), x = .ref t ∧ ts'.Perm ts ∧ SqT K H8 t (ts'.map V.ref) := fun x hx => by
      simp only [List.mem_cons, List.not_mem_nil, or_false] at hx
      rcases hx with rfl | rfl | rfl
      · exact ⟨t1, ts, rfl, List.Perm.refl _, (g3.trans (g4.trans G48)).seqT (SqT.of s2)⟩
      · exact ⟨t2, us, rfl, pmu, G48.seqT (SqT.of s4)⟩
      · exact ⟨t3, us2.reverse, rfl, (List.reverse_perm _).trans pmu2, g8.seqT (SqT.of (by rw [List.map_reverse]; exact s7))⟩
    have hd8 := G8.keep hd1 (fun _ z => by cases z)
    have kb8 := kb1.gr G8
    have sN8 := G8.lst sN1
    have hu8 := hu1.gr G8
    have tb8 := G8.tabG tbq
    have g08 := g01.trans G8.u
    obtain ⟨tm8, em8⟩ := tm1.keep (H' := H8) fun t _ xs e => G8.keep e (fun _ z => by cases z)
    rw [em1] at em8
    refine ⟨tp, rfl, ⟨_, SqT.of s8⟩, ?_⟩
    clear sd G48 G4 g8 g7 s7 g6 s6 g5 s5 g4 s4 g3 s3 g2 s2 G8 hd1 kb1 tbq sN1 hu1 sM1 g01 gN1 tm1 em1 g1
    refine for_tup (K := K) (a := tp) (xs := [.ref t1, .ref t2, .ref t3]) (fun i σ H' => ∃ (o9 o10 : Option V), σ = [some (.ref u), some (.int (n : Nat)), o2, some (.ref N), none, some (.ref d), some (.ref M), some (.ref L), o8, o9, o10] ∧ Gr H8 H')
      ⟨none, none, rfl, Gr.refl _⟩ ?_ ?_ ?_
    · rintro i σ H' _ ⟨_, _, rfl, g⟩
      exact g.seqT (SqT.of s8)
    · rintro i x σ H9 hx ⟨o9, o10, rfl, g9⟩
      obtain ⟨t, ts', rfl, pt, st⟩ := three x (List.mem_of_getElem? hx)
      have hd9 := g9.keep hd8 (fun _ z => by cases z)
      have kb9 := kb8.gr g9
      have sN9 := g9.lst sN8
      have tmt : TM H8 ts' := fun t ht => tm8 t (pt.mem_iff.mp ht)
      have rb9 := (tmt.rb (K := K)).gr g9
      have st9 := g9.seqT st
      have pmm : (ts'.map (mkOf H8)).Perm (js.map mkI) := by
        rw [← em8]; exact pt.map _
      have cm : ∀ m, m ∈ ts'.map (mkOf H8) ↔ m ∈ js.map mkI := fun m => pmm.mem_iff
      have chm := chn.congr (ms' := ts'.map (mkOf H8)) cm
      have mSm : MkS (ts'.map (mkOf H8)) := mS.sub (fun m hm => (cm m).mp hm) (Nat.le_of_eq pmm.length_eq)
      have hin : ∀ m ∈ ts'.map (mkOf H8), m.s ∈ ((nmsN n).map foN).map Fo.name ∧ m.t ∈ ((nmsN n).map foN).map Fo.name := fun m hm => by
        rw [foN_name]
        exact mkI_in hn pm m ((cm m).mp hm)
      have hF : (((nmsN n).map foN).map Fo.name).Nodup := by rw [foN_name]; exact nms_nd n
      have lF : ((nmsN n).map foN).length ≤ 100 := by rw [List.length_map, nms_len hn]; omega
      generalize ts'.map (mkOf H8) = ms at *
      generalize ts'.map V.ref = xs at *
      have eL : atI (strV (nmsN n)) (-1) = some (.str (nmA n)) := by
        rw [nms_last hn (by omega), strV_snoc]
        exact at_last
      have in0 : ("plain" : Str) ∈ ((nmsN n).map foN).map Fo.name := by rw [foN_name, nms_cons hn]; exact List.mem_cons_self
      have in1 : nmA n ∈ ((nmsN n).map foN).map Fo.name := by rw [foN_name]; exact List.mem_of_getElem? (nms_at hn (Nat.le_refl n))
      refine ⟨_, rfl, _, rfl, le_sz (Nat.zero_le _), fun qe he => ?_⟩
      refine newH he fun Ha ga sa => ?_
      refine ⟨_, rfl, _, rfl, x_l (SqL.of (ga.lst sN9)) eL ?_⟩
      refine ⟨d, t, qe, kvF, _, xs, ms, "plain", nmA n, [], rfl, ga.keep hd9 (fun _ z => by cases z), kb9.gr ga, hF, ga.seqT st9, rb9.gr ga, by have := mSm.l; omega, fun m hm => (mSm.c m hm).1, hin, fun m hm => (mSm.n m hm).2.1, SqT.of sa, by show 0 ≤ 100; omega, (fun _ h => by cases h), in0, in1, (fun _ _ _ => rfl), fun p Hb gb dd hcs hrr => ?_⟩
      have four := ansB_four (F := (nmsN n).map foN) (tgt := nmA n) mSm (NM_ok _ (by decide) : Nm "plain") (fs := []) (fun _ h => by cases h) (by show 0 ≤ 10; omega)
      obtain ⟨ns, C, R, eA, ln⟩ := chm.due (F := (nmsN n).map foN) (src := "plain") (by rw [nms_cons hn]; rfl) (nms_len hn) (nms_at hn (Nat.le_refl n)) hin hcs hrr
      have gab := ga.trans gb
      refine ⟨_, rfl, _, rfl, le_sz (Nat.zero_le _), fun qe2 he2 => ?_⟩
      refine newH he2 fun Hc gc sc => ?_
      have gac := gab.trans gc
      refine ⟨_, rfl, _, rfl, x_l (SqL.of (gac.lst sN9)) eL ?_⟩
      refine ⟨d, t, qe2, kvF, _, xs, ms, "plain", nmA n, [], rfl, gac.keep hd9 (fun _ z => by cases z), kb9.gr gac, hF, lF, gac.seqT st9, rb9.gr gac, by have := mSm.l; omega, fun m hm => (mSm.c m hm).1, hin, SqT.of sc, by show 0 ≤ 100; omega, (g9.trans gac).tabG tb8, fun pb Hd gd db => ?_⟩
      have dd' := (gc.trans gd).dd _ _ dd
      refine ⟨_, rfl, .ref pb, .ref p, _, _, rfl, db, dd', four, four, ⟨_, rfl, ?_⟩⟩
      rw [decide_eq_true rfl]
      rw [eA] at dd'
      obtain ⟨p', ys, e, sy, _, gt⟩ := dd_get dd'
      cases e
      obtain ⟨v, hv, dv⟩ := gt 2 _ rfl
      obtain ⟨pn, zs, rfl, sz, lz, _⟩ := dd_get dv
      rw [List.length_map] at lz
      have hz : zs.length = n := lz.trans ln
      refine ⟨_, rfl, x_t sy (atN hv) ⟨.ref pn, zs.length, rfl, .inr ⟨_, sz, rfl⟩, _, rfl, wn_flat rfl ⟨_, rfl, ?_⟩⟩⟩
      rw [hz, decide_eq_true rfl]
      exact iteF ⟨_, _, rfl, ((g9.trans gac).trans gd)⟩
    · rintro σ H9 ⟨o9, o10, rfl, g9⟩
      exact k _ (g08.trans g9.u) (hu8.gr g9)
  | cons i0 is0 =>
    rw [show (!decide ((List.map (fun i => V.ref (qa i).2) (i0 :: is0)) = [])) = true from rfl]
    refine iteT ?_
    generalize eis : i0 :: is0 = is at *
    have ipos : 0 < is.length := by rw [← eis]; exact Nat.succ_pos _
    clear eis s1 he0 g1 em tm sM sL sN hu' g0 gN
    have lV : LenV K (.ref L) H1 (is.map fun i => V.ref (qa i).2).length := .inl ⟨_, SqL.of sL1, rfl⟩
    rw [List.length_map] at lV
    refine ⟨_, rfl, .inl ⟨rfl, _, SqL.of sL1⟩, _, rfl, _, rfl, _, _, rfl, lV, sb_ii ⟨_, rfl, _, rfl, _, _, rfl, lV, u, c, _, rfl, hu1, by omega, by omega, fun r H2 hr0 hr1 g2 hu2 => ⟨le_sz (show 3 ≤ 10000 by omega), fun q3 e3 => ?_⟩⟩⟩
    have nq3 := hu2.ou e3
    refine newH e3 fun H3 g3 s3 => ?_
    have hu3 := hu2.gr g3
    refine ⟨u, c, q3, _, rfl, hu3, nq3, .inl (SqL.of s3), by simp, by show 3 < 1073741824; decide, fun z H4 hz g4 hu4 => ?_⟩
    obtain ⟨k, hk, rfl⟩ : ∃ k : Nat, k < is.length ∧ z = .int (k : Nat) := by
      simp only [List.mem_cons, List.not_mem_nil, or_false] at hz
      rcases hz with rfl | rfl | rfl
      · exact ⟨0, ipos, rfl⟩
      · exact ⟨is.length - 1, by omega, by congr 1; omega⟩
      · exact ⟨r.toNat, by omega, by congr 1; omega⟩
    have GU := (g2.trans g3.u).trans g4
    have gN4 := gN1.trans (GU.n hu1)
    have g04 := g01.trans GU
    have sL4 := GU.keep nLu sL1 (fun _ z => by cases z)
    have sM4 := GU.keep nMu sM1 (fun _ z => by cases z)
    have sN4 := GU.keep nN sN1 (fun _ z => by cases z)
    obtain ⟨tm4, em4⟩ := tm1.keep (H' := H4) fun t _ xs e => GU.notu hu1 e (fun _ z => by cases z) (fun _ z => by cases z)
    rw [em1] at em4
    clear GU g4 hz s3 g3 e3 hu3 nq3 g2 hu2 hr0 hr1 lV em1 tm1 sM1 sL1 sN1 g01 gN1 hu1
    have hki : is[k]? = some is[k] := List.getElem?_eq_getElem hk
    have il := ilt _ (List.getElem_mem hk)
    have lz : (is.eraseIdx k).length + 1 = is.length := by rw [List.length_eraseIdx_of_lt hk]; omega
    generalize is[k] = i at *
    refine ⟨L, _, k, k, .ref (qa i).2, rfl, rfl, sL4, by omega, by omega, ?_, ?_, ?_⟩
    · unfold seqIndex?
      rw [List.length_map]
      have q1 : ¬ (k : Int) < 0 := by omega
      simp only [q1, if_false]
      rw [if_pos (by simp; omega)]; rfl
    · rw [List.getElem?_map, hki]; rfl
    rw [show (is.map fun i => V.ref (qa i).2).eraseIdx k = (is.eraseIdx k).map fun i => V.ref (qa i).2 by rw [List.eraseIdx_eq_take_drop_succ, List.eraseIdx_eq_take_drop_succ, List.map_append, List.map_take, List.map_drop]]
    have kp : ∀ t ys, SqT K H4 t ys → SqT K (upd H4 L (.lst ((is.eraseIdx k).map fun i => V.ref (qa i).2))) t ys := fun t ys q => upd_seqT sL4 t ys q
    have st2 := kp _ _ (SqT.of (gN4.keep (hqa i il).2 (fun _ z => by cases z) (fun _ z => by cases z)))
    have st1 := kp _ _ (SqT.of (gN4.keep (hqa i il).1 (fun _ z => by cases z) (fun _ z => by cases z)))
    have gN5 := gN4.trans (GrN.upd (ys := (is.eraseIdx k).map fun i => V.ref (qa i).2) sL4)
    have g05 : GrU u H (upd H4 L (.lst ((is.eraseIdx k).map fun i => V.ref (qa i).2))) := gruD g04 hL0
    have hu5 : Urn c (upd H4 L (.lst ((is.eraseIdx k).map fun i => V.ref (qa i).2))) u := hu4.updD nLu nLc
    have sL5 : (upd H4 L (.lst ((is.eraseIdx k).map fun i => V.ref (qa i).2))) L = _ := upd_same
    have sM5 : (upd H4 L (.lst ((is.eraseIdx k).map fun i => V.ref (qa i).2))) M = _ := (upd_ne nLM).trans sM4
    have sN5 : (upd H4 L (.lst ((is.eraseIdx k).map fun i => V.ref (qa i).2))) N = _ := (upd_ne nLN).trans sN4
    obtain ⟨tm5, em5⟩ := tm4.keep (H' := upd H4 L (.lst ((is.eraseIdx k).map fun i => V.ref (qa i).2))) fun t ht xs e => by
      rw [upd_ne (fun z => by rw [z, sL4] at e; cases e)]; exact e
    rw [em4] at em5
    generalize upd H4 L (.lst ((is.eraseIdx k).map fun i => V.ref (qa i).2)) = H5 at *
    clear kp em4 tm4 sN4 sM4 sL4 g04 gN4 hu4
    refine ⟨_, _, rfl, st2, rfl, _, _, rfl, _, _, rfl, rfl, ?_⟩
    have fl : (toString ((i : Nat) : Int) : Str).length ≤ 3 := (nmF_len ⟨i, by omega⟩).2
    refine ⟨_, rfl, .inl ⟨rfl, _, SqL.of sM5⟩, _, rfl, .inl ⟨_, rfl, str_log (by omega), a_ss (le_sz (by show 1 + _ ≤ _; omega)) ⟨_, rfl, x_t st1 rfl ⟨_, rfl, x_t st1 rfl ⟨_, rfl, le_sz (show 3 ≤ 10000 by omega), fun q4 e4 => ?_⟩⟩⟩⟩⟩
    have nq4 := hu5.ou e4
    refine newH e4 fun H6 g6 s6 => ?_
    have hu6 := hu5.gr g6
    refine ⟨u, c, q4, _, rfl, hu6, nq4, .inl (SqL.of s6), by simp, by show 3 < 1073741824; decide, fun z H7 hz g7 hu7 => ?_⟩
    obtain ⟨co, hc1, hc2, rfl⟩ : ∃ co : Int, 0 ≤ co ∧ co ≤ 1000 ∧ z = .int co := by
      simp only [List.mem_cons, List.not_mem_nil, or_false] at hz
      rcases hz with rfl | rfl | rfl
      · exact ⟨_, by decide, by decide, rfl⟩
      · exact ⟨_, by decide, by decide, rfl⟩
      · exact ⟨_, by decide, by decide, rfl⟩
    refine ⟨le_sz (show 4 ≤ 10000 by omega), fun p hp => ?_⟩
    refine newH hp fun H8 g8 s8 => ?_
    have s8 : H8 p = some (.tup (makV (mkI (i, co)))) := s8
    have GU := (g6.u.trans g7).trans g8.u
    have sL8 := GU.keep nLu sL5 (fun _ z => by cases z)
    have sM8 := GU.keep nMu sM5 (fun _ z => by cases z)
    have sN8 := GU.keep nN sN5 (fun _ z => by cases z)
    have hu8 := hu7.gr g8
    obtain ⟨tm8, em8⟩ := tm5.keep (H' := H8) fun t _ xs e => GU.notu hu5 e (fun _ z => by cases z) (fun _ z => by cases z)
    rw [em5] at em8
    have gN8 := gN5.trans (GU.n hu5)
    have g08 := g05.trans GU
    refine ⟨M, _, .ref p, rfl, rfl, sM8, by rw [List.length_map, lt, sizeLine_eq]; omega, ?_⟩
    have kp : ∀ t xs, H8 t = some (.tup xs) → (upd H8 M (.lst (ts.map V.ref ++ [.ref p]))) t = some (.tup xs) := fun t xs e => by
      rw [upd_ne (fun z => by rw [z, sM8] at e; cases e)]; exact e
    have tm9 : TM H8 (ts ++ [p]) := fun t ht => by
      rcases List.mem_append.mp ht with z | z
      · exact tm8 t z
      · rw [List.mem_singleton.mp z]; exact ⟨_, s8⟩
    have em9 : (ts ++ [p]).map (mkOf H8) = (js ++ [(i, co)]).map mkI := by
      rw [List.map_append, List.map_append, em8, List.map_singleton, List.map_singleton, mkOf_at s8]
    obtain ⟨tmz, emz⟩ := tm9.keep fun t _ xs e => kp t xs e
    rw [em9] at emz
    have sLz : (upd H8 M (.lst (ts.map V.ref ++ [.ref p]))) L = _ := (upd_ne (Ne.symm nLM)).trans sL8
    refine ⟨⟨_, _, is.eraseIdx k, js ++ [(i, co)], ts ++ [p], rfl, gN8.trans (GrN.upd sM8), gruD g08 hM0, hu8.updD nMu nMc, (upd_ne nMN).trans sN8, sLz, by rw [upd_same, List.map_append]; rfl, tmz, emz, erase_perm rfl hki pm, ?_⟩, ?_⟩
    · intro p hp
      rcases List.mem_append.mp hp with z | z
      · exact hc p z
      · rw [List.mem_singleton.mp z]; exact ⟨hc1, hc2⟩
    · rw [hmu, muL_eq sLz, List.length_map]
      omega
end
end Vf
end
section
set_option Elab.async false
set_option linter.all false
set_option maxRecDepth 100000
set_option maxHeartbeats 0
namespace Vf
open PySem PySem.Spec PyProof.Rows L2 GxR GenW RZ
/-! ### the head: what stands where the law is called -/
def itA (K : PySem.W.Frag) (a : Addr) (i : Nat) : Addr := match (K.lookup a).map (fun o : Obj => o.data) with
  | some (.seq its _) => (match its.toList[i]? with
    | some (.ref b) => b
    | _ => 0)
  | _ => 0
def tupAt (K : PySem.W.Frag) (a : Addr) (vs : List V) : Bool := match K.lookup a with
  | none => false
  | some ob => decide (ob.cls = .type "tuple") && (match ob.data with
    | .seq its _ => He.relAll vs its.toList && decide (its.size ≤ sizeLine)
    | _ => false)
theorem tupAt_ok {K : PySem.W.Frag} {a : Addr} {vs : List V} (h : tupAt K a vs = true) (H : Hp) : SqT K H a vs := by
  unfold tupAt at h
  split at h
  · cases h
  · rename_i ob q
    obtain ⟨h1, h2⟩ := He.ba h
    split at h2
    · rename_i its n e
      obtain ⟨h3, h4⟩ := He.ba h2
      exact .inr ⟨ob, its, n, q, of_decide_eq_true h1, e, of_decide_eq_true h4, He.relAll_ok h3⟩
    · cases h2
def dd (x : Str) (st : Stmt) : He.DefD := ⟨(x, none), x, x, defArgs st, defBody st, defScope st, [], []⟩
def dm (c m q : Str) (st : Stmt) : He.DefD := ⟨(c, some m), m, q, defArgs st, defBody st, defScope st, [], []⟩
def fns : List He.DefD := ([dd "carried" s_carried, dd "contains" s_contains, dd "carrying" s_carrying, dd "reached" s_reached, dd "least_labels" s_least_labels, dd "longer" s_longer, dd "best" s_best, dd "_law_churned" s__law_churned, dd "_law_urn_of" s__law_urn_of, dd "_law_upto" s__law_upto, dd "_law_choice" s__law_choice, dd "_law_equal" s__law_equal, dd "_law_some_set" s__law_some_set, dd "_law_all_signs" s__law_all_signs, dd "_law_some_form" s__law_some_form, dd "_law_carried" s__law_carried, dd "_law_some_forms" s__law_some_forms, dd "_law_some_makers" s__law_some_makers, dd "_law_unlike" s__law_unlike, dd "_law_within" s__law_within] : List He.DefD) ++ ([dd "_law_fit" s__law_fit, dd "_law_spread" s__law_spread, dd "_law_labelled" s__law_labelled, dd "_law_answer_due" s__law_answer_due, dd "_law_long_right" s__law_long_right, dd "law" s_law] : List He.DefD)
def fcs : List He.Fa := ([.glo "carried", .glo "contains", .glo "carrying", .glo "reached", .glo "least_labels", .glo "longer", .glo "best", .glo "_law_churned", .glo "_law_urn_of", .glo "_law_upto", .glo "_law_choice", .glo "_law_equal", .glo "_law_some_set", .glo "_law_all_signs", .glo "_law_some_form", .glo "_law_carried", .glo "_law_some_forms", .glo "_law_some_makers", .glo "_law_unlike", .glo "_law_within"] : List He.Fa) ++ ([.glo "_law_fit", .glo "_law_spread", .glo "_law_labelled", .glo "_law_answer_due", .glo "_law_long_right", .glo "law", .glo "PLAIN", .glo "FEATURES", .glo "EMPTY_LABEL", .free "range", .free "abs", .free "enumerate", .free "len", .free "int", .free "repr", .free "str", .free "tuple", .free "list", .free "zip", .free "all"] : List He.Fa) ++ ([.free "sorted", .free "set", .free "min", .free "dict", .int "CELL" 1, .int "LEVEL" 2, .int "BOLD" 3, .int "SLANT" 4, .int "OPENING" 5, .int "NAME" 0, .int "SOURCE" 1, .int "TARGET" 2, .int "COST" 3] : List He.Fa)
def exs (K : PySem.W.Frag) : Bool := He.tupB K "PLAIN" ((["plain", "", "", "", "", "", "", "", ""] : List Str).map He.Dv.str) && (He.tupB K "FEATURES" ((five : List Str).map He.Dv.str) && (tupAt K (He.ga K "EMPTY_LABEL") [.int 0, .int 0, .ref (itA K (He.ga K "EMPTY_LABEL") 2)] && (tupAt K (itA K (He.ga K "EMPTY_LABEL") 2) [] && (decide (PySem.W.nsIn K mainGlobals "heappush" = some (some (.builtin "_heapq.heappush"))) && (decide (PySem.W.nsIn K mainGlobals "heappop" = some (some (.builtin "_heapq.heappop"))))))))
def tfs : List He.Defn := [("contains", none)]
abbrev R : PySem.W.OpenRow := PySem.W.OpenLaw.row PySem.Challenge.rw_clipforms_k08_best_chains
def tbls : List He.Tab := []
abbrev hk : PySem.W.Hook := He.hookX 5 fcs fns tbls tfs exs
def ob (s : PySem.W.SharedT) : He.AlX := He.obsX 5 fcs fns tbls tfs exs (HandSHeadRun.getT s)
theorem ob_eq (s : PySem.W.SharedT) : ob s = hk.obs s.abs := He.obsX_eq (HandSHeadRun.getT_eq s)
def loose : List Str := (["heappop", "heappush", "FEATURES", "PLAIN", "CELL", "LEVEL", "BOLD", "SLANT", "OPENING", "carried", "NAME", "SOURCE", "TARGET", "COST", "EMPTY_LABEL", "contains", "carrying", "reached", "least_labels", "longer"] : List Str) ++ (["best", "_law_churned", "_law_urn_of", "_law_upto", "_law_choice", "_law_equal", "_law_some_text", "_law_some_marks", "_law_joined", "_law_some_cell", "_law_some_line", "_law_some_content", "_law_dropped", "_law_keeping", "_law_features_of", "_law_some_set", "_law_all_signs", "_law_some_form", "_law_switched", "_law_cell_text"] : List Str) ++ (["_law_carried", "_law_written", "_law_some_forms", "_law_some_makers", "_law_unlike", "_law_within", "_law_fit", "_law_spread", "_law_labelled", "_law_answer_due", "_law_long_right"] : List Str)
theorem runH (w : World) : HandSHeadRun.RunEqI R (PySem.W.view R.prog [54]) hk ob 40000 loose w := by
  unfold HandSHeadRun.RunEqI
  kernel_rfl
end Vf
end
section
set_option Elab.async false
set_option linter.all false
set_option maxRecDepth 100000
set_option maxHeartbeats 0
namespace Vf
open PySem PySem.Spec PyProof.Rows L2 GxR GenW RZ
section
variable {P : Program} {w : World} {K : PySem.W.Frag} {h : Heap} {mg : Str → Option Value} {base : Heap}
theorem fnd (c : He.SaysD fcs fns K) {x : Str} {st : Stmt} (hm : dd x st ∈ fns) : ∃ fd, FnP K x st fd := c.defs hm
theorem mk1 {x : Str} {st : Stmt} {k : Nat} {ps : List Str} {sp : Sp} {fd : FuncData} (X : K.In h) (G : h.Ns mainGlobals mg) (c : He.SaysD fcs fns K) (F : FnP K x st fd) (hg : He.Fa.glo x ∈ fcs) (O : FnOk P w K mg base CX0 k (He.fAd K (x, none)) fd ps sp)
    (hb : ∀ (kV doc pm : Value) (an : Option Addr) (cdv ct : Value) (us : List Value), us.length = ps.length → bindArgs (PySem.W.fnOf x x (defArgs st) (defBody st) (defScope st) .none kV doc pm an cdv ct) ⟨us, []⟩ = pure (ps.zip us)) : Df P w K mg base x k ps sp :=
  ⟨⟨_, fd, O, He.glo_ok X G (c.facts hg), F.kp, F.bindsN hb⟩⟩
theorem mkX {x : Str} {st : Stmt} {k : Nat} {ps : List Str} {sp : Sp} {fd : FuncData} (X : K.In h) (G : h.Ns mainGlobals mg) (c : He.SaysD fcs fns K) (F : FnP K x st fd) (hg : He.Fa.glo x ∈ fcs) (O : FnOk P w K mg base (L2.CX P w) k (He.fAd K (x, none)) fd ps sp)
    (hb : ∀ (kV doc pm : Value) (an : Option Addr) (cdv ct : Value) (us : List Value), us.length = ps.length → bindArgs (PySem.W.fnOf x x (defArgs st) (defBody st) (defScope st) .none kV doc pm an cdv ct) ⟨us, []⟩ = pure (ps.zip us)) : Dx P w K mg base x k ps sp :=
  ⟨⟨_, fd, O, He.glo_ok X G (c.facts hg), F.kp, F.bindsN hb⟩⟩
theorem mk2 {x : Str} {st : Stmt} {k : Nat} {ps : List Str} {sp : Sp} {fd : FuncData} (X : K.In h) (G : h.Ns mainGlobals mg) (c : He.SaysD fcs fns K) (F : FnP K x st fd) (hg : He.Fa.glo x ∈ fcs) (O : FnG P w K mg base CX0 k (He.fAd K (x, none)) fd ps sp)
    (hb : ∀ (kV doc pm : Value) (an : Option Addr) (cdv ct : Value) (us : List Value), us.length = ps.length → bindArgs (PySem.W.fnOf x x (defArgs st) (defBody st) (defScope st) .none kV doc pm an cdv ct) ⟨us, []⟩ = pure (ps.zip us)) : DfG P w K mg base x k ps sp :=
  ⟨⟨_, fd, O, He.glo_ok X G (c.facts hg), F.kp, F.bindsN hb⟩⟩
theorem ty_of (X : K.In h) (G : h.Ns mainGlobals mg) (c : He.SaysD fcs fns K) (m : exs K = true) : TD K mg := by
  have fr : ∀ {x : Str}, He.Fa.free x ∈ fcs → mg x = none := fun hx => He.free_ok X G (c.facts hx)
  have it : ∀ {x : Str} {i : Int}, He.Fa.int x i ∈ fcs → ∃ u, mg x = some u ∧ RelV (.int i) u := fun hx => by
    obtain ⟨t, e⟩ := He.int_ok X G (c.facts hx)
    exact ⟨_, e, t, rfl⟩
  have sr : ∀ {x z : Str}, He.Fa.str x z ∈ fcs → ∃ u, mg x = some u ∧ RelV (.str z) u := fun hx => by
    obtain ⟨t, e⟩ := He.str_ok X G (c.facts hx)
    exact ⟨_, e, t, rfl⟩
  have go : ∀ {x : Str}, He.Fa.glo x ∈ fcs → mg x = some (.ref (He.ga K x)) := fun hx => He.glo_ok X G (c.facts hx)
  obtain ⟨h1, m⟩ := He.ba m
  obtain ⟨h2, m⟩ := He.ba m
  obtain ⟨h3, m⟩ := He.ba m
  obtain ⟨h4, m⟩ := He.ba m
  obtain ⟨h5, m⟩ := He.ba m
  have h6 := m
  exact { b_range := fr (by simp [fcs]), b_abs := fr (by simp [fcs]), b_enumerate := fr (by simp [fcs]), b_len := fr (by simp [fcs]), b_int := fr (by simp [fcs]), b_repr := fr (by simp [fcs]), b_str := fr (by simp [fcs]), b_tuple := fr (by simp [fcs]), b_list := fr (by simp [fcs]), b_zip := fr (by simp [fcs]), b_all := fr (by simp [fcs]), b_sorted := fr (by simp [fcs]), b_set := fr (by simp [fcs]), b_min := fr (by simp [fcs]), b_dict := fr (by simp [fcs]), c_CELL := it (by simp [fcs]), c_LEVEL := it (by simp [fcs]), c_BOLD := it (by simp [fcs]), c_SLANT := it (by simp [fcs]), c_OPENING := it (by simp [fcs]), c_NAME := it (by simp [fcs]), c_SOURCE := it (by simp [fcs]), c_TARGET := it (by simp [fcs]), c_COST := it (by simp [fcs]), c_PLAIN := ⟨_, go (by simp [fcs]), fun H => He.tupB_ok h1 H⟩, c_FEATURES := ⟨_, go (by simp [fcs]), fun H => He.tupB_ok h2 H⟩, c_EMPTY_LABEL := ⟨_, _, go (by simp [fcs]), fun H => tupAt_ok h3 H, fun H => tupAt_ok h4 H⟩, h_heappush := PySem.W.mg_of X G (of_decide_eq_true h5), h_heappop := PySem.W.mg_of X G (of_decide_eq_true h6) }
theorem law_base (X : K.In h) (G : h.Ns mainGlobals mg) (c : He.SaysD fcs fns K) (T : TD K mg) (TB : ∀ p ∈ tfs.map (He.cT K), TabB base mg p.1 p.2) (tabs : ∀ t ∈ tbls, ∃ es n, KDict K w (t.1 K) es n) (mm : exs K = true) {fd : FuncData} (FL : FnP K "law" s_law fd) : FnG P w K mg base CX0 7 (He.fAd K ("law", none)) fd p_law (spLaw K) := by
  have tb_contains : TBx K mg base "contains" := TB (He.cT K ("contains", none)) (by simp [tfs])
  obtain ⟨f__law_churned, F__law_churned⟩ := fnd (x := "_law_churned") (st := s__law_churned) c (by simp [fns])
  have d__law_churned := mk1 X G c F__law_churned (by simp [fcs]) (ok_churned F__law_churned T.toTX (P := P) (w := w) (base := base)) (fun _ _ _ _ _ _ us hl => match us, hl with | [_, _], _ => rfl)
  obtain ⟨f__law_upto, F__law_upto⟩ := fnd (x := "_law_upto") (st := s__law_upto) c (by simp [fns])
  have d__law_upto := mk1 X G c F__law_upto (by simp [fcs]) (ok_upto F__law_upto T.toTX d__law_churned) (fun _ _ _ _ _ _ us hl => match us, hl with | [_, _], _ => rfl)
  obtain ⟨f__law_choice, F__law_choice⟩ := fnd (x := "_law_choice") (st := s__law_choice) c (by simp [fns])
  have d__law_choice := mk1 X G c F__law_choice (by simp [fcs]) (ok_choice F__law_choice T.toTX d__law_upto) (fun _ _ _ _ _ _ us hl => match us, hl with | [_, _], _ => rfl)
  obtain ⟨f__law_equal, F__law_equal⟩ := fnd (x := "_law_equal") (st := s__law_equal) c (by simp [fns])
  have d__law_equal := mk2 X G c F__law_equal (by simp [fcs]) (ok_equal F__law_equal T.toTX (P := P) (w := w) (base := base)) (fun _ _ _ _ _ _ us hl => match us, hl with | [_, _], _ => rfl)
  obtain ⟨f__law_urn_of, F__law_urn_of⟩ := fnd (x := "_law_urn_of") (st := s__law_urn_of) c (by simp [fns])
  have d__law_urn_of := mk1 X G c F__law_urn_of (by simp [fcs]) (ok_urn_of F__law_urn_of T.toTX (P := P) (w := w) (base := base)) (fun _ _ _ _ _ _ us hl => match us, hl with | [_], _ => rfl)
  obtain ⟨f_carried, F_carried⟩ := fnd (x := "carried") (st := s_carried) c (by simp [fns])
  have d_carried := mk1 X G c F_carried (by simp [fcs]) (ok_carried F_carried T (P := P) (w := w) (base := base)) (fun _ _ _ _ _ _ us hl => match us, hl with | [_], _ => rfl)
  obtain ⟨f__law_carried, F__law_carried⟩ := fnd (x := "_law_carried") (st := s__law_carried) c (by simp [fns])
  have d__law_carried := mk1 X G c F__law_carried (by simp [fcs]) (ok_lcar F__law_carried T (P := P) (w := w) (base := base)) (fun _ _ _ _ _ _ us hl => match us, hl with | [_], _ => rfl)
  obtain ⟨f__law_all_signs, F__law_all_signs⟩ := fnd (x := "_law_all_signs") (st := s__law_all_signs) c (by simp [fns])
  have d__law_all_signs := mk1 X G c F__law_all_signs (by simp [fcs]) (ok_all_signs F__law_all_signs T (P := P) (w := w) (base := base)) (fun _ _ _ _ _ _ us hl => match us, hl with | [], _ => rfl)
  obtain ⟨f__law_some_form, F__law_some_form⟩ := fnd (x := "_law_some_form") (st := s__law_some_form) c (by simp [fns])
  have d__law_some_form := mk1 X G c F__law_some_form (by simp [fcs]) (ok_some_form F__law_some_form T d__law_upto d__law_all_signs) (fun _ _ _ _ _ _ us hl => match us, hl with | [_, _, _], _ => rfl)
  obtain ⟨f__law_some_set, F__law_some_set⟩ := fnd (x := "_law_some_set") (st := s__law_some_set) c (by simp [fns])
  have d__law_some_set := mk1 X G c F__law_some_set (by simp [fcs]) (ok_some_set F__law_some_set T d__law_upto) (fun _ _ _ _ _ _ us hl => match us, hl with | [_], _ => rfl)
  obtain ⟨f__law_some_forms, F__law_some_forms⟩ := fnd (x := "_law_some_forms") (st := s__law_some_forms) c (by simp [fns])
  have d__law_some_forms := mk1 X G c F__law_some_forms (by simp [fcs]) (ok_some_forms F__law_some_forms T d__law_upto d__law_some_set d__law_some_form) (fun _ _ _ _ _ _ us hl => match us, hl with | [_, _], _ => rfl)
  obtain ⟨f__law_unlike, F__law_unlike⟩ := fnd (x := "_law_unlike") (st := s__law_unlike) c (by simp [fns])
  have d__law_unlike := mk1 X G c F__law_unlike (by simp [fcs]) (ok_unlike F__law_unlike T (P := P) (w := w) (base := base)) (fun _ _ _ _ _ _ us hl => match us, hl with | [_], _ => rfl)
  obtain ⟨f__law_some_makers, F__law_some_makers⟩ := fnd (x := "_law_some_makers") (st := s__law_some_makers) c (by simp [fns])
  have d__law_some_makers := mk1 X G c F__law_some_makers (by simp [fcs]) (ok_some_makers F__law_some_makers T d__law_upto d__law_choice d__law_unlike) (fun _ _ _ _ _ _ us hl => match us, hl with | [_, _, _], _ => rfl)
  obtain ⟨f_contains, F_contains⟩ := fnd (x := "contains") (st := s_contains) c (by simp [fns])
  have d_contains := mk1 X G c F_contains (by simp [fcs]) (ok_contains F_contains T tb_contains (P := P) (w := w)) (fun _ _ _ _ _ _ us hl => match us, hl with | [_, _], _ => rfl)
  obtain ⟨f_carrying, F_carrying⟩ := fnd (x := "carrying") (st := s_carrying) c (by simp [fns])
  have d_carrying := mk1 X G c F_carrying (by simp [fcs]) (ok_carrying F_carrying T d_contains d_carried) (fun _ _ _ _ _ _ us hl => match us, hl with | [_, _, _], _ => rfl)
  obtain ⟨f_reached, F_reached⟩ := fnd (x := "reached") (st := s_reached) c (by simp [fns])
  have d_reached := mk1 X G c F_reached (by simp [fcs]) (ok_reached F_reached T (P := P) (w := w) (base := base)) (fun _ _ _ _ _ _ us hl => match us, hl with | [_, _], _ => rfl)
  obtain ⟨f_longer, F_longer⟩ := fnd (x := "longer") (st := s_longer) c (by simp [fns])
  have d_longer := mk1 X G c F_longer (by simp [fcs]) (ok_longer F_longer T (P := P) (w := w) (base := base)) (fun _ _ _ _ _ _ us hl => match us, hl with | [_, _], _ => rfl)
  obtain ⟨f_least_labels, F_least_labels⟩ := fnd (x := "least_labels") (st := s_least_labels) c (by simp [fns])
  have d_least_labels := mk1 X G c F_least_labels (by simp [fcs]) (ok_least_labels F_least_labels T d_longer) (fun _ _ _ _ _ _ us hl => match us, hl with | [_, _], _ => rfl)
  obtain ⟨f_best, F_best⟩ := fnd (x := "best") (st := s_best) c (by simp [fns])
  have d_best := mk1 X G c F_best (by simp [fcs]) (ok_best F_best T d_reached d_carrying d_least_labels) (fun _ _ _ _ _ _ us hl => match us, hl with | [_, _, _, _, _], _ => rfl)
  obtain ⟨f__law_within, F__law_within⟩ := fnd (x := "_law_within") (st := s__law_within) c (by simp [fns])
  have d__law_within := mk1 X G c F__law_within (by simp [fcs]) (ok_within F__law_within T (P := P) (w := w) (base := base)) (fun _ _ _ _ _ _ us hl => match us, hl with | [_, _], _ => rfl)
  obtain ⟨f__law_fit, F__law_fit⟩ := fnd (x := "_law_fit") (st := s__law_fit) c (by simp [fns])
  have d__law_fit := mk1 X G c F__law_fit (by simp [fcs]) (ok_fit F__law_fit T d__law_carried d__law_within) (fun _ _ _ _ _ _ us hl => match us, hl with | [_, _, _], _ => rfl)
  obtain ⟨f__law_labelled, F__law_labelled⟩ := fnd (x := "_law_labelled") (st := s__law_labelled) c (by simp [fns])
  have d__law_labelled := mk1 X G c F__law_labelled (by simp [fcs]) (ok_labelled F__law_labelled T (P := P) (w := w) (base := base)) (fun _ _ _ _ _ _ us hl => match us, hl with | [_, _], _ => rfl)
  obtain ⟨f__law_spread, F__law_spread⟩ := fnd (x := "_law_spread") (st := s__law_spread) c (by simp [fns])
  have d__law_spread := mk1 X G c F__law_spread (by simp [fcs]) (ok_spread F__law_spread T (P := P) (w := w) (base := base)) (fun _ _ _ _ _ _ us hl => match us, hl with | [_, _], _ => rfl)
  obtain ⟨f__law_answer_due, F__law_answer_due⟩ := fnd (x := "_law_answer_due") (st := s__law_answer_due) c (by simp [fns])
  have d__law_answer_due := mk1 X G c F__law_answer_due (by simp [fcs]) (ok_due F__law_answer_due T d__law_spread d__law_fit d__law_labelled d__law_carried d__law_within) (fun _ _ _ _ _ _ us hl => match us, hl with | [_, _, _, _, _], _ => rfl)
  obtain ⟨f__law_long_right, F__law_long_right⟩ := fnd (x := "_law_long_right") (st := s__law_long_right) c (by simp [fns])
  have d__law_long_right := mk2 X G c F__law_long_right (by simp [fcs]) (ok_long_right F__law_long_right T d__law_upto d__law_choice d__law_equal d__law_answer_due d_best) (fun _ _ _ _ _ _ us hl => match us, hl with | [_], _ => rfl)
  exact ok_law FL T d__law_urn_of d__law_upto d__law_choice d__law_equal d__law_long_right d__law_some_forms d__law_some_makers d__law_carried d__law_answer_due d_best
end
abbrev LW : PySem.W.OpenLaw := PySem.Challenge.rw_clipforms_k08_best_chains
theorem law_at {w : World} {mg : Str → Option Value} {fa : Addr} {h : Heap} (Y : hk.says w h) (G : h.Ns mainGlobals mg) (hmg : mg "law" = some (.ref fa)) : ∃ K : PySem.W.Frag, K.In h ∧ LawAtG LW w K CX0 7 63 "script" mg fa h := by
  obtain ⟨K, X, s⟩ := Y
  have c := s.t.d
  have T := ty_of X G c s.more
  obtain ⟨fd, FL⟩ := fnd (x := "law") (st := s_law) c (by simp [fns])
  have e := hmg.symm.trans (He.glo_ok X G (c.facts (f := .glo "law") (by simp [fcs])))
  cases e
  have inT : ∀ p ∈ tfs.map (He.cT K), ∃ q ∈ tfs, He.cT K q = p := fun p hp => List.mem_map.mp hp
  refine ⟨K, X, fd, tfs.map (He.cT K), spLaw K, fun p hp => ?_, fun p hp => ?_, fun p hp => ?_, fun s v => ?_, fun H a ns hl _ hT _ hS => ?_, fun base Xb Gb TB => ?_⟩
  · obtain ⟨q, hq, rfl⟩ := inT p hp
    exact s.empty q hq
  · obtain ⟨q, hq, rfl⟩ := inT p hp
    exact s.out q hq
  · obtain ⟨q, hq, rfl⟩ := inT p hp
    exact PySem.W.codeHd_of_K X (s.hd q hq)
  · exact (FunD.bindsA (ps := ["script"]) FL fun _ _ _ _ _ _ us hl => match us, hl with | [_], _ => rfl) s [v] rfl
  · have tt : ∀ q ∈ tfs, TabG H (He.cT K q).2 := fun q hq => ⟨#[], hT (He.cT K q) (List.mem_map.mpr ⟨q, hq, rfl⟩), by first | exact .nil | trivial | (intro z; simp at z) | simp [TriplesOk]⟩
    exact ⟨a, ns, rfl, hS, hl, tt ("contains", none) (by simp [tfs]), fun _ => rfl⟩
  · exact law_base X G c T TB (fun t ht => by obtain ⟨i, hi, e⟩ := List.mem_iff_getElem.mp ht; exact s.t.tab i (by rw [List.getElem?_eq_getElem hi, e])) s.more FL
end Vf
end
section
set_option Elab.async false
set_option linter.all false
set_option maxRecDepth 100000
set_option maxHeartbeats 0
open PySem PySem.W PySem.Calls PyProof.Rows
theorem PySem.Challenge.cw_clipforms_k08_best_chains_holds : PySem.Challenge.rw_clipforms_k08_best_chains.Holds := by
  w_on; o_law
  refine HandSHeadRun.head_imp (r := OpenLaw.row PySem.Challenge.rw_clipforms_k08_best_chains) (q := view (OpenLaw.row PySem.Challenge.rw_clipforms_k08_best_chains).prog [54]) (H := Vf.hk) (ob := Vf.ob) (M := 40000) (loose := Vf.loose) (d := HandSHeadRun.topDef (OpenLaw.row PySem.Challenge.rw_clipforms_k08_best_chains).prog 54) (kwd := []) Vf.ob_eq
    Vf.runH (by kernel_rfl) (by kernel_rfl) (by kernel_rfl) (by rfl) (by first | assumption | decide +kernel) (by decide +kernel) ⟨rfl, rfl, rfl, rfl, rfl, by decide +kernel⟩ ?hw ?hc
  case hw => w_witness2
  case hc =>
    refine Vf.walkG (l := PySem.Challenge.rw_clipforms_k08_best_chains) (n := 63) (k := 7) (x := "script") (CX := fun _ => L2.CX0) rfl (by decide) (by kernel_rfl) ⟨rfl, by decide, by decide⟩ ?F (fun _ _ _ _ _ z => z)
    intro w mg fa h Y G hmg0
    have hmg : mg ("law" : PySem.Str) = some (.ref fa) := by
      have e : (HandSHeadRun.topDef (OpenLaw.row PySem.Challenge.rw_clipforms_k08_best_chains).prog 54).name = ("law" : PySem.Str) := by kernel_rfl
      rw [← e]
      exact hmg0
    exact Vf.law_at Y G hmg
end
